import PyProof.Rows.All
import Wide.All
import OpenK.AllK
import Wide.FinOn
import PyProof.EqAt
import PyProof.EqKinds
import PyProof.TupleCall
import Open.SpecLaws
import KE.OsHead
import KE.OsGo
import HandS.ForMost
import HandS.ForSpec
import HandS.Zip
import HandS.SetKeys
import HandS.Deep
import HandS.Conv
import HandS.Flow
import HandS.SetFor
import HandS.SortOrd
import HandS.SortRule
import HandS.TupSets
import HandS.Walk
import KE.GoesMore
import KE.GoesZip
import HandS.Remove
import HandS.SortInts
import HandS.DictTup
import HandS.TupAny
import HandS.TupLen
import KE.KDictSum
import PyProof.TupleOfSeq
import KE.KDictDisplayH
import KE.GoesEnumKw
import PyProof.DictMoreH
import PyProof.AutoSeq1
import HandS.Lambda
import HandS.Nested
import KE.KMinKey
import HandS.EndTab
import PySem.Challenge.RW_joinplans_s01_answers
set_option Elab.async false
set_option maxRecDepth 100000
set_option maxHeartbeats 2000000
/-! What is left: two ways of throwing out (one after another; all at once) come to the same. Plain Lean. -/
namespace JpLeft
variable {α : Type}
/-- a family of lists, n of them; R i j x y: row x of i agrees with row y of j -/
def hold (R : Nat → Nat → α → α → Bool) (l : List (List α)) (i j : Nat) : List (List α) := l.set i ((l.getD i []).filter fun x => (l.getD j []).any fun y => R i j x y)
def pass (R : Nat → Nat → α → α → Bool) (ps : List Nat) (l : List (List α)) : List (List α) := ps.foldl (fun u i => ps.foldl (fun w j => hold R w i j) u) l
/-- all at once, by another one each -/
def thr (R : Nat → Nat → α → α → Bool) (l : List (List α)) : List (List α) := (List.range l.length).map fun i => (l.getD i []).filter fun x => (List.range l.length).all fun j => j == i || (l.getD j []).any fun y => R i j x y
/-- each list a sublist -/
def Sub (f l : List (List α)) : Prop := f.length = l.length ∧ ∀ i, (f.getD i []).Sublist (l.getD i [])
def Fine (R : Nat → Nat → α → α → Bool) (l : List (List α)) : Prop := ∀ i j x, i < l.length → j < l.length → j ≠ i → x ∈ l.getD i [] → ∃ y, y ∈ l.getD j [] ∧ R i j x y = true
theorem Sub.refl (l : List (List α)) : Sub l l := ⟨rfl, fun _ => List.Sublist.refl _⟩
theorem Sub.trans {a b c : List (List α)} (h : Sub a b) (k : Sub b c) : Sub a c := ⟨h.1.trans k.1, fun i => (h.2 i).trans (k.2 i)⟩
theorem getD_ext {a b : List (List α)} (hl : a.length = b.length) (h : ∀ i, a.getD i [] = b.getD i []) : a = b := by
  apply List.ext_getElem hl
  intro i h1 h2
  have := h i
  simpa [List.getD_eq_getElem?_getD, List.getElem?_eq_getElem, h1, h2] using this
theorem Sub.antisymm {a b : List (List α)} (h : Sub a b) (k : Sub b a) : a = b := getD_ext h.1 fun i => (h.2 i).eq_of_length_le (k.2 i).length_le
theorem getD_set (l : List (List α)) (i k : Nat) (v : List α) : (l.set i v).getD k [] = if k = i ∧ i < l.length then v else l.getD k [] := by
  simp only [List.getD_eq_getElem?_getD, List.getElem?_set]
  by_cases h : i = k
  · subst h
    by_cases h2 : i < l.length
    · simp [h2]
    · simp [h2, List.getElem?_eq_none (Nat.le_of_not_lt h2)]
  · have : ¬ (k = i) := fun e => h e.symm
    simp [h, this]
theorem hold_length (R : Nat → Nat → α → α → Bool) (l : List (List α)) (i j : Nat) : (hold R l i j).length = l.length := by simp [hold]
theorem hold_sub (R : Nat → Nat → α → α → Bool) (l : List (List α)) (i j : Nat) : Sub (hold R l i j) l := by
  refine ⟨hold_length R l i j, fun k => ?_⟩
  unfold hold
  rw [getD_set]
  split
  · rename_i h
    rw [h.1]
    exact List.filter_sublist
  · exact List.Sublist.refl _
theorem sub_hold {R : Nat → Nat → α → α → Bool} (refl : ∀ i x, R i i x x = true) {f l : List (List α)} (hs : Sub f l) (hf : Fine R f) {i j : Nat} (hj : j < l.length) : Sub f (hold R l i j) := by
  refine ⟨hs.1.trans (hold_length R l i j).symm, fun k => ?_⟩
  unfold hold
  rw [getD_set]
  split
  · rename_i h
    obtain ⟨rfl, hk⟩ := h
    have e : (f.getD k []).filter (fun x => (l.getD j []).any fun y => R k j x y) = f.getD k [] := by
      rw [List.filter_eq_self]
      intro x hx
      rw [List.any_eq_true]
      by_cases hjk : j = k
      · subst hjk
        exact ⟨x, (hs.2 j).subset hx, refl j x⟩
      · obtain ⟨y, hy, hr⟩ := hf k j x (by rw [hs.1]; exact hk) (by rw [hs.1]; exact hj) hjk hx
        exact ⟨y, (hs.2 j).subset hy, hr⟩
    have := (hs.2 k).filter (fun x => (l.getD j []).any fun y => R k j x y)
    rw [e] at this
    exact this
  · exact hs.2 k
theorem inner_sub (R : Nat → Nat → α → α → Bool) (i : Nat) : ∀ (ps : List Nat) (l : List (List α)), Sub (ps.foldl (fun w j => hold R w i j) l) l
  | [], l => Sub.refl l
  | j :: ps, l => (inner_sub R i ps (hold R l i j)).trans (hold_sub R l i j)
theorem outer_sub (R : Nat → Nat → α → α → Bool) (qs : List Nat) : ∀ (ps : List Nat) (l : List (List α)), Sub (ps.foldl (fun u i => qs.foldl (fun w j => hold R w i j) u) l) l
  | [], l => Sub.refl l
  | i :: ps, l => (outer_sub R qs ps _).trans (inner_sub R i qs l)
theorem pass_sub (R : Nat → Nat → α → α → Bool) (ps : List Nat) (l : List (List α)) : Sub (pass R ps l) l := outer_sub R ps ps l
theorem sub_inner {R : Nat → Nat → α → α → Bool} (refl : ∀ i x, R i i x x = true) {f : List (List α)} (hf : Fine R f) (i : Nat) : ∀ (ps : List Nat) (l : List (List α)), (∀ j ∈ ps, j < l.length) → Sub f l → Sub f (ps.foldl (fun w j => hold R w i j) l)
  | [], l, _, h => h
  | j :: ps, l, hp, h => sub_inner refl hf i ps (hold R l i j) (fun k hk => by rw [hold_length]; exact hp k (List.mem_cons_of_mem _ hk)) (sub_hold refl h hf (hp j List.mem_cons_self))
theorem sub_outer {R : Nat → Nat → α → α → Bool} (refl : ∀ i x, R i i x x = true) {f : List (List α)} (hf : Fine R f) (qs : List Nat) : ∀ (ps : List Nat) (l : List (List α)), (∀ j ∈ qs, j < l.length) → Sub f l → Sub f (ps.foldl (fun u i => qs.foldl (fun w j => hold R w i j) u) l)
  | [], l, _, h => h
  | i :: ps, l, hp, h => sub_outer refl hf qs ps _ (fun k hk => by rw [(inner_sub R i qs l).1]; exact hp k hk) (sub_inner refl hf i qs l hp h)
theorem sub_pass {R : Nat → Nat → α → α → Bool} (refl : ∀ i x, R i i x x = true) {f l : List (List α)} (hf : Fine R f) (hs : Sub f l) : Sub f (pass R (List.range l.length) l) :=
  sub_outer refl hf _ _ l (fun j hj => List.mem_range.mp hj) hs
/-- what a pass leaves as it is is fine -/
theorem inner_le_hold (R : Nat → Nat → α → α → Bool) (i : Nat) : ∀ (ps : List Nat) (l : List (List α)) (j : Nat), j ∈ ps → Sub l (ps.foldl (fun w j => hold R w i j) l) → Sub l (hold R l i j)
  | [], l, j, h, _ => by cases h
  | k :: ps, l, j, h, hs => by
    have h1 : Sub l (hold R l i k) := hs.trans (inner_sub R i ps (hold R l i k))
    have e : hold R l i k = l := (hold_sub R l i k).antisymm h1
    rcases List.mem_cons.mp h with rfl | h
    · exact h1
    · have hs' : Sub l (ps.foldl (fun w j => hold R w i j) l) := by
        have : (k :: ps).foldl (fun w j => hold R w i j) l = ps.foldl (fun w j => hold R w i j) l := by
          show ps.foldl _ (hold R l i k) = _
          rw [e]
        rw [this] at hs
        exact hs
      exact inner_le_hold R i ps l j h hs'
theorem outer_le_hold (R : Nat → Nat → α → α → Bool) (qs : List Nat) : ∀ (ps : List Nat) (l : List (List α)) (i j : Nat), i ∈ ps → j ∈ qs → Sub l (ps.foldl (fun u i => qs.foldl (fun w j => hold R w i j) u) l) → Sub l (hold R l i j)
  | [], l, i, j, h, _, _ => by cases h
  | k :: ps, l, i, j, h, hj, hs => by
    have h1 : Sub l (qs.foldl (fun w j => hold R w k j) l) := hs.trans (outer_sub R qs ps _)
    have e : qs.foldl (fun w j => hold R w k j) l = l := (inner_sub R k qs l).antisymm h1
    rcases List.mem_cons.mp h with rfl | h
    · exact inner_le_hold R i qs l j hj h1
    · have hs' : Sub l (ps.foldl (fun u i => qs.foldl (fun w j => hold R w i j) u) l) := by
        have : (k :: ps).foldl (fun u i => qs.foldl (fun w j => hold R w i j) u) l = ps.foldl (fun u i => qs.foldl (fun w j => hold R w i j) u) l := by
          show ps.foldl _ (qs.foldl (fun w j => hold R w k j) l) = _
          rw [e]
        rw [this] at hs
        exact hs
      exact outer_le_hold R qs ps l i j h hj hs'
theorem fine_of_pass {R : Nat → Nat → α → α → Bool} {l : List (List α)} (h : pass R (List.range l.length) l = l) : Fine R l := by
  intro i j x hi hj _ hx
  have hs : Sub l (hold R l i j) := outer_le_hold R _ _ l i j (List.mem_range.mpr hi) (List.mem_range.mpr hj) (by
    show Sub l (pass R (List.range l.length) l)
    rw [h]
    exact Sub.refl l)
  have hx' := (hs.2 i).subset hx
  unfold hold at hx'
  rw [getD_set, if_pos ⟨rfl, hi⟩, List.mem_filter, List.any_eq_true] at hx'
  exact hx'.2
theorem thr_length (R : Nat → Nat → α → α → Bool) (l : List (List α)) : (thr R l).length = l.length := by simp [thr]
theorem thr_getD (R : Nat → Nat → α → α → Bool) (l : List (List α)) {i : Nat} (hi : i < l.length) : (thr R l).getD i [] = (l.getD i []).filter fun x => (List.range l.length).all fun j => j == i || (l.getD j []).any fun y => R i j x y := by
  unfold thr
  simp [List.getD_eq_getElem?_getD, hi]
theorem getD_out {l : List (List α)} {i : Nat} (h : ¬ i < l.length) : l.getD i [] = [] := by
  simp [List.getD_eq_getElem?_getD, List.getElem?_eq_none (Nat.le_of_not_lt h)]
theorem thr_sub (R : Nat → Nat → α → α → Bool) (l : List (List α)) : Sub (thr R l) l := by
  refine ⟨thr_length R l, fun i => ?_⟩
  by_cases hi : i < l.length
  · rw [thr_getD R l hi]
    exact List.filter_sublist
  · rw [getD_out (by rw [thr_length]; exact hi)]
    exact List.nil_sublist _
theorem sub_thr {R : Nat → Nat → α → α → Bool} {f l : List (List α)} (hf : Fine R f) (hs : Sub f l) : Sub f (thr R l) := by
  refine ⟨hs.1.trans (thr_length R l).symm, fun i => ?_⟩
  by_cases hi : i < l.length
  · rw [thr_getD R l hi]
    have e : (f.getD i []).filter (fun x => (List.range l.length).all fun j => j == i || (l.getD j []).any fun y => R i j x y) = f.getD i [] := by
      rw [List.filter_eq_self]
      intro x hx
      rw [List.all_eq_true]
      intro j hj
      have hj' := List.mem_range.mp hj
      by_cases e : j = i
      · simp [e]
      · obtain ⟨y, hy, hr⟩ := hf i j x (by rw [hs.1]; exact hi) (by rw [hs.1]; exact hj') e hx
        rw [Bool.or_eq_true]
        right
        rw [List.any_eq_true]
        exact ⟨y, (hs.2 j).subset hy, hr⟩
    have := (hs.2 i).filter (fun x => (List.range l.length).all fun j => j == i || (l.getD j []).any fun y => R i j x y)
    rw [e] at this
    exact this
  · rw [getD_out (l := f) (by rw [hs.1]; exact hi)]
    exact List.nil_sublist _
theorem fine_of_thr {R : Nat → Nat → α → α → Bool} {l : List (List α)} (h : thr R l = l) : Fine R l := by
  intro i j x hi hj hne hx
  have e := thr_getD R l hi
  rw [h] at e
  rw [e, List.mem_filter, List.all_eq_true] at hx
  have := hx.2 j (List.mem_range.mpr hj)
  rw [Bool.or_eq_true, List.any_eq_true] at this
  rcases this with q | q
  · exact absurd (eq_of_beq q) hne
  · exact q
/-- how many rows there are -/
def cnt (l : List (List α)) : Nat := (l.map List.length).sum
theorem cnt_flatten (l : List (List α)) : l.flatten.length = cnt l := by
  unfold cnt
  rw [List.length_flatten]
theorem sub_cnt : ∀ {f l : List (List α)}, Sub f l → cnt f ≤ cnt l ∧ (cnt f = cnt l → f = l)
  | [], [], _ => ⟨Nat.le_refl _, fun _ => rfl⟩
  | [], _ :: _, h => by cases h.1
  | _ :: _, [], h => by cases h.1
  | x :: f, y :: l, h => by
    have h0 : x.Sublist y := h.2 0
    have ht : Sub f l := ⟨Nat.succ.inj h.1, fun i => h.2 (i + 1)⟩
    obtain ⟨a, b⟩ := sub_cnt ht
    have hl := h0.length_le
    have e1 : cnt (x :: f) = x.length + cnt f := by simp [cnt]
    have e2 : cnt (y :: l) = y.length + cnt l := by simp [cnt]
    refine ⟨by omega, fun e => ?_⟩
    have : x = y := h0.eq_of_length_le (by omega)
    rw [this, b (by omega)]
def times (f : List (List α) → List (List α)) : Nat → List (List α) → List (List α)
  | 0, x => x
  | n + 1, x => times f n (f x)
theorem times_sub (f : List (List α) → List (List α)) (hf : ∀ l, Sub (f l) l) : ∀ n l, Sub (times f n l) l
  | 0, l => Sub.refl l
  | n + 1, l => (times_sub f hf n (f l)).trans (hf l)
theorem times_fix (f : List (List α) → List (List α)) (hf : ∀ l, Sub (f l) l) : ∀ n l, cnt l < n → f (times f n l) = times f n l
  | 0, l, h => by omega
  | n + 1, l, h => by
    show f (times f n (f l)) = times f n (f l)
    by_cases e : f l = l
    · have : ∀ n, times f n l = l := by
        intro n
        induction n with
        | zero => rfl
        | succ n ih =>
          show times f n (f l) = l
          rw [e]
          exact ih
      rw [e, this n]
      exact e
    · obtain ⟨a, b⟩ := sub_cnt (hf l)
      have : cnt (f l) ≠ cnt l := fun q => e (b q)
      exact times_fix f hf n (f l) (by omega)
theorem times_keep (f : List (List α) → List (List α)) (n0 : Nat) {g : List (List α)} (hf : ∀ l, l.length = n0 → Sub g l → Sub g (f l)) (hl : ∀ l, l.length = n0 → (f l).length = n0) : ∀ n l, l.length = n0 → Sub g l → Sub g (times f n l)
  | 0, l, _, h => h
  | n + 1, l, e, h => times_keep f n0 hf hl n (f l) (hl l e) (hf l e h)
/-- a family that is fine, lies within l, and that every fine family within l lies within: the spec's -/
theorem left_is {R : Nat → Nat → α → α → Bool} (refl : ∀ i x, R i i x x = true) {l f : List (List α)} (hs : Sub f l) (hf : Fine R f) (hm : ∀ g, Sub g l → Fine R g → Sub g f) : times (pass R (List.range l.length)) (l.flatten.length + 1) l = f := by
  have hfix := times_fix (pass R (List.range l.length)) (fun u => pass_sub R _ u) (l.flatten.length + 1) l (by rw [cnt_flatten]; omega)
  have hsub := times_sub (pass R (List.range l.length)) (fun u => pass_sub R _ u) (l.flatten.length + 1) l
  have hfine : Fine R (times (pass R (List.range l.length)) (l.flatten.length + 1) l) := fine_of_pass (by rw [hsub.1]; exact hfix)
  refine (hm _ hsub hfine).antisymm ?_
  exact times_keep _ l.length (fun u e h => by rw [← e]; exact sub_pass refl hf h) (fun u e => (pass_sub R _ u).1.trans e) _ l rfl hs
end JpLeft
/-! An atom's row bound to its variables, as a dict in the order of the terms; two such dicts agree. Plain Lean. -/
namespace JpBind
open MdBase
abbrev Dct := List (Nat × Int)
/-- one term and its value -/
def step (d : Dct) (p : Term × Int) : Option Dct := match p.1 with
  | .con y => if y = p.2 then some d else none
  | .var v => match d.lookup v with
    | some y => if y = p.2 then some d else none
    | none => some (d ++ [(v, p.2)])
def bindL : Dct → List (Term × Int) → Option Dct
  | d, [] => some d
  | d, p :: ps => match step d p with
    | none => none
    | some e => bindL e ps
def bind (ts : List Term) (x : Row) : Option Dct := bindL [] (ts.zip x)
theorem bindL_append : ∀ (ps qs : List (Term × Int)) (d : Dct), bindL d (ps ++ qs) = (bindL d ps).bind fun e => bindL e qs
  | [], qs, d => rfl
  | p :: ps, qs, d => by
    show (match step d p with | none => none | some e => bindL e (ps ++ qs)) = (match step d p with | none => none | some e => bindL e ps).bind _
    cases h : step d p with
    | none => rfl
    | some e => exact bindL_append ps qs e
theorem bindL_snoc {ps : List (Term × Int)} {p : Term × Int} {d e : Dct} (h : bindL d ps = some e) : bindL d (ps ++ [p]) = step e p := by
  rw [bindL_append, h]
  show bindL e [p] = step e p
  show (match step e p with | none => none | some e => bindL e []) = step e p
  cases step e p with
  | none => rfl
  | some _ => rfl
theorem bindL_stop {ps qs : List (Term × Int)} {p : Term × Int} {d e : Dct} (h : bindL d ps = some e) (h2 : step e p = none) : bindL d (ps ++ p :: qs) = none := by
  rw [bindL_append, h]
  show (match step e p with | none => none | some e => bindL e qs) = none
  rw [h2]
theorem lookup_append {k : Nat} : ∀ (a b : Dct), (a ++ b).lookup k = (a.lookup k).or (b.lookup k)
  | [], b => by simp
  | (j, x) :: a, b => by
    simp only [List.cons_append, List.lookup_cons]
    cases k == j with
    | true => rfl
    | false => exact lookup_append a b
theorem lookup_snoc {k v : Nat} {z : Int} (a : Dct) : (a ++ [(v, z)]).lookup k = (a.lookup k).or (if k = v then some z else none) := by
  rw [lookup_append]
  congr 1
  by_cases h : k = v
  · subst h
    simp
  · have : (k == v) = false := by simp [h]
    simp [List.lookup_cons, this, h]
/-- what a bound dict holds: the first term that is that variable -/
theorem bindL_lookup {v : Nat} : ∀ (ps : List (Term × Int)) (d e : Dct), bindL d ps = some e → e.lookup v = (d.lookup v).or (ps.findSome? fun p => if p.1 = .var v then some p.2 else none)
  | [], d, e, h => by
    cases h
    simp
  | p :: ps, d, e, h => by
    rw [bindL] at h
    cases hs : step d p with
    | none =>
      rw [hs] at h
      cases h
    | some d1 =>
      rw [hs] at h
      rw [bindL_lookup ps d1 e h]
      obtain ⟨t, z⟩ := p
      cases t with
      | con y =>
        have e1 : d1 = d := by
          simp only [step] at hs
          split at hs <;> simp at hs
          exact hs.symm
        subst e1
        simp
      | var u =>
        simp only [step] at hs
        cases hl : d.lookup u with
        | some y =>
          rw [hl] at hs
          simp only at hs
          split at hs
          · cases hs
            by_cases huv : u = v
            · subst huv
              rw [hl]
              rfl
            · have hne : ¬ (Term.var u = Term.var v) := fun q => huv (Term.var.inj q)
              simp [List.findSome?_cons, huv]
          · cases hs
        | none =>
          rw [hl] at hs
          cases hs
          rw [lookup_snoc]
          by_cases huv : u = v
          · subst huv
            rw [hl]
            simp [List.findSome?_cons]
          · have hvu : ¬ v = u := fun q => huv q.symm
            simp [List.findSome?_cons, huv, hvu]
theorem keys_step {d e : Dct} {p : Term × Int} (h : step d p = some e) (hn : (d.map (·.1)).Nodup) : (e.map (·.1)).Nodup := by
  obtain ⟨t, z⟩ := p
  cases t with
  | con y =>
    simp only [step] at h
    split at h <;> simp at h
    rw [← h]
    exact hn
  | var v =>
    simp only [step] at h
    cases hl : d.lookup v with
    | some y =>
      rw [hl] at h
      simp only at h
      split at h
      · cases h
        exact hn
      · cases h
    | none =>
      rw [hl] at h
      cases h
      rw [List.map_append, List.nodup_append]
      refine ⟨hn, by simp, ?_⟩
      intro a ha b hb
      simp at hb
      subst hb
      intro e
      subst e
      rw [List.mem_map] at ha
      obtain ⟨q, hq, rfl⟩ := ha
      rw [List.lookup_eq_none_iff] at hl
      have := hl q hq
      simp at this
theorem keys_nodup : ∀ (ps : List (Term × Int)) (d e : Dct), bindL d ps = some e → (d.map (·.1)).Nodup → (e.map (·.1)).Nodup
  | [], d, e, h, hn => by
    cases h
    exact hn
  | p :: ps, d, e, h, hn => by
    rw [bindL] at h
    cases hs : step d p with
    | none =>
      rw [hs] at h
      cases h
    | some d1 =>
      rw [hs] at h
      exact keys_nodup ps d1 e h (keys_step hs hn)
theorem bind_lookup {ts : List Term} {x : Row} {d : Dct} (h : bind ts x = some d) (v : Nat) : d.lookup v = (ts.zip x).findSome? fun p => if p.1 = .var v then some p.2 else none := by
  have := bindL_lookup (v := v) (ts.zip x) [] d h
  simpa using this
theorem bind_nodup {ts : List Term} {x : Row} {d : Dct} (h : bind ts x = some d) : (d.map (·.1)).Nodup := keys_nodup _ [] d h List.nodup_nil
theorem mem_iff_lookup {d : Dct} (hn : (d.map (·.1)).Nodup) {v : Nat} {z : Int} : (v, z) ∈ d ↔ d.lookup v = some z := by
  induction d with
  | nil => simp
  | cons p d ih =>
    obtain ⟨u, y⟩ := p
    rw [List.map_cons, List.nodup_cons] at hn
    have ih := ih hn.2
    rw [List.mem_cons, List.lookup_cons]
    by_cases h : v = u
    · subst h
      simp only [beq_self_eq_true]
      constructor
      · rintro (e | e)
        · cases e
          rfl
        · exact absurd (List.mem_map.mpr ⟨_, e, rfl⟩) hn.1
      · intro e
        cases e
        exact Or.inl rfl
    · have hb : (v == u) = false := by simp [h]
      rw [hb]
      constructor
      · rintro (e | e)
        · exact absurd (congrArg Prod.fst e) h
        · exact ih.mp e
      · intro e
        exact Or.inr (ih.mpr e)
/-- the spec's fitting and this binding tell the same -/
def Rel : Option Env → Option Dct → Prop
  | none, none => True
  | some e, some d => ∀ v, e.lookup v = d.lookup v
  | _, _ => False
theorem fit_bindL : ∀ (ts : List Term) (x : Row) (e : Env) (d : Dct), ts.length = x.length → (∀ v, e.lookup v = d.lookup v) → Rel (fit e ts x) (bindL d (ts.zip x))
  | [], [], e, d, _, h => h
  | [], _ :: _, _, _, h, _ => by cases h
  | _ :: _, [], _, _, h, _ => by cases h
  | t :: ts, z :: x, e, d, hl, h => by
    have hl' : ts.length = x.length := Nat.succ.inj hl
    show Rel (match fit1 e t z with | none => none | some f => fit f ts x) (match step d (t, z) with | none => none | some e => bindL e (ts.zip x))
    cases t with
    | con y =>
      by_cases hy : y = z
      · simp only [fit1, step, if_pos hy]
        exact fit_bindL ts x e d hl' h
      · simp only [fit1, step, if_neg hy]
        exact trivial
    | var v =>
      simp only [fit1, step, h v]
      cases hd : d.lookup v with
      | some y =>
        by_cases hy : y = z
        · simp only [if_pos hy]
          exact fit_bindL ts x e d hl' h
        · simp only [if_neg hy]
          exact trivial
      | none =>
        refine fit_bindL ts x ((v, z) :: e) (d ++ [(v, z)]) hl' fun u => ?_
        rw [lookup_snoc, List.lookup_cons, h u]
        by_cases huv : u = v
        · subst huv
          simp [hd]
        · have hb : (u == v) = false := by simp [huv]
          simp [hb, huv]
theorem fit_bind {ts : List Term} {x : Row} (hl : ts.length = x.length) : Rel (fit [] ts x) (bind ts x) := fit_bindL ts x [] [] hl fun _ => rfl
theorem isSome_bind {ts : List Term} {x : Row} (hl : ts.length = x.length) : (fit [] ts x).isSome = (bind ts x).isSome := by
  have := fit_bind hl
  cases h1 : fit [] ts x <;> cases h2 : bind ts x <;> rw [h1, h2] at this <;> first | rfl | exact this.elim
/-- two dicts agree -/
def agreeD (d e : Dct) : Bool := d.all fun p => (e.lookup p.1).getD p.2 == p.2
theorem bind_var {ts : List Term} {x : Row} {d : Dct} (hl : ts.length = x.length) (h : bind ts x = some d) (v : Nat) : (d.lookup v).isSome = (ts.flatMap varsOf).contains v := by
  rw [bind_lookup h, Bool.eq_iff_iff, List.contains_iff_mem, List.mem_flatMap, List.findSome?_isSome_iff]
  constructor
  · rintro ⟨p, hp, hs⟩
    obtain ⟨t, z⟩ := p
    have ht : t ∈ ts := (List.of_mem_zip hp).1
    by_cases e : t = Term.var v
    · exact ⟨t, ht, by rw [e]; simp [varsOf]⟩
    · simp [e] at hs
  · rintro ⟨t, ht, hv⟩
    have e : t = .var v := by
      cases t with
      | con _ => simp [varsOf] at hv
      | var u =>
        simp [varsOf] at hv
        rw [hv]
    subst e
    obtain ⟨i, hi, e⟩ := List.mem_iff_getElem.mp ht
    refine ⟨((ts.zip x)[i]'(by rw [List.length_zip]; omega)), List.getElem_mem _, ?_⟩
    simp [List.getElem_zip, e]
open Md49 in
theorem varsAt_contains {s : St} {i v : Nat} (hv : ∀ u ∈ (atomAt s i).args.flatMap varsOf, u < 10) : (varsAt s i).contains v = ((atomAt s i).args.flatMap varsOf).contains v := by
  rw [Bool.eq_iff_iff, List.contains_iff_mem, varsAt, List.mem_filter, List.mem_range]
  constructor
  · exact fun h => h.2
  · exact fun h => ⟨hv v (List.contains_iff_mem.mp h), h⟩
open Md49 in
/-- the spec's agree, by the two dicts -/
theorem agree_eq {s : St} {i j : Nat} {x y : Row} {d e : Dct} (hi : ∀ u ∈ (atomAt s i).args.flatMap varsOf, u < 10) (hj : ∀ u ∈ (atomAt s j).args.flatMap varsOf, u < 10)
    (lx : (atomAt s i).args.length = x.length) (ly : (atomAt s j).args.length = y.length) (hd : bind (atomAt s i).args x = some d) (he : bind (atomAt s j).args y = some e) : agree s i j x y = agreeD d e := by
  have v1 : ∀ v, valueIn (atomAt s i) x v = d.lookup v := fun v => (bind_lookup hd v).symm
  have v2 : ∀ v, valueIn (atomAt s j) y v = e.lookup v := fun v => (bind_lookup he v).symm
  rw [Bool.eq_iff_iff, agree, agreeD, List.all_eq_true, List.all_eq_true]
  constructor
  · rintro h ⟨v, z⟩ hp
    have hz := (mem_iff_lookup (bind_nodup hd)).mp hp
    have hm : v ∈ varsAt s i := by
      rw [← List.contains_iff_mem, varsAt_contains hi, ← bind_var lx hd, hz]
      rfl
    have := h v hm
    rw [v1, v2, hz, varsAt_contains hj, ← bind_var ly he] at this
    cases hl : e.lookup v with
    | none => simp
    | some w =>
      rw [hl] at this
      simp at this
      simp [this]
  · intro h v hm
    rw [v1, v2, varsAt_contains hj, ← bind_var ly he]
    have hc : (d.lookup v).isSome = true := by
      rw [bind_var lx hd, ← varsAt_contains hi, List.contains_iff_mem]
      exact hm
    obtain ⟨z, hz⟩ := Option.isSome_iff_exists.mp hc
    have := h (v, z) ((mem_iff_lookup (bind_nodup hd)).mpr hz)
    rw [hz]
    cases hl : e.lookup v with
    | none => simp
    | some w =>
      rw [hl] at this
      simp at this
      simp [this]
end JpBind
/-! Rows in order, each once: there is just one such list. Plain Lean. -/
namespace JpSort
open MdBase
theorem before_irrefl : ∀ x : Row, before x x = false
  | [] => rfl
  | x :: r => by
    simp only [before, Int.lt_irrefl, if_false]
    exact before_irrefl r
theorem before_cons {x y : Int} {r s : Row} : before (x :: r) (y :: s) = true ↔ x < y ∨ (x = y ∧ before r s = true) := by
  simp only [before]
  by_cases h1 : x < y
  · simp [h1]
  · by_cases h2 : y < x
    · have : ¬ x = y := by omega
      simp [h1, h2, this]
    · have : x = y := by omega
      simp [h1, h2, this]
theorem before_trans : ∀ {x y z : Row}, before x y = true → before y z = true → before x z = true
  | [], [], _, h, _ => by cases h
  | [], _ :: _, [], _, h => by cases h
  | [], _ :: _, _ :: _, _, _ => rfl
  | _ :: _, [], _, h, _ => by cases h
  | _ :: _, _ :: _, [], _, h => by cases h
  | x :: r, y :: s, z :: t, h, k => by
    rw [before_cons] at h k ⊢
    rcases h with h | ⟨rfl, h⟩
    · rcases k with k | ⟨rfl, k⟩
      · exact Or.inl (by omega)
      · exact Or.inl h
    · rcases k with k | ⟨rfl, k⟩
      · exact Or.inl k
      · exact Or.inr ⟨rfl, before_trans h k⟩
theorem before_total : ∀ {x y : Row}, before x y = false → before y x = false → x = y
  | [], [], _, _ => rfl
  | [], _ :: _, h, _ => by cases h
  | _ :: _, [], _, h => by cases h
  | x :: r, y :: s, h, k => by
    have h' : ¬ (before (x :: r) (y :: s) = true) := by rw [h]; decide
    have k' : ¬ (before (y :: s) (x :: r) = true) := by rw [k]; decide
    rw [before_cons] at h' k'
    have e : x = y := by omega
    subst e
    rw [before_total (x := r) (y := s) (by
      cases q : before r s with
      | false => rfl
      | true => exact absurd (Or.inr ⟨rfl, q⟩) h') (by
      cases q : before s r with
      | false => rfl
      | true => exact absurd (Or.inr ⟨rfl, q⟩) k')]
theorem before_asymm {x y : Row} (h : before x y = true) : before y x = false := by
  cases q : before y x with
  | false => rfl
  | true =>
    have := before_trans h q
    rw [before_irrefl] at this
    cases this
theorem mem_putRow {x z : Row} : ∀ {l : List Row}, z ∈ putRow x l ↔ z = x ∨ z ∈ l
  | [] => by simp [putRow]
  | y :: l => by
    simp only [putRow]
    split
    · simp
    · split
      · rename_i e
        subst e
        simp
      · rw [List.mem_cons, mem_putRow, List.mem_cons]
        constructor
        · rintro (h | h | h)
          · exact Or.inr (Or.inl h)
          · exact Or.inl h
          · exact Or.inr (Or.inr h)
        · rintro (h | h | h)
          · exact Or.inr (Or.inl h)
          · exact Or.inl h
          · exact Or.inr (Or.inr h)
theorem putRow_pairwise {x : Row} : ∀ {l : List Row}, l.Pairwise (fun a b => before a b = true) → (putRow x l).Pairwise (fun a b => before a b = true)
  | [], _ => by simp [putRow]
  | y :: l, h => by
    have h1 := (List.pairwise_cons.mp h).1
    have h2 := (List.pairwise_cons.mp h).2
    simp only [putRow]
    split
    · rename_i q
      refine List.pairwise_cons.mpr ⟨fun z hz => ?_, h⟩
      rcases List.mem_cons.mp hz with rfl | hz
      · exact q
      · exact before_trans q (h1 z hz)
    · split
      · exact h
      · rename_i q e
        refine List.pairwise_cons.mpr ⟨fun z hz => ?_, putRow_pairwise h2⟩
        rcases mem_putRow.mp hz with rfl | hz
        · cases q2 : before y z with
          | true => rfl
          | false => exact absurd (before_total (by simpa using q) q2) e
        · exact h1 z hz
theorem foldl_pairwise : ∀ (l s : List Row), s.Pairwise (fun a b => before a b = true) → (l.foldl (fun s x => putRow x s) s).Pairwise (fun a b => before a b = true)
  | [], _, h => h
  | x :: l, s, h => foldl_pairwise l (putRow x s) (putRow_pairwise h)
theorem mem_foldl {z : Row} : ∀ (l s : List Row), z ∈ l.foldl (fun s x => putRow x s) s ↔ z ∈ l ∨ z ∈ s
  | [], _ => by simp
  | x :: l, s => by
    rw [List.foldl_cons, mem_foldl l, mem_putRow, List.mem_cons]
    constructor
    · rintro (h | h | h)
      · exact Or.inl (Or.inr h)
      · exact Or.inl (Or.inl h)
      · exact Or.inr h
    · rintro ((h | h) | h)
      · exact Or.inr (Or.inl h)
      · exact Or.inl h
      · exact Or.inr (Or.inr h)
theorem sorted_pairwise (l : List Row) : (sorted l).Pairwise (fun a b => before a b = true) := foldl_pairwise l [] List.Pairwise.nil
theorem mem_sorted {z : Row} {l : List Row} : z ∈ sorted l ↔ z ∈ l := by
  unfold sorted
  rw [mem_foldl]
  simp
theorem sorted_snoc (l : List Row) (x : Row) : sorted (l ++ [x]) = putRow x (sorted l) := by
  unfold sorted
  rw [List.foldl_append]
  rfl
theorem one : ∀ {a b : List Row}, a.Pairwise (fun a b => before a b = true) → b.Pairwise (fun a b => before a b = true) → (∀ z, z ∈ a ↔ z ∈ b) → a = b
  | [], [], _, _, _ => rfl
  | [], y :: b, _, _, h => absurd ((h y).mpr List.mem_cons_self) (by simp)
  | x :: a, [], _, _, h => absurd ((h x).mp List.mem_cons_self) (by simp)
  | x :: a, y :: b, ha, hb, h => by
    have a1 := (List.pairwise_cons.mp ha).1
    have a2 := (List.pairwise_cons.mp ha).2
    have b1 := (List.pairwise_cons.mp hb).1
    have b2 := (List.pairwise_cons.mp hb).2
    have e : x = y := by
      rcases List.mem_cons.mp ((h x).mp List.mem_cons_self) with e | hx
      · exact e
      · rcases List.mem_cons.mp ((h y).mpr List.mem_cons_self) with e | hy
        · exact e.symm
        · have := before_asymm (a1 y hy)
          rw [b1 x hx] at this
          cases this
    subst e
    rw [one a2 b2 fun z => ?_]
    constructor
    · intro hz
      rcases List.mem_cons.mp ((h z).mp (List.mem_cons_of_mem _ hz)) with rfl | q
      · have := a1 z hz
        rw [before_irrefl] at this
        cases this
      · exact q
    · intro hz
      rcases List.mem_cons.mp ((h z).mpr (List.mem_cons_of_mem _ hz)) with rfl | q
      · have := b1 z hz
        rw [before_irrefl] at this
        cases this
      · exact q
/-- a list in order without two alike is the spec's, of any list with the same members -/
theorem sorted_one {ys l : List Row} (hn : ys.Nodup) (hp : ys.Pairwise (fun a b => before b a = false)) (hm : ∀ z, z ∈ ys ↔ z ∈ l) : ys = sorted l := by
  refine one ?_ (sorted_pairwise l) fun z => (hm z).trans mem_sorted.symm
  have := hp.and hn
  refine this.imp fun {a b} h => ?_
  cases q : before a b with
  | true => rfl
  | false => exact absurd (before_total q h.1) h.2
theorem sorted_nodup (l : List Row) : (sorted l).Nodup := (sorted_pairwise l).imp fun {a b} h e => by
  subst e
  rw [before_irrefl] at h
  cases h
theorem sorted_perm {l : List Row} (h : l.Nodup) : (sorted l).Perm l := (List.perm_ext_iff_of_nodup (sorted_nodup l) h).mpr fun _ => mem_sorted
theorem sorted_length {l : List Row} (h : l.Nodup) : (sorted l).length = l.length := (sorted_perm h).length_eq
end JpSort
namespace Jp
open PySem PySem.Spec PyProof.Rows L2
/-! ### The text by places -/
def top (i : Nat) : Stmt := PySem.Challenge.pw_joinplans_s01_answers.main.body.getD i (.Pass ⟨0, 0, 0, 0⟩)
abbrev sTableInit : Stmt := inClass (top 3) 0
abbrev sStoreInit : Stmt := inClass (top 4) 0
abbrev sAtomInit : Stmt := inClass (top 12) 0
abbrev sFitInit : Stmt := inClass (top 13) 0
abbrev sHangInit : Stmt := inClass (top 22) 0
abbrev sPartInit : Stmt := inClass (top 35) 0
abbrev sGroupsInit : Stmt := inClass (top 36) 0
abbrev sWayCountsInit : Stmt := inClass (top 48) 0
abbrev sWaysOf : Stmt := inClass (top 48) 1
abbrev sPlanInit : Stmt := inClass (top 49) 0
abbrev sReaderInit : Stmt := inClass (top 77) 0
abbrev sHasMore : Stmt := inClass (top 77) 1
abbrev sTakeNumber : Stmt := inClass (top 77) 2
abbrev sTakeList : Stmt := inClass (top 77) 3
abbrev sIsValue : Stmt := top 5
abbrev sIsRowOf : Stmt := top 6
abbrev sIsTerm : Stmt := top 14
abbrev sReadAtom : Stmt := top 15
abbrev sReadAtoms : Stmt := top 16
abbrev sVariablesOf : Stmt := top 17
abbrev sBind : Stmt := top 18
abbrev sFittingRows : Stmt := top 19
abbrev sAgree : Stmt := top 20
abbrev sIsShared : Stmt := top 23
abbrev sFindHolder : Stmt := top 24
abbrev sFindPair : Stmt := top 25
abbrev sTakeOff : Stmt := top 26
abbrev sHasPartner : Stmt := top 28
abbrev sStays : Stmt := top 29
abbrev sStayingRows : Stmt := top 30
abbrev sThrowOut : Stmt := top 31
abbrev sHowMany : Stmt := top 32
abbrev sRowsLeft : Stmt := top 33
abbrev sPick : Stmt := top 37
abbrev sPartOf : Stmt := top 38
abbrev sPartsOf : Stmt := top 39
abbrev sPlacesOf : Stmt := top 40
abbrev sRowsBy : Stmt := top 41
abbrev sJoinedWith : Stmt := top 42
abbrev sStillWanted : Stmt := top 43
abbrev sGroupWays : Stmt := top 44
abbrev sCountWays : Stmt := top 45
abbrev sIsOrder : Stmt := top 50
abbrev sOrderCost : Stmt := top 51
abbrev sLengthened : Stmt := top 52
abbrev sAllOrders : Stmt := top 53
abbrev sCheapestOrder : Stmt := top 54
abbrev sWidened : Stmt := top 55
abbrev sFirstSides : Stmt := top 56
abbrev sJoinedPlan : Stmt := top 57
abbrev sPlanOf : Stmt := top 58
abbrev sCheapestPlan : Stmt := top 59
abbrev sBegin : Stmt := top 78
abbrev sAddTable : Stmt := top 79
abbrev sAddRow : Stmt := top 80
abbrev sAsk : Stmt := top 81
abbrev sTellTree : Stmt := top 82
abbrev sTellLeft : Stmt := top 83
abbrev sSomeAtomHas : Stmt := top 84
abbrev sTellAnswers : Stmt := top 85
abbrev sTellOrder : Stmt := top 86
abbrev sTellCost : Stmt := top 87
abbrev sTellPlan : Stmt := top 88
abbrev sAnswerWith : Stmt := top 89
abbrev sAnswerOfQuestion : Stmt := top 90
abbrev sAnswerCall : Stmt := top 91
abbrev sAnswers : Stmt := top 92
/-! ### What the top has written -/
/-- a def of the top -/
def Has (K : PySem.W.Frag) (mg : Str → Option Value) (x : Str) (st : Stmt) (ps : List Str) : Prop :=
  ∃ f fd, Fun K x x st f fd ∧ mg x = some (.ref f) ∧ PySem.W.keepIn K (.ref f) = true ∧ Binds K fd ps []
/-- a def that keeps its promise -/
def Ok (P : Program) (w : World) (K : PySem.W.Frag) (mg : Str → Option Value) (base : Heap) (x : Str) (k : Nat) (ps : List Str) (sp : Sp) : Prop :=
  ∃ f fd, FnOk P w K mg base CX0 k f fd ps sp ∧ mg x = some (.ref f) ∧ PySem.W.keepIn K (.ref f) = true ∧ Binds K fd ps []
/-- a class, its fields, its __init__ -/
structure Klass (K : PySem.W.Frag) (mg : Str → Option Value) (x : Str) (C : Addr) (fields : List Str) : Prop where
  cl : Cls K C
  no : ∀ f ∈ fields, NoAttr K C f
  mgC : mg x = some (.ref C)
/-- a class that is made by its __init__, which keeps its promise -/
def Made (P : Program) (w : World) (K : PySem.W.Frag) (mg : Str → Option Value) (base : Heap) (C : Addr) (k : Nat) (ps : List Str) (sp : Sp) : Prop :=
  ∃ f fd, FnOk P w K mg base CX0 k f fd ps sp ∧ Mk K C f ∧ Binds K fd ps []
def HasInit (K : PySem.W.Frag) (x : Str) (C : Addr) (st : Stmt) (ps : List Str) : Prop :=
  ∃ f fd, Fun K "__init__" x st f fd ∧ Mk K C f ∧ Binds K fd ps []
/-- the names of Python's own that are used as they are -/
structure Plain (mg : Str → Option Value) : Prop where
  len : mg "len" = none
  all : mg "all" = none
  any : mg "any" = none
  sum : mg "sum" = none
  range : mg "range" = none
  zip : mg "zip" = none
  sorted : mg "sorted" = none
  list : mg "list" = none
  tuple : mg "tuple" = none
  enumerate : mg "enumerate" = none
  min : mg "min" = none
/-! ### Small helpers -/
theorem lk_here {k : Str} {v : V} {r : List (Str × V)} : List.lookup k ((k, v) :: r) = some v := by
  have e : (k == k) = true := beq_self_eq_true k
  simp only [List.lookup, e]
theorem lk_past {k g : Str} {v : V} {r : List (Str × V)} (h : (k == g) = false) : List.lookup k ((g, v) :: r) = List.lookup k r := by
  simp only [List.lookup, h]
theorem put_here {f : Str} {v x : V} {r : List (Str × V)} : putF f v ((f, x) :: r) = (f, v) :: r := if_pos rfl
theorem put_past {f g : Str} {v x : V} {r : List (Str × V)} (h : ¬ g = f) : putF f v ((g, x) :: r) = (g, x) :: putF f v r := if_neg h
theorem ifT {c : Bool} {A B : Prop} (hc : c = true) (h : A) : if c = true then A else B := by
  rw [if_pos hc]
  exact h
theorem ifF {c : Bool} {A B : Prop} (hc : c = false) (h : B) : if c = true then A else B := by
  rw [hc, if_neg (by decide)]
  exact h
/-- two fields -/
def fs2 (f g : Str) (x y : V) : List (Str × V) := [(f, x), (g, y)]
theorem fs2_1 {f g : Str} {x y : V} : (fs2 f g x y).lookup f = some x := lk_here
theorem fs2_2 {f g : Str} {x y : V} (h : (g == f) = false := by decide +kernel) : (fs2 f g x y).lookup g = some y := (lk_past h).trans lk_here
theorem fs2_no {f g m : Str} {x y : V} (h1 : (m == f) = false := by decide +kernel) (h2 : (m == g) = false := by decide +kernel) : (fs2 f g x y).lookup m = none := (lk_past h1).trans ((lk_past h2).trans rfl)
theorem fs2_new {f g : Str} {x y : V} (h : ¬ f = g := by decide +kernel) : putF g y (putF f x []) = fs2 f g x y := (put_past h).trans rfl
theorem fs2_put1 {f g : Str} {x y z : V} : putF f z (fs2 f g x y) = fs2 f g z y := put_here
theorem fs2_put2 {f g : Str} {x y z : V} (h : ¬ f = g := by decide +kernel) : putF g z (fs2 f g x y) = fs2 f g x z := (put_past h).trans (congrArg _ put_here)
/-- an instance with two fields -/
def At2 (C : Addr) (f g : Str) (H : Hp) (a : Addr) (x y : V) : Prop := ∃ dx, H a = some (.ins C dx (fs2 f g x y))
theorem At2.same {C : Addr} {f g : Str} {H H' : Hp} {a : Addr} {x y : V} (h : At2 C f g H a x y) (s : Same H H') : At2 C f g H' a x y := by
  obtain ⟨dx, e⟩ := h
  exact ⟨dx, s _ _ e⟩
theorem same_upd {H : Hp} {p : Addr} {o : HO} (h : H p = none) : Same H (upd H p o) := fun b u e => by
  rw [upd_ne (ne_of_none e h)]
  exact e
theorem sameU {H H' : Hp} {p : Addr} {o : HO} (s : Same H H') (h : H p = none) : Same H (upd H' p o) := fun b u e => by
  rw [upd_ne (ne_of_none e h)]
  exact s _ _ e
theorem get_map {α : Type} {f : α → V} {l : List α} {i : Nat} {y : V} (h : (l.map f)[i]? = some y) : ∃ z, l[i]? = some z ∧ y = f z := by
  rw [List.getElem?_map] at h
  cases e : l[i]? with
  | none => rw [e] at h; cases h
  | some z => rw [e] at h; exact ⟨z, rfl, (Option.some.inj h).symm⟩
theorem take_snoc {α : Type} {l : List α} {i : Nat} {x : α} (h : l[i]? = some x) : l.take (i + 1) = l.take i ++ [x] := by
  obtain ⟨hi, e⟩ := List.getElem?_eq_some_iff.mp h
  rw [List.take_succ_eq_append_getElem hi, e]
theorem callLen (K : PySem.W.Frag) {X : Cx} (e : X.K = K := by rfl) : CallR X (.builtin "len") (fun xs H Q => ∃ p ys, xs = [.ref p] ∧ (SqL K H p ys ∨ SqT K H p ys) ∧ Q (.int ys.length) H) := by
  subst e
  exact call_len_seq
theorem peF (K : PySem.W.Frag) {X : Cx} {e : Expr} {f : Str} {pos : Pos} {ta : TE} (he : PE X e ta) (q : X.K = K := by rfl) (hb : attributeBase e f X.env (eval e X.env) = eval e X.env := by rfl) : PE X (.Attribute e f pos) (tFld K ta f) := by
  subst q
  exact pe_fld he hb
theorem ixT (K : PySem.W.Frag) {X : Cx} (e : X.K = K := by rfl) : IxR X (rIxT K) := by
  subst e
  exact ix_tup
theorem ixL (K : PySem.W.Frag) {X : Cx} (e : X.K = K := by rfl) : IxR X (rIxL K) := by
  subst e
  exact ix_list
section
variable {X : Cx} {x : Str} {k : Nat} {ps : List Str} {sp : Sp} {p pos : Pos} {e : Expr} {es : List Expr} {t : TA}
/-- a call of a def that keeps its promise -/
theorem pe_ok (h : Ok X.prog X.w X.K X.mg X.base x k ps sp) (hr : Room k X.A) (hg : Gl X x) (ha : PA X (e :: es) t) (hdb : (x == ("__debug__" : Str)) = false := by decide) (hst : starEach (e :: es) X.env = (false, eval e X.env) :: starEach es X.env := by rfl) (hpl : (backTo pos (starEach es X.env)).any (·.1) = false := by rfl) :
    PE X (.Call (.Name x p) (e :: es) [] pos) (tCall sp [] E0 t) := by
  obtain ⟨f, fd, F, mgf, kp, b⟩ := h
  exact pe_call F hr hg mgf kp b .nil pass0 ha hdb hst hpl
theorem pe_new {C : Addr} (h : Made X.prog X.w X.K X.mg X.base C k ps sp) (hr : Room (k + 1) X.A) (hg : Gl X x) (hm : X.mg x = some (.ref C)) (ha : PA X (e :: es) t) (hdb : (x == ("__debug__" : Str)) = false := by decide) (hst : starEach (e :: es) X.env = (false, eval e X.env) :: starEach es X.env := by rfl) (hpl : (backTo pos (starEach es X.env)).any (·.1) = false := by rfl) :
    PE X (.Call (.Name x p) (e :: es) [] pos) (tMake C sp [] E0 t) := by
  obtain ⟨f, fd, F, M, b⟩ := h
  exact pe_make M F hr hg hm b .nil pass0 ha hdb hst hpl
theorem pe_new0 {C : Addr} (h : Made X.prog X.w X.K X.mg X.base C k ps sp) (hr : Room (k + 1) X.A) (hg : Gl X x) (hm : X.mg x = some (.ref C)) (hdb : (x == ("__debug__" : Str)) = false := by decide) :
    PE X (.Call (.Name x p) [] [] pos) (tMake C sp [] E0 tNil) := by
  obtain ⟨f, fd, F, M, b⟩ := h
  exact pe_make0 M F hr hg hm b .nil pass0 hdb
end
end Jp
/-! Comprehensions whose steps change nothing that stood: what is made is told by a relation, item by item. -/
namespace Jp
open PySem PySem.Spec PyProof.Rows L2
/-- all but what stands at D is as it was -/
def But (D : Addr) (H H' : Hp) : Prop := ∀ b o, H b = some o → b ≠ D → H' b = some o
theorem But.of_same {D : Addr} {H H' : Hp} (s : Same H H') : But D H H' := fun b o e _ => s b o e
theorem But.upd {D : Addr} {H H' : Hp} {o : HO} (s : But D H H') : But D H (L2.upd H' D o) := fun b u e hb => by
  rw [upd_ne hb]
  exact s b u e hb
theorem But.trans {D : Addr} {H H1 H2 : Hp} (a : But D H H1) (b : But D H1 H2) : But D H H2 := fun c o e hb => b c o (a c o e hb) hb
section
variable {J : It} {n : Nat} {G : Hp → Prop} {Y : Nat → Hp → V → Hp → Prop} {xs : List V} {g : TG} {te : TE} {vs : List Nat} {σ : L2.St} {H1 : Hp} {D : Addr} {Qd : Hp → Prop}
/-- [e for x in ..]: each item z made of the i-th is so that R i z holds -/
theorem lc_made (w : Walk J n G Y) (hY : ∀ i H x H', i < n → Y i H x H' → H' = H ∧ xs[i]? = some x) (hG : ∀ H, Same H1 H → G H) (new : H1 D = none) (hz : n ≤ sizeLine)
    (R : Nat → V → Hp → Prop) (mono : ∀ i z H H' acc, H D = some (.lst acc) → But D H H' → R i z H → R i z H')
    (hs : ∀ i x H acc (N : V → Hp → Prop), i < n → xs[i]? = some x → Same H1 H → H D = some (.lst acc) → (∀ z H4, Same H H4 → R i z H4 → N z H4) → g x (wipe σ vs) H fun σ2 H2 => wipe σ2 vs = wipe σ vs ∧ te σ2 H2 N)
    (hd : ∀ H zs, Same H1 H → H D = some (.lst zs) → zs.length = n → (∀ i z, zs[i]? = some z → R i z H) → Qd H) :
    ∃ W : Nat → Nat → Hp → Prop, (∃ m, W 0 m (upd H1 D (.lst []))) ∧ ∀ i m H, W i m H →
      (J.stop i H ∧ Qd H) ∨ (J.go i H ∧ ∃ Nx : Hp → Prop, (∀ H', Nx H' → ∃ m', m' < m ∧ W (i + 1) m' H') ∧ ∀ x H', J.yld i H x H' → g x (wipe σ vs) H' fun σ2 H2 => wipe σ2 vs = wipe σ vs ∧ tYes σ2 H2 fun b H3 =>
        if b = true then te σ2 H3 fun y H4 => ∃ acc, H4 D = some (.lst acc) ∧ acc.length < sizeLine ∧ Nx (upd H4 D (.lst (acc ++ [y]))) else Nx H3) := by
  refine lc_it w (fun i H => Same H1 H ∧ ∃ zs, H D = some (.lst zs) ∧ zs.length = i ∧ ∀ j z, zs[j]? = some z → R j z H) ⟨same_upd new, [], upd_same, rfl, fun j z h => by simp at h⟩ (fun i H _ h => hG H h.1) ?_ ?_
  · rintro i x H H' hi ⟨sm, zs, hD, hlen, hR⟩ y
    obtain ⟨rfl, hx⟩ := hY i H x H' hi y
    refine hs i x H' zs _ hi hx sm hD fun z H4 s4 r4 => ?_
    refine ⟨zs, s4 _ _ hD, by omega, sameU (sm.trans s4) new, zs ++ [z], upd_same, by simp [hlen], fun j u hj => ?_⟩
    have bt : But D H4 (upd H4 D (.lst (zs ++ [z]))) := (But.of_same (Same.refl _)).upd
    by_cases hji : j < zs.length
    · rw [List.getElem?_append_left hji] at hj
      exact mono j u H' _ zs hD ((But.of_same s4).upd) (hR j u hj)
    · rw [List.getElem?_append_right (Nat.le_of_not_lt hji)] at hj
      have e0 : j = zs.length := by
        have := (List.getElem?_eq_some_iff.mp hj).1
        simp at this
        omega
      subst e0
      rw [Nat.sub_self] at hj
      cases hj
      rw [hlen]
      exact mono i z H4 _ zs (s4 _ _ hD) bt r4
  · rintro H ⟨sm, zs, hD, hlen, hR⟩
    exact hd H zs sm hD hlen hR
/-- .. where each item's value is known ahead -/
theorem lc_val {β : Type} {bs : List β} {F : β → V} (w : Walk J n G Y) (hY : ∀ i H x H', i < n → Y i H x H' → H' = H ∧ xs[i]? = some x) (hG : ∀ H, Same H1 H → G H) (new : H1 D = none) (hz : n ≤ sizeLine) (hb : bs.length = n)
    (hs : ∀ i x b H (N : V → Hp → Prop), i < n → xs[i]? = some x → bs[i]? = some b → Same H1 H → (∀ H4, Same H H4 → N (F b) H4) → g x (wipe σ vs) H fun σ2 H2 => wipe σ2 vs = wipe σ vs ∧ te σ2 H2 N)
    (hd : ∀ H, Same H1 H → H D = some (.lst (bs.map F)) → Qd H) :
    ∃ W : Nat → Nat → Hp → Prop, (∃ m, W 0 m (upd H1 D (.lst []))) ∧ ∀ i m H, W i m H →
      (J.stop i H ∧ Qd H) ∨ (J.go i H ∧ ∃ Nx : Hp → Prop, (∀ H', Nx H' → ∃ m', m' < m ∧ W (i + 1) m' H') ∧ ∀ x H', J.yld i H x H' → g x (wipe σ vs) H' fun σ2 H2 => wipe σ2 vs = wipe σ vs ∧ tYes σ2 H2 fun b H3 =>
        if b = true then te σ2 H3 fun y H4 => ∃ acc, H4 D = some (.lst acc) ∧ acc.length < sizeLine ∧ Nx (upd H4 D (.lst (acc ++ [y]))) else Nx H3) := by
  refine lc_made w hY hG new hz (fun i z _ => ∃ b, bs[i]? = some b ∧ z = F b) (fun _ _ _ _ _ _ _ h => h) ?_ ?_
  · intro i x H acc N hi hx sm _ hN
    have hb' : bs[i]? = some (bs[i]'(by omega)) := List.getElem?_eq_getElem (by omega)
    exact hs i x _ H N hi hx hb' sm fun H4 s4 => hN _ _ s4 ⟨_, hb', rfl⟩
  · intro H zs sm hD hlen hR
    have e : zs = bs.map F := by
      refine List.ext_getElem (by simp [hlen, hb]) fun i h1 h2 => ?_
      obtain ⟨b, hb1, hb2⟩ := hR i zs[i] (List.getElem?_eq_getElem h1)
      rw [hb2, List.getElem_map]
      exact congrArg F (List.getElem?_eq_some_iff.mp hb1).2.symm
    rw [e] at hD
    exact hd H sm hD
/-- [x for x in .. if p x] -/
theorem lc_filter {α : Type} {as : List α} {F : α → V} {j : Nat} {tt : TT} (p : α → Bool) (w : Walk J n G Y) (hY : ∀ i H x H', i < n → Y i H x H' → H' = H ∧ (as.map F)[i]? = some x) (hn : as.length = n) (hG : ∀ H, But D (upd H1 D (.lst [])) H → G H) (hz : n ≤ sizeLine) (hj : j < σ.length)
    (hs : ∀ i x H acc (N : Bool → Hp → Prop), i < n → as[i]? = some x → But D (upd H1 D (.lst [])) H → H D = some (.lst acc) → (∀ H4, Same H H4 → N (p x) H4) → tt ((wipe σ [j]).set j (some (F x))) H N)
    (hd : ∀ H, But D (upd H1 D (.lst [])) H → H D = some (.lst ((as.filter p).map F)) → Qd H) :
    ∃ W : Nat → Nat → Hp → Prop, (∃ m, W 0 m (upd H1 D (.lst []))) ∧ ∀ i m H, W i m H →
      (J.stop i H ∧ Qd H) ∨ (J.go i H ∧ ∃ Nx : Hp → Prop, (∀ H', Nx H' → ∃ m', m' < m ∧ W (i + 1) m' H') ∧ ∀ x H', J.yld i H x H' → gName j x (wipe σ [j]) H' fun σ2 H2 => wipe σ2 [j] = wipe σ [j] ∧ tt σ2 H2 fun b H3 =>
        if b = true then tVar j σ2 H3 fun y H4 => ∃ acc, H4 D = some (.lst acc) ∧ acc.length < sizeLine ∧ Nx (upd H4 D (.lst (acc ++ [y]))) else Nx H3) := by
  refine lc_it w (fun i H => But D (upd H1 D (.lst [])) H ∧ H D = some (.lst (((as.take i).filter p).map F))) ⟨But.of_same (Same.refl _), upd_same⟩ (fun i H _ h => hG H h.1) ?_ ?_
  · rintro i x H H' hi ⟨sm, hD⟩ y
    obtain ⟨rfl, hx⟩ := hY i H x H' hi y
    obtain ⟨u, hu, rfl⟩ := get_map hx
    refine ⟨?_, hs i u H' _ _ hi hu sm hD fun H4 s4 => ?_⟩
    · simp [wipe, List.set_set]
    have sm4 : But D (upd H1 D (.lst [])) H4 := sm.trans (But.of_same s4)
    rw [take_snoc hu, List.filter_append, List.map_append]
    cases q : p u with
    | true =>
      refine iteT ⟨F u, ?_, _, s4 _ _ hD, ?_, sm4.upd, ?_⟩
      · simp [wipe, hj]
      · rw [List.length_map]
        have h1 := List.length_filter_le p (as.take i)
        rw [List.length_take] at h1
        omega
      · rw [upd_same]
        simp [q]
    | false =>
      refine iteF ⟨sm4, ?_⟩
      rw [s4 _ _ hD]
      simp [q]
  · rintro H ⟨sm, hD⟩
    rw [← hn, List.take_length] at hD
    exact hd H sm hD
end
end Jp
namespace Jp
open PySem PySem.Spec PyProof.Rows L2
/-- a number of the top -/
def IntC (mg : Str → Option Value) (x : Str) (z : Int) : Prop := ∃ t, mg x = some (.int z t)
theorem pe_const {X : Cx} {x : Str} {z : Int} {pos : Pos} (h : IntC X.mg x z) (hg : Gl X x) (hd : (x == ("__debug__" : Str)) = false := by decide) : PE X (.Name x pos) (tC (.int z)) := by
  obtain ⟨t, e⟩ := h
  exact pe_glob hg e ⟨t, rfl⟩ hd
/-- a promise of __init__: two fields, given -/
def spInit2 (C : Addr) (f g : Str) : Sp := fun vs H Q _ => ∃ (p dx : Addr) (x y : V), vs = [.ref p, x, y] ∧ H p = some (.ins C dx []) ∧
  ∀ H' : Hp, At2 C f g H' p x y → (∀ b o, H b = some o → b ≠ p → H' b = some o) → Q .non H'
def spTableInit (C : Addr) : Sp := fun vs H Q _ => ∃ (p dx : Addr) (n : Int), vs = [.ref p, .int n] ∧ H p = some (.ins C dx []) ∧
  ∀ (H' : Hp) (l : Addr), At2 C "columns" "rows" H' p (.int n) (.ref l) → H l = none → H' l = some (.lst []) → (∀ b o, H b = some o → b ≠ p → H' b = some o) → Q .non H'
def spStoreInit (C : Addr) : Sp := fun vs H Q _ => ∃ (p dx : Addr), vs = [.ref p] ∧ H p = some (.ins C dx []) ∧
  ∀ (H' : Hp) (l m : Addr), At2 C "tables" "question" H' p (.ref l) (.ref m) → H l = none → H m = none → l ≠ m → H' l = some (.lst []) → H' m = some (.lst []) → (∀ b o, H b = some o → b ≠ p → H' b = some o) → Q .non H'
def spIsValue : Sp := fun vs H Q _ => ∃ n, vs = [.int n] ∧ Q (.bl (MdBase.isValue n)) H
/-- whether these numbers are a row of that many columns -/
def isRow (c : Int) (x : List Int) : Bool := decide ((x.length : Int) = c) && x.all MdBase.isValue
def spIsRowOf (K : PySem.W.Frag) (C : Addr) : Sp := fun vs H Q _ => ∃ (a l r : Addr) (c : Int) (x : List Int), vs = [.ref a, .ref l] ∧ At2 C "columns" "rows" H a (.int c) (.ref r) ∧ SqL K H l (x.map V.int) ∧ x.length ≤ sizeLine - 1 ∧
  ∀ H', Same H H' → Q (.bl (isRow c x)) H'
section
variable {P : Program} {w : World} {K : PySem.W.Frag} {mg : Str → Option Value} {base : Heap}
theorem sc_ti : FnScope ["self", "columns"] ["self", "columns"] (defScope sTableInit) := ⟨rfl, rfl, rfl, by decide +kernel, rfl, by decide +kernel, by decide +kernel⟩
theorem ok_tableInit {C : Addr} (F : HasInit K "Table.__init__" C sTableInit ["self", "columns"]) (T : Klass K mg "Table" C ["columns", "rows"]) : Made P w K mg base C 1 ["self", "columns"] (spTableInit C) := by
  obtain ⟨f, fd, F, M, b⟩ := F
  refine ⟨f, fd, F.ok sc_ti (fun vs H Q E h => ?_) (fun cdv A outer s H vs Q E hr h => ?_), M, b⟩
  · obtain ⟨p, dx, n, rfl, _⟩ := h
    rfl
  · obtain ⟨p, dx, n, rfl, hp, k⟩ := h
    refine ⟨_, pss_cons (ps_fld (pv 0) (pv 1) rfl) (pss_one (ps_fld (pv 0) (pe_lst pa_nil) rfl)), ?_⟩
    refine ⟨_, rfl, _, rfl, p, C, dx, [], rfl, hp, T.cl, T.no _ (by simp), (by show 0 < 1000; decide), ?_⟩
    refine ⟨Nat.zero_le _, fun l hl => ?_⟩
    have hlp : p ≠ l := ne_of_none upd_same hl
    refine ⟨_, rfl, p, C, dx, _, rfl, (by rw [upd_ne hlp]; exact upd_same), T.cl, T.no _ (by simp), (by show 1 < 1000; decide), ?_⟩
    rw [upd_ne hlp.symm] at hl
    refine k _ l ⟨dx, upd_same.trans (congrArg (fun q => some (HO.ins C dx q)) fs2_new)⟩ hl (by rw [upd_ne hlp.symm]; exact upd_same) fun b o e hb => ?_
    rw [upd_ne hb, upd_ne (ne_of_none e hl), upd_ne hb]
    exact e
theorem sc_si : FnScope ["self"] ["self"] (defScope sStoreInit) := ⟨rfl, rfl, rfl, by decide +kernel, rfl, by decide +kernel, by decide +kernel⟩
theorem ok_storeInit {C : Addr} (F : HasInit K "Store.__init__" C sStoreInit ["self"]) (T : Klass K mg "Store" C ["tables", "question"]) : Made P w K mg base C 1 ["self"] (spStoreInit C) := by
  obtain ⟨f, fd, F, M, b⟩ := F
  refine ⟨f, fd, F.ok sc_si (fun vs H Q E h => ?_) (fun cdv A outer s H vs Q E hr h => ?_), M, b⟩
  · obtain ⟨p, dx, rfl, _⟩ := h
    rfl
  · obtain ⟨p, dx, rfl, hp, k⟩ := h
    refine ⟨_, pss_cons (ps_fld (pv 0) (pe_lst pa_nil) rfl) (pss_one (ps_fld (pv 0) (pe_lst pa_nil) rfl)), ?_⟩
    refine ⟨Nat.zero_le _, fun l hl => ?_⟩
    have hpl : p ≠ l := ne_of_none hp hl
    refine ⟨_, rfl, p, C, dx, [], rfl, (by rw [upd_ne hpl]; exact hp), T.cl, T.no _ (by simp), (by show 0 < 1000; decide), ?_⟩
    refine ⟨Nat.zero_le _, fun m hm => ?_⟩
    have hpm : p ≠ m := ne_of_none upd_same hm
    rw [upd_ne hpm.symm] at hm
    have hlm : l ≠ m := ne_of_none upd_same hm
    rw [upd_ne hlm.symm] at hm
    refine ⟨_, rfl, p, C, dx, _, rfl, (by rw [upd_ne hpm]; exact upd_same), T.cl, T.no _ (by simp), (by show 1 < 1000; decide), ?_⟩
    refine k _ l m ⟨dx, upd_same.trans (congrArg (fun q => some (HO.ins C dx q)) fs2_new)⟩ hl hm hlm ?_ ?_ fun b o e hb => ?_
    · rw [upd_ne hpl.symm, upd_ne hlm, upd_ne hpl.symm]
      exact upd_same
    · rw [upd_ne hpm.symm]
      exact upd_same
    · rw [upd_ne hb, upd_ne (ne_of_none e hm), upd_ne hb, upd_ne (ne_of_none e hl)]
      exact e
theorem sc_iv : FnScope ["number"] ["number"] (defScope sIsValue) := ⟨rfl, rfl, rfl, by decide +kernel, rfl, by decide +kernel, by decide +kernel⟩
theorem ok_isValue (F : Has K mg "is_value" sIsValue ["number"]) (c1 : IntC mg "LEAST_VALUE" (-1000000000)) (c2 : IntC mg "GREATEST_VALUE" 1000000000) : Ok P w K mg base "is_value" 1 ["number"] spIsValue := by
  obtain ⟨f, fd, F, M, kp, b⟩ := F
  refine ⟨f, fd, F.ok sc_iv (fun vs H Q E h => ?_) (fun cdv A outer s H vs Q E hr h => ?_), M, kp, b⟩
  · obtain ⟨n, rfl, _⟩ := h
    rfl
  · obtain ⟨n, rfl, k⟩ := h
    refine ⟨_, pss_one (ps_ret (pe_chain op_le op_le (pe_const c1 rfl) (pv 0) (pe_const c2 rfl))), ?_⟩
    refine ⟨_, rfl, _, _, rfl, rfl, _, rfl, ?_⟩
    by_cases h1 : (-1000000000 : Int) ≤ n
    · rw [decide_eq_true h1]
      refine iteT ⟨_, _, rfl, rfl, ?_⟩
      have e : MdBase.isValue n = decide (n ≤ 1000000000) := by
        unfold MdBase.isValue
        rw [decide_eq_true h1, Bool.true_and]
      rw [e] at k
      exact k
    · rw [decide_eq_false h1]
      refine iteF ?_
      have e : MdBase.isValue n = false := by
        unfold MdBase.isValue
        rw [decide_eq_false h1, Bool.false_and]
      rw [e] at k
      exact k
theorem sc_ir : FnScope ["table", "numbers", "number"] ["table", "numbers"] (defScope sIsRowOf) := ⟨rfl, rfl, rfl, by decide +kernel, rfl, by decide +kernel, by decide +kernel⟩
theorem ok_isRowOf {C : Addr} (F : Has K mg "is_row_of" sIsRowOf ["table", "numbers"]) (N : Plain mg) (T : Klass K mg "Table" C ["columns", "rows"]) (G : Ok P w K mg base "is_value" 1 ["number"] spIsValue) :
    Ok P w K mg base "is_row_of" 2 ["table", "numbers"] (spIsRowOf K C) := by
  obtain ⟨f, fd, F, M, kp, b⟩ := F
  refine ⟨f, fd, F.ok sc_ir (fun vs H Q E h => ?_) (fun cdv A outer s H vs Q E hr h => ?_), M, kp, b⟩
  · obtain ⟨a, l, r, c, x, rfl, _⟩ := h
    rfl
  · obtain ⟨a, l, r, c, x, rfl, ⟨dx, ha⟩, hl, hsz, k⟩ := h
    refine ⟨_, pss_one (ps_ret (pe_and (pe_cmpR op_eq (pe_callB call_len_seq (by rfl) N.len PySem.boot_len (pa_cons (pv 1) pa_nil)) (pe_fld (pv 0) rfl) (nomark _))
      (pe_one (pe_callB (cr_all rfl) (by rfl) N.all (by decide +kernel) (pa_cons
        (pe_lc (own := [("number", 2)]) (g := gName 2) (tt := tYes) rfl sc_ir.nd (pi_list (pv 1)) (blkOk_by (N := ["table", "numbers", "number"]) (sc := defScope sIsRowOf) (by decide +kernel))
          (fun _ _ _ _ _ => pg_name (i := 2) sc_ir.nd rfl (Or.inl rfl)) (fun _ _ _ _ _ => pts_nil) (fun _ _ _ _ _ => pe_ok G hr rfl (pa_cons (pv 2) pa_nil))) pa_nil))))), ?_⟩
    refine ⟨_, rfl, l, _, rfl, Or.inl hl, _, rfl, a, C, dx, _, _, rfl, ha, T.cl, T.no _ (by simp), fs2_1, rfl, _, rfl, ?_⟩
    have e1 : (V.int ((x.map V.int).length : Nat) = V.int c) ↔ ((x.length : Int) = c) := by
      rw [List.length_map]
      exact ⟨fun q => V.int.inj q, fun q => congrArg V.int q⟩
    by_cases hc : (x.length : Int) = c
    · rw [decide_eq_true (e1.mpr hc)]
      refine iteT ⟨_, rfl, l, rfl, ⟨_, hl⟩, fun D hD => lc_val (bs := x.map MdBase.isValue) (F := V.bl) walk_list (fun i H x H' _ y => y) (fun H' s' => s'.seq hl) hD (by rw [List.length_map]; omega) (by rw [List.length_map, List.length_map]) ?_ ?_⟩
      · intro i y v H' N hi hy hv s' hN
        obtain ⟨z, hz, rfl⟩ := get_map hy
        refine ⟨rfl, _, rfl, z, rfl, ?_⟩
        rw [List.getElem?_map, hz] at hv
        cases hv
        exact hN _ (Same.refl _)
      · intro H' s' hD'
        refine ⟨D, _, rfl, SqL.of hD', ?_⟩
        have e : isRow c x = (x.map MdBase.isValue).all id := by
          unfold isRow
          rw [decide_eq_true hc, Bool.true_and, List.all_map]
          rfl
        rw [← e]
        exact k _ s'
    · rw [decide_eq_false (fun q => hc (e1.mp q))]
      refine iteF ?_
      have e : isRow c x = false := by
        unfold isRow
        rw [decide_eq_false hc, Bool.false_and]
      have := k _ (Same.refl H)
      rw [e] at this
      exact this
end
end Jp
/-! Atoms read from a list of numbers. Plain Lean. -/
namespace JpRead
open MdBase Md49
def termOk (k z : Int) : Bool := if k = 0 then isValue z else decide (k = 1) && (decide (0 ≤ z) && decide (z ≤ 9))
def toTerm (p : Int × Int) : Term := if p.1 = 0 then .con p.2 else .var p.2.toNat
def tcode : Term → Int × Int
  | .con z => (0, z)
  | .var v => (1, (v : Int))
theorem tcode_toTerm {p : Int × Int} (h : termOk p.1 p.2 = true) : tcode (toTerm p) = p := by
  obtain ⟨k, z⟩ := p
  simp only [termOk] at h
  simp only [toTerm]
  by_cases hk : k = 0
  · subst hk
    simp [tcode]
  · rw [if_neg hk] at h
    simp only [Bool.and_eq_true, decide_eq_true_eq] at h
    rw [if_neg hk, tcode, h.1]
    have : ((z.toNat : Nat) : Int) = z := by omega
    rw [this]
theorem term_some {k z : Int} {r : List Int} (h : termOk k z = true) : term? (k :: z :: r) = some (toTerm (k, z), r) := by
  simp only [termOk] at h
  simp only [term?, toTerm]
  by_cases hk : k = 0
  · rw [if_pos hk] at h
    simp [hk, h]
  · rw [if_neg hk] at h
    simp only [Bool.and_eq_true, decide_eq_true_eq] at h
    simp [hk, h.1, h.2.1, h.2.2]
theorem term_none {k z : Int} {r : List Int} (h : termOk k z = false) : term? (k :: z :: r) = none := by
  simp only [termOk] at h
  simp only [term?]
  by_cases hk : k = 0
  · rw [if_pos hk] at h
    simp [hk, h]
  · rw [if_neg hk] at h
    have h2 : ¬ (k = 1 ∧ 0 ≤ z ∧ z ≤ 9) := by
      intro q
      simp [q.1, q.2.1, q.2.2] at h
    simp [hk, h2]
/-- the pairs of numbers -/
def pairs : Nat → List Int → List (Int × Int)
  | n + 1, k :: z :: r => (k, z) :: pairs n r
  | _, _ => []
theorem pairs_length : ∀ {n : Nat} {l : List Int}, 2 * n ≤ l.length → (pairs n l).length = n
  | 0, l, _ => by cases l <;> rfl
  | n + 1, [], h => by simp at h
  | n + 1, [_], h => by simp at h; omega
  | n + 1, k :: z :: r, h => by
    simp only [pairs, List.length_cons]
    rw [pairs_length (n := n) (l := r) (by simp at h; omega)]
theorem pairs_get : ∀ {n : Nat} {l : List Int} {i : Nat}, 2 * n ≤ l.length → i < n → (pairs n l)[i]? = some (l.getD (2 * i) 0, l.getD (2 * i + 1) 0)
  | 0, l, i, _, h => by omega
  | n + 1, [], _, h, _ => by simp at h
  | n + 1, [_], _, h, _ => by simp at h; omega
  | n + 1, k :: z :: r, 0, h, _ => rfl
  | n + 1, k :: z :: r, i + 1, h, hi => by
    have e1 : 2 * (i + 1) = (2 * i + 1) + 1 := by omega
    have e2 : 2 * (i + 1) + 1 = (2 * i + 1 + 1) + 1 := by omega
    have ih := pairs_get (n := n) (l := r) (i := i) (by simp at h; omega) (by omega)
    simp only [pairs, List.getElem?_cons_succ]
    rw [ih, e2, e1]
    rfl
theorem terms_short : ∀ {n : Nat} {l : List Int}, l.length < 2 * n → terms? n l = none
  | 0, l, h => by omega
  | n + 1, [], _ => rfl
  | n + 1, [_], _ => rfl
  | n + 1, k :: z :: r, h => by
    have ih := terms_short (n := n) (l := r) (by simp at h; omega)
    rw [terms?]
    cases q : termOk k z with
    | true => rw [term_some q]; simp only [ih]
    | false => rw [term_none q]
theorem terms_none : ∀ {n : Nat} {l : List Int}, (pairs n l).all (fun p => termOk p.1 p.2) = false → terms? n l = none
  | 0, l, h => by cases l <;> simp [pairs] at h
  | n + 1, [], h => by simp [pairs] at h
  | n + 1, [_], h => by simp [pairs] at h
  | n + 1, k :: z :: r, h => by
    rw [terms?]
    cases q : termOk k z with
    | false => rw [term_none q]
    | true =>
      have h' : (pairs n r).all (fun p => termOk p.1 p.2) = false := by
        simp only [pairs, List.all_cons, q, Bool.true_and] at h
        exact h
      rw [term_some q]
      simp only [terms_none h']
theorem terms_some : ∀ {n : Nat} {l : List Int}, 2 * n ≤ l.length → (pairs n l).all (fun p => termOk p.1 p.2) = true → terms? n l = some ((pairs n l).map toTerm, l.drop (2 * n))
  | 0, l, _, _ => by cases l <;> rfl
  | n + 1, [], h, _ => by simp at h
  | n + 1, [_], h, _ => by simp at h; omega
  | n + 1, k :: z :: r, h, h2 => by
    simp only [pairs, List.all_cons, Bool.and_eq_true] at h2
    rw [terms?, term_some h2.1]
    simp only [terms_some (n := n) (l := r) (by simp at h; omega) h2.2]
    have e1 : 2 * (n + 1) = (2 * n + 1) + 1 := by omega
    rw [e1]
    rfl
/-- one atom, by the numbers from a place on -/
theorem atom_bad {cols : List Nat} {r : Int} {l : List Int} (h : ¬ (0 ≤ r ∧ r < (cols.length : Int))) : atom? cols (r :: l) = none := by
  rw [atom?]
  by_cases h0 : r < 0
  · rw [if_pos h0]
  · rw [if_neg h0]
    have : cols[r.toNat]? = none := List.getElem?_eq_none (by omega)
    simp only [this]
theorem atom_none {cols : List Nat} {r : Int} {l : List Int} {n : Nat} (h0 : 0 ≤ r) (hn : cols[r.toNat]? = some n) (h : terms? n l = none) : atom? cols (r :: l) = none := by
  rw [atom?, if_neg (by omega)]
  simp only [hn, h]
theorem atom_some {cols : List Nat} {r : Int} {l : List Int} {n : Nat} {ts : List Term} {q : List Int} (h0 : 0 ≤ r) (hn : cols[r.toNat]? = some n) (h : terms? n l = some (ts, q)) : atom? cols (r :: l) = some (⟨r.toNat, ts⟩, q) := by
  rw [atom?, if_neg (by omega)]
  simp only [hn, h]
/-- what is known of an atom that is read -/
structure Good (cols : List Nat) (a : Atom) : Prop where
  rel : a.rel < cols.length
  len : cols[a.rel]? = some a.args.length
  var : ∀ v ∈ a.args.flatMap varsOf, v < 10
theorem toTerm_var {p : Int × Int} (h : termOk p.1 p.2 = true) : ∀ v ∈ varsOf (toTerm p), v < 10 := by
  obtain ⟨k, z⟩ := p
  simp only [termOk] at h
  simp only [toTerm]
  by_cases hk : k = 0
  · rw [if_pos hk]
    intro v hv
    simp [varsOf] at hv
  · rw [if_neg hk] at h ⊢
    simp only [Bool.and_eq_true, decide_eq_true_eq] at h
    intro v hv
    simp [varsOf] at hv
    omega
theorem good_of {cols : List Nat} {r : Int} {l : List Int} {n : Nat} (h0 : 0 ≤ r) (hn : cols[r.toNat]? = some n) (hl : 2 * n ≤ l.length) (h : (pairs n l).all (fun p => termOk p.1 p.2) = true) : Good cols ⟨r.toNat, (pairs n l).map toTerm⟩ := by
  refine ⟨(List.getElem?_eq_some_iff.mp hn).1, ?_, fun v hv => ?_⟩
  · show cols[r.toNat]? = some ((pairs n l).map toTerm).length
    rw [List.length_map, pairs_length hl]
    exact hn
  · rw [List.mem_flatMap] at hv
    obtain ⟨t, ht, hv⟩ := hv
    obtain ⟨p, hp, rfl⟩ := List.mem_map.mp ht
    exact toTerm_var (List.all_eq_true.mp h p hp) v hv
theorem atoms_nil (cols : List Nat) (n : Nat) : atoms? cols n [] = some [] := by cases n <;> rfl
theorem atoms_stop {cols : List Nat} {n : Nat} {l : List Int} (hl : l ≠ []) (h : atom? cols l = none) : atoms? cols n l = none := by
  cases l with
  | nil => exact absurd rfl hl
  | cons x l =>
    cases n with
    | zero => rfl
    | succ n =>
      rw [atoms?]
      simp only [h]
theorem atoms_full {cols : List Nat} {l : List Int} (hl : l ≠ []) : atoms? cols 0 l = none := by
  cases l with
  | nil => exact absurd rfl hl
  | cons x l => rfl
theorem atoms_next {cols : List Nat} {n : Nat} {l r : List Int} {a : Atom} (h : atom? cols l = some (a, r)) : atoms? cols (n + 1) l = (atoms? cols n r).map (a :: ·) := by
  cases l with
  | nil => simp [atom?] at h
  | cons x l =>
    rw [atoms?]
    simp only [h]
    cases atoms? cols n r <;> rfl
end JpRead
namespace Jp
open PySem PySem.Spec PyProof.Rows L2
open MdBase (Term)
open JpRead (tcode termOk toTerm)
/-! ### one by one -/
def AllAt {α : Type} (R : Addr → α → Prop) (ps : List Addr) (xs : List α) : Prop := ps.length = xs.length ∧ ∀ (i : Nat) (p : Addr) (x : α), ps[i]? = some p → xs[i]? = some x → R p x
theorem AllAt.mono {α : Type} {R S : Addr → α → Prop} {ps : List Addr} {xs : List α} (h : AllAt R ps xs) (k : ∀ p x, p ∈ ps → R p x → S p x) : AllAt S ps xs := ⟨h.1, fun i p x a b => k p x (List.mem_of_getElem? a) (h.2 i p x a b)⟩
theorem AllAt.nil {α : Type} {R : Addr → α → Prop} : AllAt R [] [] := ⟨rfl, fun i p x a _ => by simp at a⟩
theorem AllAt.snoc {α : Type} {R : Addr → α → Prop} {ps : List Addr} {xs : List α} {p : Addr} {x : α} (h : AllAt R ps xs) (k : R p x) : AllAt R (ps ++ [p]) (xs ++ [x]) := by
  refine ⟨by simp [h.1], fun i q y a b => ?_⟩
  by_cases hi : i < ps.length
  · rw [List.getElem?_append_left hi] at a
    rw [List.getElem?_append_left (by rw [← h.1]; exact hi)] at b
    exact h.2 i q y a b
  · have hl := h.1
    have hb := (List.getElem?_eq_some_iff.mp a).1
    simp at hb
    have e : i = ps.length := by omega
    subst e
    rw [List.getElem?_append_right (Nat.le_refl _), Nat.sub_self] at a
    rw [List.getElem?_append_right (by omega), hl, Nat.sub_self] at b
    cases a
    cases b
    exact k
theorem AllAt.get {α : Type} {R : Addr → α → Prop} {ps : List Addr} {xs : List α} (h : AllAt R ps xs) {i : Nat} {p : Addr} (a : ps[i]? = some p) : ∃ x, xs[i]? = some x ∧ R p x := by
  have hi : i < xs.length := by
    rw [← h.1]
    exact (List.getElem?_eq_some_iff.mp a).1
  exact ⟨xs[i], List.getElem?_eq_getElem hi, h.2 i p _ a (List.getElem?_eq_getElem hi)⟩
theorem AllAt.at {α : Type} {R : Addr → α → Prop} {ps : List Addr} {xs : List α} (h : AllAt R ps xs) {i : Nat} {x : α} (a : xs[i]? = some x) : ∃ p, ps[i]? = some p ∧ R p x := by
  have hi : i < ps.length := by
    rw [h.1]
    exact (List.getElem?_eq_some_iff.mp a).1
  exact ⟨ps[i], List.getElem?_eq_getElem hi, h.2 i _ x (List.getElem?_eq_getElem hi) a⟩
theorem allAt_of {α : Type} {R : Addr → α → Prop} : ∀ {zs : List V} {xs : List α}, zs.length = xs.length → (∀ (i : Nat) (z : V), zs[i]? = some z → ∃ p x, z = .ref p ∧ xs[i]? = some x ∧ R p x) → ∃ ps : List Addr, zs = ps.map V.ref ∧ AllAt R ps xs
  | [], [], _, _ => ⟨[], rfl, AllAt.nil⟩
  | [], _ :: _, h, _ => by cases h
  | _ :: _, [], h, _ => by cases h
  | z :: zs, x :: xs, hl, h => by
    obtain ⟨ps, e, ha⟩ := allAt_of (zs := zs) (xs := xs) (Nat.succ.inj hl) fun i z hz => h (i + 1) z hz
    obtain ⟨p, y, rfl, hy, hr⟩ := h 0 z rfl
    cases hy
    refine ⟨p :: ps, by rw [e]; rfl, congrArg (· + 1) ha.1, fun i q u a b => ?_⟩
    cases i with
    | zero =>
      cases a
      cases b
      exact hr
    | succ i => exact ha.2 i q u a b
/-! ### terms, atoms, tables in the heap -/
def TermAt (H : Hp) (p : Addr) (t : Term) : Prop := H p = some (.tup [.int (tcode t).1, .int (tcode t).2])
structure AtomAt (C : Addr) (H : Hp) (a ta l : Addr) (ts : List Term) : Prop where
  ins : At2 C "table" "terms" H a (.ref ta) (.ref l)
  ex : ∃ ps, H l = some (.lst (ps.map V.ref)) ∧ AllAt (TermAt H) ps ts
theorem AtomAt.same {C : Addr} {H H' : Hp} {a ta l : Addr} {ts : List Term} (h : AtomAt C H a ta l ts) (s : Same H H') : AtomAt C H' a ta l ts := by
  obtain ⟨ps, h1, h2⟩ := h.ex
  exact ⟨h.ins.same s, ps, s _ _ h1, h2.mono fun p x _ e => s _ _ e⟩
/-- a table: its columns, where its rows' list stands -/
def TableAt (C : Addr) (H : Hp) (a r : Addr) (c : Nat) : Prop := At2 C "columns" "rows" H a (.int c) (.ref r)
/-! ### promises -/
def spIsTerm : Sp := fun vs H Q _ => ∃ k n, vs = [.int k, .int n] ∧ Q (.bl (termOk k n)) H
def spReadAtom (K : PySem.W.Frag) (CT CA : Addr) : Sp := fun vs H Q _ => ∃ (lt ln : Addr) (tas : List Addr) (cols : List Nat) (ns : List Int) (pl : Nat),
  vs = [.ref lt, .ref ln, .int pl] ∧ SqL K H lt (tas.map V.ref) ∧ AllAt (fun a c => ∃ r, TableAt CT H a r c) tas cols ∧ SqL K H ln (ns.map V.int) ∧ ns.length ≤ 1000 ∧ pl < ns.length ∧ (∀ c ∈ cols, c ≤ 4) ∧
  (MdBase.atom? cols (ns.drop pl) = none → ∀ H', Same H H' → Q .non H') ∧
  (∀ a, MdBase.atom? cols (ns.drop pl) = some (a, ns.drop (pl + 1 + 2 * a.args.length)) → JpRead.Good cols a → pl + 1 + 2 * a.args.length ≤ ns.length →
    ∀ H' p l ta, Same H H' → H p = none → H l = none → tas[a.rel]? = some ta → AtomAt CA H' p ta l a.args → Q (.ref p) H')
section
variable {P : Program} {w : World} {K : PySem.W.Frag} {mg : Str → Option Value} {base : Heap}
theorem same_init {H H1 : Hp} {x dx C : Addr} (nx : H x = Option.none) (nd : H dx = Option.none) (k : ∀ b o, (upd (upd H dx (.own x)) x (.ins C dx [])) b = some o → b ≠ x → H1 b = some o) : Same H H1 := Same.made nx nd k
theorem sc_ai : FnScope ["self", "table", "terms"] ["self", "table", "terms"] (defScope sAtomInit) := ⟨rfl, rfl, rfl, by decide +kernel, rfl, by decide +kernel, by decide +kernel⟩
theorem ok_atomInit {C : Addr} (F : HasInit K "Atom.__init__" C sAtomInit ["self", "table", "terms"]) (T : Klass K mg "Atom" C ["table", "terms"]) : Made P w K mg base C 1 ["self", "table", "terms"] (spInit2 C "table" "terms") := by
  obtain ⟨f, fd, F, M, b⟩ := F
  refine ⟨f, fd, F.ok sc_ai (fun vs H Q E h => ?_) (fun cdv A outer s H vs Q E hr h => ?_), M, b⟩
  · obtain ⟨p, dx, x, y, rfl, _⟩ := h
    rfl
  · obtain ⟨p, dx, x, y, rfl, hp, k⟩ := h
    refine ⟨_, pss_cons (ps_fld (pv 0) (pv 1) rfl) (pss_one (ps_fld (pv 0) (pv 2) rfl)), ?_⟩
    refine ⟨_, rfl, _, rfl, p, C, dx, [], rfl, hp, T.cl, T.no _ (by simp), (by show 0 < 1000; decide), ?_⟩
    refine ⟨_, rfl, _, rfl, p, C, dx, _, rfl, upd_same, T.cl, T.no _ (by simp), (by show 1 < 1000; decide), ?_⟩
    exact k _ ⟨dx, upd_same.trans (congrArg (fun q => some (HO.ins C dx q)) fs2_new)⟩ fun b o e hb => by rw [upd_ne hb, upd_ne hb]; exact e
theorem sc_fi : FnScope ["self", "row", "bound"] ["self", "row", "bound"] (defScope sFitInit) := ⟨rfl, rfl, rfl, by decide +kernel, rfl, by decide +kernel, by decide +kernel⟩
theorem ok_fitInit {C : Addr} (F : HasInit K "FittingRow.__init__" C sFitInit ["self", "row", "bound"]) (T : Klass K mg "FittingRow" C ["row", "bound"]) : Made P w K mg base C 1 ["self", "row", "bound"] (spInit2 C "row" "bound") := by
  obtain ⟨f, fd, F, M, b⟩ := F
  refine ⟨f, fd, F.ok sc_fi (fun vs H Q E h => ?_) (fun cdv A outer s H vs Q E hr h => ?_), M, b⟩
  · obtain ⟨p, dx, x, y, rfl, _⟩ := h
    rfl
  · obtain ⟨p, dx, x, y, rfl, hp, k⟩ := h
    refine ⟨_, pss_cons (ps_fld (pv 0) (pv 1) rfl) (pss_one (ps_fld (pv 0) (pv 2) rfl)), ?_⟩
    refine ⟨_, rfl, _, rfl, p, C, dx, [], rfl, hp, T.cl, T.no _ (by simp), (by show 0 < 1000; decide), ?_⟩
    refine ⟨_, rfl, _, rfl, p, C, dx, _, rfl, upd_same, T.cl, T.no _ (by simp), (by show 1 < 1000; decide), ?_⟩
    exact k _ ⟨dx, upd_same.trans (congrArg (fun q => some (HO.ins C dx q)) fs2_new)⟩ fun b o e hb => by rw [upd_ne hb, upd_ne hb]; exact e
theorem sc_it : FnScope ["kind", "number"] ["kind", "number"] (defScope sIsTerm) := ⟨rfl, rfl, rfl, by decide +kernel, rfl, by decide +kernel, by decide +kernel⟩
theorem ok_isTerm (F : Has K mg "is_term" sIsTerm ["kind", "number"]) (c0 : IntC mg "VALUE_TERM" 0) (c1 : IntC mg "VARIABLE_TERM" 1) (c9 : IntC mg "GREATEST_VARIABLE" 9) (G : Ok P w K mg base "is_value" 1 ["number"] spIsValue) :
    Ok P w K mg base "is_term" 2 ["kind", "number"] spIsTerm := by
  obtain ⟨f, fd, F, M, kp, b⟩ := F
  refine ⟨f, fd, F.ok sc_it (fun vs H Q E h => ?_) (fun cdv A outer s H vs Q E hr h => ?_), M, kp, b⟩
  · obtain ⟨k, n, rfl, _⟩ := h
    rfl
  · obtain ⟨k, n, rfl, q⟩ := h
    refine ⟨_, pss_cons (ps_if (pt_cmpR op_eq (pv 0) (pe_const c0 rfl) (nomark _)) (pss_one (ps_ret (pe_ok G hr rfl (pa_cons (pv 1) pa_nil)))) pss_nil)
      (pss_one (ps_ret (pe_and (pe_cmpR op_eq (pv 0) (pe_const c1 rfl) (nomark _)) (pe_one (pe_chain op_le op_le pe_int (pv 1) (pe_const c9 rfl)))))), ?_⟩
    refine ⟨_, rfl, rfl, _, rfl, ?_⟩
    unfold termOk at q
    by_cases h0 : k = 0
    · rw [if_pos h0] at q
      rw [decide_eq_true (congrArg V.int h0)]
      exact iteT ⟨_, rfl, n, rfl, q⟩
    · rw [if_neg h0] at q
      rw [decide_eq_false fun e => h0 (V.int.inj e)]
      refine iteF ⟨_, rfl, rfl, _, rfl, ?_⟩
      by_cases h1 : k = 1
      · rw [decide_eq_true h1, Bool.true_and] at q
        rw [decide_eq_true (congrArg V.int h1)]
        refine iteT ⟨_, rfl, _, _, rfl, rfl, _, rfl, ?_⟩
        by_cases h2 : (0 : Int) ≤ n
        · rw [decide_eq_true h2, Bool.true_and] at q
          rw [decide_eq_true h2]
          exact iteT ⟨_, _, rfl, rfl, q⟩
        · rw [decide_eq_false h2, Bool.false_and] at q
          rw [decide_eq_false h2]
          exact iteF q
      · rw [decide_eq_false h1, Bool.false_and] at q
        rw [decide_eq_false fun e => h1 (V.int.inj e)]
        exact iteF q
end
end Jp
namespace Jp
open PySem PySem.Spec PyProof.Rows L2
open MdBase (Term)
open JpRead (tcode termOk toTerm)
section
variable {P : Program} {w : World} {K : PySem.W.Frag} {mg : Str → Option Value} {base : Heap}
theorem sc_ra : FnScope ["tables", "numbers", "place", "table", "behind", "terms", "k", "term"] ["tables", "numbers", "place"] (defScope sReadAtom) := ⟨rfl, rfl, rfl, by decide +kernel, rfl, by decide +kernel, by decide +kernel⟩
theorem fitsL {i : Int} (h1 : -5000 ≤ i) (h2 : i ≤ 5000) : Builtin.Range.rangeFitsLong i = true := by
  unfold Builtin.Range.rangeFitsLong
  rw [decide_eq_true (show -(2 ^ 63) ≤ i by omega), decide_eq_true (show i < 2 ^ 63 by omega)]
  rfl
theorem rg2 {p c : Nat} (h : p ≤ 1000) (hc : c ≤ 4) : RgC ((p : Int) + 1) ((p : Int) + 1 + 2 * (c : Int)) 2 c := by
  have e : Builtin.Range.rangeSize ((p : Int) + 1) ((p : Int) + 1 + 2 * (c : Int)) 2 = (c : Int) := by
    unfold Builtin.Range.rangeSize
    simp only [show ((2 : Int) > 0) by decide, if_true]
    split <;> omega
  refine ⟨by decide, by decide, ?_, e⟩
  unfold Builtin.Range.small
  rw [e]
  have h1 : (p : Int) ≤ 1000 := by omega
  have h2 : (c : Int) ≤ 4 := by omega
  have h3 : (0 : Int) ≤ p := by omega
  have h4 : (0 : Int) ≤ c := by omega
  generalize (p : Int) = x at h1 h3 ⊢
  generalize (c : Int) = y at h2 h4 ⊢
  rw [if_pos (show (2 : Int) > 0 by decide), fitsL (i := x + 1) (by omega) (by omega), fitsL (i := x + 1 + 2 * y) (by omega) (by omega), fitsL (i := 2) (by omega) (by omega), fitsL (i := y) (by omega) (by omega), fitsL (i := x + 1 + 2 * y + (2 - 1)) (by omega) (by omega), Bool.or_true]
  rfl
theorem ok_readAtom {CT CA : Addr} (F : Has K mg "read_atom" sReadAtom ["tables", "numbers", "place"]) (N : Plain mg) (T : Klass K mg "Table" CT ["columns", "rows"]) (TA : Klass K mg "Atom" CA ["table", "terms"])
    (MA : Made P w K mg base CA 1 ["self", "table", "terms"] (spInit2 CA "table" "terms")) (G : Ok P w K mg base "is_term" 2 ["kind", "number"] spIsTerm) :
    Ok P w K mg base "read_atom" 3 ["tables", "numbers", "place"] (spReadAtom K CT CA) := by
  obtain ⟨f, fd, F, M, kp, b⟩ := F
  refine ⟨f, fd, F.ok sc_ra (fun vs H Q E h => ?_) (fun cdv A outer s H vs Q E hr h => ?_), M, kp, b⟩
  · obtain ⟨lt, ln, tas, cols, ns, pl, rfl, _⟩ := h
    rfl
  · obtain ⟨lt, ln, tas, cols, ns, pl, rfl, hlt, htab, hln, hlen, hpl, hc4, kN, kS⟩ := h
    refine ⟨_, pss_cons (ps_if (pt_not (pt_chain op_le op_lt pe_int (pe_ix (ixL K) (pv 1) (pv 2) (fun _ _ => rfl)) (pe_callB call_len_seq (by rfl) N.len PySem.boot_len (pa_cons (pv 0) pa_nil)))) (pss_one (ps_ret pe_non)) pss_nil)
      (pss_cons (ps_set (i := 3) sc_ra.nd rfl (Or.inl rfl) (pe_ix (ixL K) (pv 0) (pe_ix (ixL K) (pv 1) (pv 2) (fun _ _ => rfl)) (fun _ _ => rfl)))
      (pss_cons (ps_set (i := 4) sc_ra.nd rfl (Or.inl rfl) (pe_op op_add (pe_op op_add (pv 2) pe_int) (pe_op op_mul pe_int (pe_fld (pv 3) rfl))))
      (pss_cons (ps_if (pt_cmpR op_gt (pv 4) (pe_callB call_len_seq (by rfl) N.len PySem.boot_len (pa_cons (pv 1) pa_nil)) (nomark _)) (pss_one (ps_ret pe_non)) pss_nil)
      (pss_cons (ps_setLc (i := 5) (own := [("k", 6)]) (g := gName 6) (tt := tYes) rfl sc_ra.nd rfl rfl (sw_true rfl rfl rfl (by decide +kernel))
        (pi_range3 rfl N.range (pa_cons (pe_op op_add (pv 2) pe_int) (pa_cons (pv 4) (pa_cons pe_int pa_nil))))
        (blkOk_by (N := ["tables", "numbers", "place", "table", "behind", "terms", "k", "term"]) (sc := defScope sReadAtom) (by decide +kernel))
        (fun _ _ _ _ _ => pg_name (i := 6) sc_ra.nd rfl (Or.inl rfl)) (fun _ _ _ _ _ => pts_nil)
        (fun _ _ _ _ _ => pe_tup (pa_cons (pe_ix (ixL K) (pv 1) (pv 6) (fun _ _ => rfl)) (pa_cons (pe_ix (ixL K) (pv 1) (pe_op op_add (pv 6) pe_int) (fun _ _ => rfl)) pa_nil))))
      (pss_cons (ps_if (pt_not (pt_val (pe_callB (cr_all rfl) (by rfl) N.all (by decide +kernel) (pa_cons
          (pe_lc (own := [("term", 7)]) (g := gName 7) (tt := tYes) rfl sc_ra.nd (pi_list (pv 5)) (blkOk_by (N := ["tables", "numbers", "place", "table", "behind", "terms", "k", "term"]) (sc := defScope sReadAtom) (by decide +kernel))
            (fun _ _ _ _ _ => pg_name (i := 7) sc_ra.nd rfl (Or.inl rfl)) (fun _ _ _ _ _ => pts_nil)
            (fun _ _ _ _ _ => pe_ok G hr rfl (pa_cons (pe_ix (ixT K) (pv 7) pe_int (fun _ _ => rfl)) (pa_cons (pe_ix (ixT K) (pv 7) pe_int (fun _ _ => rfl)) pa_nil)))) pa_nil)))) (pss_one (ps_ret pe_non)) pss_nil)
      (pss_one (ps_ret (pe_new MA hr rfl TA.mgC (pa_cons (pv 3) (pa_cons (pv 5) pa_nil)))))))))), ?_⟩
    have hr0 : ns[pl]? = some ns[pl] := List.getElem?_eq_getElem hpl
    have hg : (ns.map V.int)[pl]? = some (V.int ns[pl]) := by rw [List.getElem?_map, hr0]; rfl
    have hdr : ns.drop pl = ns[pl] :: ns.drop (pl + 1) := List.drop_eq_getElem_cons hpl
    generalize ns[pl] = r at hr0 hg hdr
    rw [hdr] at kN kS
    have hll : (ns.drop (pl + 1)).length = ns.length - (pl + 1) := List.length_drop
    refine ⟨_, rfl, _, rfl, ln, _, _, _, rfl, rfl, hln, atI_nat hg, _, _, rfl, rfl, _, rfl, ?_⟩
    by_cases h0 : (0 : Int) ≤ r
    rotate_left
    · rw [decide_eq_false h0]
      exact iteF ⟨_, rfl, iteT (kN (JpRead.atom_bad (by omega)) H (Same.refl H))⟩
    rw [decide_eq_true h0]
    refine iteT ⟨_, rfl, lt, _, rfl, Or.inl hlt, _, _, rfl, rfl, _, rfl, ?_⟩
    rw [List.length_map]
    by_cases h1 : r < (tas.length : Int)
    rotate_left
    · rw [decide_eq_false h1]
      exact iteT (kN (JpRead.atom_bad (by rw [← htab.1]; omega)) H (Same.refl H))
    rw [decide_eq_true h1]
    refine iteF ?_
    -- table = tables[numbers[place]]
    obtain ⟨j, rfl⟩ : ∃ j : Nat, r = (j : Int) := ⟨r.toNat, by omega⟩
    have hj : j < tas.length := by omega
    have hta : tas[j]? = some tas[j] := List.getElem?_eq_getElem hj
    obtain ⟨c, hc, rw0, hT⟩ := htab.get hta
    generalize tas[j] = ta at hta hT
    obtain ⟨dx, hT⟩ := hT
    have hc' : cols[((j : Int)).toNat]? = some c := hc
    have c4 : c ≤ 4 := hc4 c (List.mem_of_getElem? hc)
    refine ⟨_, rfl, _, rfl, _, rfl, ln, _, _, _, rfl, rfl, hln, atI_nat hg, lt, _, _, _, rfl, rfl, hlt, atI_nat (v := V.ref ta) (by rw [List.getElem?_map, hta]; rfl), ?_⟩
    -- behind = place + 1 + 2 * table.columns
    refine ⟨_, rfl, _, _, rfl, rfl, _, rfl, ta, CT, dx, _, _, rfl, hT, T.cl, T.no _ (by simp), fs2_1, _, _, rfl, rfl, .inl ⟨by decide, by decide⟩, _, _, rfl, rfl, ?_⟩
    -- if behind > len(numbers)
    refine ⟨_, rfl, _, rfl, ln, _, rfl, Or.inl hln, _, _, rfl, rfl, _, rfl, ?_⟩
    rw [List.length_map]
    by_cases h2 : (ns.length : Int) < (pl : Int) + 1 + 2 * (c : Int)
    · rw [decide_eq_true h2]
      exact iteT (kN (JpRead.atom_none h0 hc' (JpRead.terms_short (by omega))) H (Same.refl H))
    rw [decide_eq_false h2]
    refine iteF ?_
    have h2' : 2 * c ≤ (ns.drop (pl + 1)).length := by omega
    -- terms = [..]
    refine ⟨_, rfl, _, _, rfl, rfl, _, rfl, _, _, _, c, rfl, rg2 (by omega) c4, fun D hD => ?_⟩
    have prs := JpRead.pairs_length h2'
    have pg : ∀ i, i < c → (JpRead.pairs c (ns.drop (pl + 1)))[i]? = some (ns.getD (pl + 1 + 2 * i) 0, ns.getD (pl + 1 + 2 * i + 1) 0) := fun i hi => by
      rw [JpRead.pairs_get h2' hi]
      simp only [List.getD_eq_getElem?_getD, List.getElem?_drop, Nat.add_assoc]
    have nsg : ∀ i, i < ns.length → (ns.map V.int)[i]? = some (V.int (ns.getD i 0)) := fun i hi => by
      simp [List.getElem?_map, List.getD_eq_getElem?_getD, List.getElem?_eq_getElem hi]
    generalize hpr : JpRead.pairs c (ns.drop (pl + 1)) = prL at prs pg
    refine lc_made walk_rangeC (xs := (List.range c).map fun i => V.int ((pl : Int) + 1 + (i : Nat) * 2)) (fun i H x H' hi y => ⟨y.1, by rw [List.getElem?_map, List.getElem?_range hi, y.2]; rfl⟩) (fun _ _ => trivial) hD (by show c ≤ 2 ^ 24; omega)
      (fun i z H' => ∃ p q, z = .ref p ∧ prL[i]? = some q ∧ H' p = some (.tup [.int q.1, .int q.2])) ?_ ?_ ?_
    · rintro i z H1 H2 acc hD1 bt ⟨p, q, rfl, hq, hp⟩
      exact ⟨p, q, rfl, hq, bt p _ hp (ne_of hp hD1 (by intro e; cases e))⟩
    · intro i x H1 acc Nn hi hx sm hD1 hN
      rw [List.getElem?_map, List.getElem?_range hi] at hx
      cases hx
      have i1 : pl + 1 + 2 * i < ns.length := by omega
      have i2 : pl + 1 + 2 * i + 1 < ns.length := by omega
      have e1 : (pl : Int) + 1 + (i : Nat) * 2 = ((pl + 1 + 2 * i : Nat) : Int) := by omega
      have e2 : (pl : Int) + 1 + (i : Nat) * 2 + 1 = ((pl + 1 + 2 * i + 1 : Nat) : Int) := by omega
      refine ⟨rfl, _, rfl, _, rfl, ln, _, _, _, rfl, rfl, sm.seq hln, at_of e1 (nsg _ i1), _, rfl, _, rfl, _, _, rfl, rfl, ln, _, _, _, rfl, rfl, sm.seq hln, at_of e2 (nsg _ i2), (by show 2 ≤ sizeLine; decide), fun p hp => ?_⟩
      exact hN _ _ (same_upd hp) ⟨p, _, rfl, pg i hi, upd_same⟩
    · intro H1 zs sm hD1 hzl hR
      obtain ⟨ps, rfl, hps⟩ := allAt_of (xs := prL) (hzl.trans prs.symm) hR
      -- if not all([..])
      refine ⟨_, rfl, D, rfl, ⟨_, SqL.of hD1⟩, fun D2 hD2 => lc_val (bs := prL.map fun q => termOk q.1 q.2) (F := V.bl) walk_list (fun i H x H' _ y => y) (fun H' s' => s'.seq (SqL.of hD1)) hD2 (by rw [List.length_map, hps.1, prs]; show c ≤ 2 ^ 24; omega) (by rw [List.length_map, List.length_map, hps.1]) ?_ ?_⟩
      · intro i y v H2 N2 hi hy hv s2 hN
        obtain ⟨p, hp, rfl⟩ := get_map hy
        obtain ⟨q, hq, hT2⟩ := hps.get hp
        rw [List.getElem?_map, hq] at hv
        cases hv
        have hq2 := s2 _ _ hT2
        refine ⟨rfl, _, rfl, p, _, _, _, rfl, rfl, SqT.of hq2, atI_nat (j := 0) rfl, _, rfl, p, _, _, _, rfl, rfl, SqT.of hq2, atI_nat (j := 1) rfl, _, _, rfl, ?_⟩
        exact hN _ (Same.refl _)
      · intro H2 s2 hD2'
        refine ⟨D2, _, rfl, SqL.of hD2', _, rfl, ?_⟩
        have sm2 : Same H H2 := sm.trans s2
        have eall : (prL.map fun q => termOk q.1 q.2).all id = prL.all fun q => termOk q.1 q.2 := List.all_map
        rw [eall]
        cases ea : prL.all fun q => termOk q.1 q.2 with
        | false => exact iteT (kN (JpRead.atom_none h0 hc' (JpRead.terms_none (by rw [hpr]; exact ea))) H2 sm2)
        | true =>
          refine iteF ⟨_, rfl, _, rfl, fun x dy nx ndy ne => ⟨x, dy, _, _, rfl, upd_same, fun H3 hat k3 => ⟨rfl, ?_⟩⟩⟩
          have s3 : Same H2 H3 := Same.made nx ndy k3
          have hea : (JpRead.pairs c (ns.drop (pl + 1))).all (fun q => termOk q.1 q.2) = true := by rw [hpr]; exact ea
          have hts := JpRead.terms_some h2' hea
          have hgood := JpRead.good_of h0 hc' h2' hea
          rw [hpr] at hts hgood
          have hlen2 : (prL.map toTerm).length = c := by rw [List.length_map, prs]
          refine kS ⟨((j : Int)).toNat, prL.map toTerm⟩ ?_ hgood (by show pl + 1 + 2 * (prL.map toTerm).length ≤ ns.length; omega) H3 x D ta (sm2.trans s3) (sm2.free nx) hD hta ⟨hat, ps, s3 _ _ (s2 _ _ hD1), ?_, ?_⟩
          · rw [JpRead.atom_some h0 hc' hts, List.drop_drop]
            show _ = some (_, ns.drop (pl + 1 + 2 * (prL.map toTerm).length))
            rw [hlen2]
          · rw [List.length_map]
            exact hps.1
          · intro i p t hp ht
            rw [List.getElem?_map] at ht
            obtain ⟨q, hq, hT3⟩ := hps.get hp
            rw [hq] at ht
            cases ht
            show H3 p = some _
            rw [JpRead.tcode_toTerm (List.all_eq_true.mp ea q (List.mem_of_getElem? hq))]
            exact s3 _ _ (s2 _ _ hT3)
end
end Jp
namespace Jp
open PySem PySem.Spec PyProof.Rows L2
open MdBase (Term Atom)
/-- an atom at a, its terms' list apart from what stood in H0 and from p -/
def AtomIn (CA : Addr) (H0 : Hp) (tas : List Addr) (p : Addr) (H : Hp) (a : Addr) (at_ : Atom) : Prop := ∃ ta l, H0 l = none ∧ l ≠ p ∧ tas[at_.rel]? = some ta ∧ AtomAt CA H a ta l at_.args
theorem AtomAt.but {C D : Addr} {H H' : Hp} {a ta l : Addr} {ts : List Term} {xs : List V} (h : AtomAt C H a ta l ts) (hD : H D = some (.lst xs)) (hl : l ≠ D) (b : But D H H') : AtomAt C H' a ta l ts := by
  obtain ⟨dx, h0⟩ := h.ins
  obtain ⟨ps, h1, h2⟩ := h.ex
  exact ⟨⟨dx, b _ _ h0 (ne_of h0 hD (by intro e; cases e))⟩, ps, b _ _ h1 hl, h2.mono fun p x _ e => b _ _ e (ne_of e hD (by intro e; cases e))⟩
def spReadAtoms (K : PySem.W.Frag) (CT CA : Addr) : Sp := fun vs H Q _ => ∃ (lt ln : Addr) (tas : List Addr) (cols : List Nat) (ns : List Int),
  vs = [.ref lt, .ref ln] ∧ SqL K H lt (tas.map V.ref) ∧ AllAt (fun a c => ∃ r, TableAt CT H a r c) tas cols ∧ SqL K H ln (ns.map V.int) ∧ ns.length ≤ 1000 ∧ (∀ c ∈ cols, c ≤ 4) ∧
  (Md49.atoms? cols 5 ns = none → ∀ H', Same H H' → Q .non H') ∧
  (∀ ats, Md49.atoms? cols 5 ns = some ats → (∀ a ∈ ats, JpRead.Good cols a) → ats.length ≤ 5 → ∀ H' p as, Same H H' → H p = none → H' p = some (.lst (as.map V.ref)) → AllAt (AtomIn CA H tas p H') as ats → Q (.ref p) H')
section
variable {P : Program} {w : World} {K : PySem.W.Frag} {mg : Str → Option Value} {base : Heap}
theorem sc_ras : FnScope ["tables", "numbers", "atoms", "place", "atom"] ["tables", "numbers"] (defScope sReadAtoms) := ⟨rfl, rfl, rfl, by decide +kernel, rfl, by decide +kernel, by decide +kernel⟩
theorem ok_readAtoms {CT CA : Addr} (F : Has K mg "read_atoms" sReadAtoms ["tables", "numbers"]) (N : Plain mg) (TA : Klass K mg "Atom" CA ["table", "terms"]) (c5 : IntC mg "MOST_ATOMS" 5)
    (G : Ok P w K mg base "read_atom" 3 ["tables", "numbers", "place"] (spReadAtom K CT CA)) :
    Ok P w K mg base "read_atoms" 4 ["tables", "numbers"] (spReadAtoms K CT CA) := by
  obtain ⟨f, fd, F, M, kp, b⟩ := F
  refine ⟨f, fd, F.ok sc_ras (fun vs H Q E h => ?_) (fun cdv A outer s H vs Q E hr h => ?_), M, kp, b⟩
  · obtain ⟨lt, ln, tas, cols, ns, rfl, _⟩ := h
    rfl
  · obtain ⟨lt, ln, tas, cols, ns, rfl, hlt, htab, hln, hlen, hc4, kN, kS⟩ := h
    refine ⟨_, pss_cons (ps_set (i := 2) sc_ras.nd rfl (Or.inl rfl) (pe_lst pa_nil))
      (pss_cons (ps_set (i := 3) sc_ras.nd rfl (Or.inl rfl) pe_int)
      (pss_cons (ps_while PassesOwn.never (pt_cmpR op_lt (pv 3) (pe_callB call_len_seq (by rfl) N.len PySem.boot_len (pa_cons (pv 1) pa_nil)) (nomark _))
        (pss_cons (ps_set (i := 4) sc_ras.nd rfl (Or.inl rfl) (pe_ok G hr rfl (pa_cons (pv 0) (pa_cons (pv 1) (pa_cons (pv 3) pa_nil)))))
        (pss_cons (ps_if (PW.pt (pw_or (pt_cmpR op_isN (pv 4) pe_non (nomark _)) (pw_or1 (pt_cmpR op_eq (pe_callB call_len_seq (by rfl) N.len PySem.boot_len (pa_cons (pv 2) pa_nil)) (pe_const c5 rfl) (nomark _))))) (pss_one (ps_ret pe_non)) pss_nil)
        (pss_cons (ps_expr (pe_bm PySem.F.plainAttrs_list PySem.F.slot_list_append PySem.F.type_list_append mt_append (pv 2) (pa_cons (pv 4) pa_nil)))
        (pss_one (ps_aug (i := 3) sc_ras.nd rfl (.inl rfl) (pe_op op_add pe_int (pe_op op_mul pe_int (pe_callB call_len_seq (by rfl) N.len PySem.boot_len (pa_cons (pe_fld (pv 4) rfl) pa_nil)))) ip_add))))))
      (pss_one (ps_ret (pv 2))))), ?_⟩
    refine ⟨Nat.zero_le _, fun la hla => ?_⟩
    refine ⟨fun m σ H' => ∃ (ats : List Atom) (as : List Addr) (pl : Nat) (v : Option V), σ = [some (.ref lt), some (.ref ln), some (.ref la), some (.int pl), v] ∧ Same H H' ∧ H' la = some (.lst (as.map V.ref)) ∧ AllAt (AtomIn CA H tas la H') as ats ∧ pl ≤ ns.length ∧ ats.length ≤ 5 ∧
      (∀ a ∈ ats, JpRead.Good cols a) ∧ Md49.atoms? cols 5 ns = (Md49.atoms? cols (5 - ats.length) (ns.drop pl)).map (ats ++ ·) ∧ m = ns.length - pl, ⟨_, [], [], 0, none, rfl, same_upd hla, upd_same, AllAt.nil, Nat.zero_le _, Nat.zero_le _, fun _ h => by simp at h, by simp, rfl⟩, ?_⟩
    rintro m σ H1 ⟨ats, as, pl, v, rfl, sm, hl1, hat, hpl, h5, hgd, heq, rfl⟩
    have e1 : (V.int (pl : Int)) = V.int ((pl : Nat) : Int) := rfl
    refine ⟨_, rfl, _, rfl, ln, _, rfl, Or.inl (sm.seq hln), _, _, rfl, rfl, _, rfl, ?_⟩
    rw [List.length_map]
    by_cases hlt2 : (pl : Int) < (ns.length : Int)
    rotate_left
    · rw [decide_eq_false hlt2]
      refine iteF ⟨_, rfl, ?_⟩
      have ep : pl = ns.length := by omega
      subst ep
      rw [List.drop_length, JpRead.atoms_nil] at heq
      have heq' : Md49.atoms? cols 5 ns = some ats := by rw [heq]; simp
      exact kS ats heq' hgd h5 H1 la as sm hla hl1 hat
    rw [decide_eq_true hlt2]
    have hpl2 : pl < ns.length := by omega
    have hne : ns.drop pl ≠ [] := by
      intro q
      have := congrArg List.length q
      rw [List.length_drop] at this
      simp at this
      omega
    refine iteT ⟨fun σ' H' => ∃ m', m' < ns.length - pl ∧ _, fun σ' H' h => h, ?_⟩
    refine ⟨_, rfl, _, rfl, _, rfl, lt, ln, tas, cols, ns, pl, rfl, sm.seq hlt, htab.mono (fun p x _ ⟨r, e⟩ => ⟨r, e.same sm⟩), sm.seq hln, hlen, hpl2, hc4, fun hn H2 s2 => ?_, fun a ha hg hle H2 p l ta s2 np nl hta hA => ?_⟩
    · -- None
      refine ⟨_, rfl, rfl, _, rfl, ?_⟩
      rw [decide_eq_true rfl]
      refine iteT (iteT ?_)
      refine kN ?_ H2 (sm.trans s2)
      rw [heq, JpRead.atoms_stop hne hn]
      rfl
    · refine ⟨_, rfl, rfl, _, rfl, ?_⟩
      rw [decide_eq_false (by intro q; cases q)]
      refine iteF ⟨_, rfl, la, _, rfl, Or.inl (SqL.of (s2 _ _ hl1)), rfl, _, rfl, ?_⟩
      rw [List.length_map]
      have hasl : as.length = ats.length := hat.1
      by_cases hf : ats.length = 5
      · rw [decide_eq_true (by rw [hasl, hf]; rfl)]
        refine iteT ?_
        refine kN ?_ H2 (sm.trans s2)
        rw [heq, hf, JpRead.atoms_full hne]
        rfl
      · rw [decide_eq_false (by rw [hasl]; intro q; exact hf (by have := V.int.inj q; omega))]
        refine iteF ?_
        -- atoms.append(atom)
        have hl2 := s2 _ _ hl1
        obtain ⟨ps, hps1, hps2⟩ := hA.ex
        obtain ⟨dx, hins⟩ := hA.ins
        have nlla : l ≠ la := fun q => by rw [q, hl1] at nl; cases nl
        refine ⟨_, rfl, .inl ⟨rfl, _, SqL.of hl2⟩, _, rfl, la, _, _, rfl, rfl, hl2, (by rw [List.length_map, hasl]; show ats.length < 2 ^ 24; omega), ?_⟩
        have hpla : p ≠ la := ne_of hins hl2 (by intro q; cases q)
        have bt : But la H2 (upd H2 la (.lst (as.map V.ref ++ [V.ref p]))) := (But.of_same (Same.refl _)).upd
        -- place += 1 + 2 * len(atom.terms)
        refine ⟨_, rfl, _, rfl, p, CA, dx, _, _, rfl, bt _ _ hins hpla, TA.cl, TA.no _ (by simp), fs2_2, l, _, rfl, Or.inl (SqL.of (bt _ _ hps1 nlla)), _, _, rfl, rfl, .inl ⟨by decide, by decide⟩, _, _, rfl, rfl, _, _, rfl, rfl, ?_⟩
        rw [List.length_map, hps2.1]
        refine ⟨ns.length - (pl + 1 + 2 * a.args.length), by omega, ats ++ [a], as ++ [p], pl + 1 + 2 * a.args.length, some (.ref p), ?_, sameU (sm.trans s2) hla, ?_, ?_, hle, by simp; omega, ?_, ?_, rfl⟩
        · have e : (pl : Int) + (1 + 2 * (a.args.length : Int)) = ((pl + 1 + 2 * a.args.length : Nat) : Int) := by omega
          rw [← e]
          rfl
        · rw [upd_same, List.map_append]
          rfl
        · refine AllAt.snoc (hat.mono fun q x _ ⟨ta', l', n1, n2, n3, n4⟩ => ⟨ta', l', n1, n2, n3, n4.but hl1 n2 ((But.of_same s2).upd)⟩) ⟨ta, l, sm.free nl, nlla, hta, hA.but hl2 nlla bt⟩
        · intro x hx
          rcases List.mem_append.mp hx with hx | hx
          · exact hgd x hx
          · rw [List.mem_singleton.mp hx]
            exact hg
        · have e5 : 5 - ats.length = (5 - (ats ++ [a]).length) + 1 := by rw [List.length_append, List.length_singleton]; omega
          rw [heq, e5, JpRead.atoms_next ha, Option.map_map]
          congr 1
          funext y
          simp
end
end Jp
namespace Jp
open PySem PySem.Spec PyProof.Rows L2
open MdBase (Term Atom varsOf)
/-- the variables met, each once, in the order in which they came -/
def vstep (ks : List Nat) (t : Term) : List Nat := match t with
  | .con _ => ks
  | .var v => if v ∈ ks then ks else ks ++ [v]
def vset (ts : List Term) : List Nat := ts.foldl vstep []
theorem mem_vstep {ks : List Nat} {t : Term} {u : Nat} : u ∈ vstep ks t ↔ u ∈ ks ∨ u ∈ varsOf t := by
  cases t with
  | con z => simp [vstep, varsOf]
  | var v =>
    simp only [vstep, varsOf, List.mem_singleton]
    by_cases h : v ∈ ks
    · rw [if_pos h]
      exact ⟨Or.inl, fun q => q.elim id fun e => e ▸ h⟩
    · rw [if_neg h]
      simp
theorem mem_vfold {u : Nat} : ∀ (ts : List Term) (ks : List Nat), u ∈ ts.foldl vstep ks ↔ u ∈ ks ∨ u ∈ ts.flatMap varsOf
  | [], ks => by simp
  | t :: ts, ks => by
    rw [List.foldl_cons, mem_vfold ts, mem_vstep, List.flatMap_cons, List.mem_append, or_assoc]
theorem mem_vset {ts : List Term} {u : Nat} : u ∈ vset ts ↔ u ∈ ts.flatMap varsOf := by
  unfold vset
  rw [mem_vfold]
  simp
theorem vset_len : ∀ (ts : List Term) (ks : List Nat), (ts.foldl vstep ks).length ≤ ks.length + ts.length
  | [], ks => Nat.le_refl _
  | t :: ts, ks => by
    rw [List.foldl_cons]
    have h := vset_len ts (vstep ks t)
    have : (vstep ks t).length ≤ ks.length + 1 := by
      cases t with
      | con z => exact Nat.le_succ _
      | var v =>
        simp only [vstep]
        split <;> simp
    rw [List.length_cons]
    omega
/-- a variable as a dict has it -/
def ent (v : Nat) : Key × V := (Sum.inl (v : Int), V.bl true)
theorem ent_ne {v u : Nat} (h : ¬ v = u) : ¬ (Sum.inl (v : Int) : Key) = Sum.inl (u : Int) := fun q => h (by have := Sum.inl.inj q; omega)
theorem valV_ent {ks : List Nat} {v : Nat} : (valV (ks.map ent) (Sum.inl (v : Int) : Key)).isSome = decide (v ∈ ks) := by
  induction ks with
  | nil => rfl
  | cons u ks ih =>
    by_cases h : u = v
    · subst h
      simp [valV, ent]
    · have e : valV ((u :: ks).map ent) (Sum.inl (v : Int) : Key) = valV (ks.map ent) (Sum.inl (v : Int) : Key) := by
        unfold valV
        rw [List.map_cons, List.find?_cons_of_neg]
        simp [ent]
        omega
      rw [e, ih]
      have h' : ¬ v = u := fun q => h q.symm
      simp [h']
theorem putK_ent (ks : List Nat) (v : Nat) : putK (ks.map ent) (Sum.inl (v : Int) : Key) (V.bl true) = (vstep ks (.var v)).map ent := by
  unfold putK
  have e : ((ks.map ent).any fun kv => decide (kv.1 = (Sum.inl (v : Int) : Key))) = decide (v ∈ ks) := by
    rw [Bool.eq_iff_iff, List.any_eq_true, decide_eq_true_eq]
    constructor
    · rintro ⟨kv, hm, hk⟩
      obtain ⟨u, hu, rfl⟩ := List.mem_map.mp hm
      have : (u : Int) = (v : Int) := Sum.inl.inj (of_decide_eq_true hk)
      have e : u = v := by omega
      exact e ▸ hu
    · intro h
      exact ⟨ent v, List.mem_map.mpr ⟨v, h, rfl⟩, decide_eq_true rfl⟩
  rw [e]
  simp only [vstep]
  by_cases h : v ∈ ks
  · rw [decide_eq_true h, if_pos rfl, if_pos h]
    rw [List.map_map]
    refine List.map_congr_left fun u _ => ?_
    simp only [Function.comp, ent]
    exact ite_self _
  · rw [decide_eq_false h, if_neg (by decide), if_neg h, List.map_append]
    rfl
def spVariablesOf (CA : Addr) : Sp := fun vs H Q _ => ∃ (a ta l : Addr) (ts : List Term), vs = [.ref a] ∧ AtomAt CA H a ta l ts ∧ ts.length ≤ 1000 ∧
  ∀ H' d, Same H H' → H d = none → H' d = some (.dK ((vset ts).map ent)) → Q (.ref d) H'
section
variable {P : Program} {w : World} {K : PySem.W.Frag} {mg : Str → Option Value} {base : Heap}
theorem sc_vo : FnScope ["atom", "variables", "kind", "number"] ["atom"] (defScope sVariablesOf) := ⟨rfl, rfl, rfl, by decide +kernel, rfl, by decide +kernel, by decide +kernel⟩
theorem ok_variablesOf {CA : Addr} (F : Has K mg "variables_of" sVariablesOf ["atom"]) (TA : Klass K mg "Atom" CA ["table", "terms"]) (c1 : IntC mg "VARIABLE_TERM" 1) : Ok P w K mg base "variables_of" 1 ["atom"] (spVariablesOf CA) := by
  obtain ⟨f, fd, F, M, kp, b⟩ := F
  refine ⟨f, fd, F.ok sc_vo (fun vs H Q E h => ?_) (fun cdv A outer s H vs Q E hr h => ?_), M, kp, b⟩
  · obtain ⟨a, ta, l, ts, rfl, _⟩ := h
    rfl
  · obtain ⟨a, ta, l, ts, rfl, hA, hts, k⟩ := h
    obtain ⟨dx, hins⟩ := hA.ins
    obtain ⟨ps, hps1, hps2⟩ := hA.ex
    have hu := hu_of hr
    refine ⟨_, pss_cons (ps_set (i := 1) sc_vo.nd rfl (Or.inl rfl) pe_dnewK)
      (pss_cons (ps_for PassesOwn.never rfl (pi_list (pe_fld (pv 0) rfl)) (pg_tup rfl (pgs_cons (pg_name (i := 2) sc_vo.nd rfl (.inl rfl)) (pgs_cons (pg_name (i := 3) sc_vo.nd rfl (.inl rfl)) pgs_nil)))
        (pss_one (ps_if (pt_cmpR op_eq (pv 2) (pe_const c1 rfl) (nomark _)) (pss_one (ps_dput hu (pv 1) (pv 3) pe_bl rfl)) pss_nil)))
      (pss_one (ps_ret (pv 1)))), ?_⟩
    intro d hd
    have hda : a ≠ d := ne_of_none hins hd
    have s0 : Same H (upd H d (.dK [])) := same_upd hd
    refine ⟨_, rfl, a, CA, dx, _, _, rfl, s0 _ _ hins, TA.cl, TA.no _ (by simp), fs2_2, l, rfl, ⟨_, SqL.of (s0 _ _ hps1)⟩, ?_⟩
    refine for_list (K := K) (a := l) (xs := ps.map V.ref) (fun i σ H' => ∃ v2 v3 : Option V, σ = [some (.ref a), some (.ref d), v2, v3] ∧ Same H H' ∧ H' d = some (.dK ((vset (ts.take i)).map ent))) ⟨none, none, rfl, s0, upd_same⟩ (fun i σ H' _ ⟨_, _, _, s1, _⟩ => SqL.of (s1 _ _ hps1)) ?_ ?_
    · rintro i y σ H' hi ⟨v2, v3, rfl, s1, hd1⟩
      obtain ⟨p, hp, rfl⟩ := get_map hi
      obtain ⟨t, ht, hT⟩ := hps2.get hp
      have hlen : (vset (ts.take i)).length ≤ 1000 := by
        have := vset_len (ts.take i) []
        rw [List.length_take] at this
        simp at this
        unfold vset
        omega
      have est : vset (ts.take (i + 1)) = vstep (vset (ts.take i)) t := by
        unfold vset
        rw [take_snoc ht, List.foldl_append]
        rfl
      refine ⟨p, _, rfl, SqT.of (s1 _ _ hT), rfl, _, _, rfl, _, _, rfl, rfl, ?_⟩
      refine ⟨_, rfl, rfl, _, rfl, ?_⟩
      cases t with
      | con z =>
        rw [decide_eq_false (by intro q; cases q)]
        refine iteF ⟨_, _, rfl, s1, ?_⟩
        rw [est]
        exact hd1
      | var v =>
        refine ifT (decide_eq_true rfl) ⟨_, rfl, _, rfl, d, _, rfl, DPut.k (k := Sum.inl (v : Int)) hd1 (by rw [List.length_map]; show _ < 2 ^ 24; omega), ?_⟩
        refine ⟨_, _, rfl, sameU s1 hd, ?_⟩
        rw [upd_same, est, putK_ent]
    · rintro σ H' ⟨v2, v3, rfl, s1, hd1⟩
      refine ⟨_, rfl, k H' d s1 hd ?_⟩
      rw [List.length_map, hps2.1, List.take_length] at hd1
      exact hd1
end
end Jp
/-! What is taken off: over lists of variables, as the spec says it. -/
namespace Jp
open MdBase (Term Atom varsOf)
open Md49 (St atomAt varsAt)
def has (vss : List (List Nat)) (j v : Nat) : Bool := decide (v ∈ vss.getD j [])
def sharedM (vss : List (List Nat)) (st : List Nat) (i v : Nat) : Bool := st.any fun j => j != i && has vss j v
def holderM (vss : List (List Nat)) (st : List Nat) (i : Nat) : Option Nat := st.find? fun j => j != i && ((vss.getD i []).filter (sharedM vss st i)).all (has vss j)
def pairM (vss : List (List Nat)) (st : List Nat) : Option (Nat × Nat) := st.findSome? fun i => (holderM vss st i).map fun j => (i, j)
def varsL (ats : List Atom) : List (List Nat) := ats.map fun a => vset a.args
def Small (ats : List Atom) : Prop := ∀ a ∈ ats, ∀ v ∈ a.args.flatMap varsOf, v < 10
theorem varsL_get {ats : List Atom} (j : Nat) : (varsL ats).getD j [] = vset (ats.getD j ⟨0, []⟩).args := by
  unfold varsL
  simp only [List.getD_eq_getElem?_getD, List.getElem?_map]
  cases ats[j]? <;> rfl
theorem has_eq {s : St} (h : Small s.asked) (j v : Nat) : has (varsL s.asked) j v = (varsAt s j).contains v := by
  have e : ∀ u ∈ (atomAt s j).args.flatMap varsOf, u < 10 := by
    unfold atomAt
    rw [List.getD_eq_getElem?_getD]
    cases q : s.asked[j]? with
    | none => intro u hu; simp at hu
    | some a => exact h a (List.mem_of_getElem? q)
  rw [JpBind.varsAt_contains e, Bool.eq_iff_iff, List.contains_iff_mem]
  unfold has
  rw [decide_eq_true_eq, varsL_get, mem_vset]
  rfl
theorem mem_varsAt {s : St} (h : Small s.asked) (j v : Nat) : v ∈ (varsL s.asked).getD j [] ↔ v ∈ varsAt s j := by
  have := has_eq h j v
  unfold has at this
  rw [← List.contains_iff_mem (as := varsAt s j), ← this, decide_eq_true_eq]
theorem any_congr {α : Type} {l : List α} {p q : α → Bool} (h : ∀ x ∈ l, p x = q x) : l.any p = l.any q := by
  induction l with
  | nil => rfl
  | cons a l ih => rw [List.any_cons, List.any_cons, h a List.mem_cons_self, ih fun x hx => h x (List.mem_cons_of_mem _ hx)]
theorem shared_mem {s : St} (h : Small s.asked) (l : List Nat) (i v : Nat) : v ∈ ((varsL s.asked).getD i []).filter (sharedM (varsL s.asked) l i) ↔ v ∈ Md49.shared s l i := by
  unfold Md49.shared
  rw [List.mem_filter, List.mem_filter, mem_varsAt h]
  have : sharedM (varsL s.asked) l i v = l.any fun j => j != i && (varsAt s j).contains v := any_congr fun j _ => by rw [has_eq h]
  rw [this]
theorem find_congr {α : Type} {l : List α} {p q : α → Bool} (h : ∀ x ∈ l, p x = q x) : l.find? p = l.find? q := by
  induction l with
  | nil => rfl
  | cons a l ih =>
    rw [List.find?_cons, List.find?_cons, h a List.mem_cons_self, ih fun x hx => h x (List.mem_cons_of_mem _ hx)]
theorem holder_eq {s : St} (h : Small s.asked) (l : List Nat) (i : Nat) : holderM (varsL s.asked) l i = Md49.holder s l i := by
  unfold holderM Md49.holder
  refine find_congr fun j _ => ?_
  congr 1
  unfold Md49.inside
  rw [Bool.eq_iff_iff, List.all_eq_true, List.all_eq_true]
  constructor
  · intro q v hv
    rw [← has_eq h]
    exact q v ((shared_mem h l i v).mpr hv)
  · intro q v hv
    rw [has_eq h]
    exact q v ((shared_mem h l i v).mp hv)
theorem pair_eq {s : St} (h : Small s.asked) (l : List Nat) : pairM (varsL s.asked) l = Md49.ear s l := by
  unfold pairM Md49.ear
  congr 1
  funext i
  rw [holder_eq h]
theorem pair_mem {vss : List (List Nat)} {st : List Nat} {e : Nat × Nat} (h : pairM vss st = some e) : e.1 ∈ st ∧ e.2 ∈ st ∧ e.2 ≠ e.1 := by
  unfold pairM at h
  obtain ⟨i, hi, hh⟩ := List.exists_of_findSome?_eq_some h
  cases q : holderM vss st i with
  | none => rw [q] at hh; cases hh
  | some j =>
    rw [q] at hh
    cases hh
    unfold holderM at q
    refine ⟨hi, List.mem_of_find?_eq_some q, ?_⟩
    have := List.find?_some q
    simp only [Bool.and_eq_true, bne_iff_ne] at this
    exact this.1
theorem ear_short {s : St} {l : List Nat} (hs : Small s.asked) (h : l.length ≤ 1) : Md49.ear s l = none := by
  rw [← pair_eq hs]
  cases q : pairM (varsL s.asked) l with
  | none => rfl
  | some e =>
    obtain ⟨h1, h2, h3⟩ := pair_mem q
    match l, h with
    | [], _ => simp at h1
    | [x], _ =>
      rw [List.mem_singleton] at h1 h2
      exact absurd (h2.trans h1.symm) h3
theorem takenOff_none {s : St} {l : List Nat} (n : Nat) (h : Md49.ear s l = none) : Md49.takenOff s n l = ([], l) := by
  cases n with
  | zero => rfl
  | succ n =>
    rw [Md49.takenOff]
    split
    · rfl
    · simp only [h]
theorem takenOff_some {s : St} {l : List Nat} {e : Nat × Nat} (n : Nat) (hs : Small s.asked) (h : Md49.ear s l = some e) : Md49.takenOff s (n + 1) l = (e :: (Md49.takenOff s n (l.filter fun i => i != e.1)).1, (Md49.takenOff s n (l.filter fun i => i != e.1)).2) := by
  have hl : ¬ l.length ≤ 1 := fun q => by
    rw [ear_short hs q] at h
    cases h
  rw [Md49.takenOff, if_neg hl]
  simp only [h]
theorem filter_erase {l : List Nat} (h : l.Nodup) (x : Nat) : (l.filter fun i => i != x) = l.erase x := by
  rw [List.Nodup.erase_eq_filter h]
end Jp
/-! zip of a list and a tuple, walked with two names: the library's zip over any two iterators, as a rule of the layer. -/
namespace Jp
open PySem PySem.Spec PyProof.Rows L2
/-- the list at a holds xs, the tuple at b ys, all the while; each turn's pair is new -/
def Itm (K : PySem.W.Frag) (a b : Addr) (xs ys : List V) : It where
  go := fun i H => (SqL K H a xs ∧ SqT K H b ys) ∧ i < xs.length ∧ i < ys.length
  yld := fun i H v H' => ∃ T x y, v = .ref T ∧ H T = none ∧ H' = upd H T (.tup [x, y]) ∧ xs[i]? = some x ∧ ys[i]? = some y
  stop := fun i H => (SqL K H a xs ∧ SqT K H b ys) ∧ i ≤ xs.length ∧ i ≤ ys.length ∧ (i = xs.length ∨ i = ys.length)
/-- the zip's own five objects, i pairs drawn -/
structure ZipM (a b z p q i1 i2 : Addr) (i : Nat) (h : Heap) : Prop where
  zp : IsZip h z p q .none
  ins : IsTupOf2 h p (.ref i1) (.ref i2)
  out : ∃ u v, IsTupOf2 h q u v
  one : h.IsListIter i1 a i
  two : h.IsTupleIter i2 b i
theorem five {α : Type} {c z p q i1 i2 : α} {P : α → Prop} (h : c ∈ [z, p, q, i1, i2]) (hz : P z) (hp : P p) (hq : P q) (h1 : P i1) (h2 : P i2) : P c := by
  simp only [List.mem_cons, List.not_mem_nil, or_false] at h
  rcases h with e | e | e | e | e <;> (rw [e]; assumption)
theorem turn_zipM {P : Program} {w : World} {K : PySem.W.Frag} {elts : List Expr} {kk : Nat} {tpos : Pos} {a b z p q i1 i2 : Addr} {xs ys : List V} (D : ZipApart z p q i1 i2 a b) :
    Turn P w K (.Tuple elts kk tpos) (Itm K a b xs ys) [z, p, q, i1, i2] z (ZipM a b z p q i1 i2) := by
  have S : ZipSep2 z p q i1 i2 [i1, a] [i2, b] :=
    { TIz := D.TIz, TOz := D.TOz, TITO := D.TITO, TIi1 := D.TIi1, TIi2 := D.TIi2, mem1 := List.mem_cons_self, mem2 := List.mem_cons_self,
      zf1 := by simp [D.i1z.symm, D.l1z.symm], Tf1 := by simp [D.TOi1, D.l1TO.symm], zf2 := by simp [D.i2z.symm, D.l2z.symm], Tf2 := by simp [D.TOi2, D.l2TO.symm],
      sep1_2 := by simp [D.i12, D.l2i1.symm], sep2_1 := by simp [D.i12.symm, D.l1i2.symm] }
  refine { mem := List.mem_cons_self, obj := ?ob, keep := ?kp, item := ?im, done := ?dn, self := fun A i s Q E st h => wpAny_pyIter_zip st.zp h }
  case ob =>
    intro i h st c hc
    obtain ⟨hz, hp, ⟨u, v, hq⟩, ⟨o1, e1, _, d1⟩, o2, e2, _, d2⟩ := st
    exact five (P := fun c => ∃ o, h.get? c = some o ∧ ∀ v, o.data ≠ .cell v) hc ⟨_, hz, fun _ x => nomatch x⟩ ⟨_, hp, fun _ x => nomatch x⟩ ⟨_, hq, fun _ x => nomatch x⟩
      ⟨o1, e1, fun _ x => nomatch d1.symm.trans x⟩ ⟨o2, e2, fun _ x => nomatch d2.symm.trans x⟩
  case kp =>
    intro i h h' st k
    obtain ⟨u, v, hq⟩ := st.out
    exact ⟨k z (by simp) _ st.zp, k p (by simp) _ st.ins, ⟨u, v, k q (by simp) _ hq⟩, st.one.at fun o e => k i1 (by simp) o e, st.two.at fun o e => k i2 (by simp) o e⟩
  case im =>
    intro X eP ew eK hc i pins s σ H E I hf st hg
    subst eP ew eK
    obtain ⟨⟨sq1, sq2⟩, lt1, lt2⟩ := hg
    obtain ⟨us, r1, pl, _⟩ := I.list sq1
    obtain ⟨ws, r2, pt, _⟩ := I.tuple sq2
    obtain ⟨u0, v0, hq⟩ := st.out
    have hd : X.A.in1.handled = none := I.ok.hd hc
    have n1 : us.length = xs.length := r1.length.symm
    have n2 : ws.length = ys.length := r2.length.symm
    have zlt : z < s.heap.objs.size := Heap.lt_size st.zp
    refine wpAny_pyNext_zipD2_item S (Draws.list hd i1 a D.l1i1 us.toArray) (Draws.tuple hd i2 b D.l2i2 ws.toArray) st.zp st.ins hq ⟨st.one, pl.isList⟩ ⟨st.two, pt⟩ (by simp; omega) (by simp; omega) ?_
    intro u v h' tk hu hv z' q' d1 d2 hT _ hk
    refine ⟨_, rfl, wpAny_letOwnedTupleGo_zip (s := { s with heap := h', toks := tk }) z' fun h2 z2 sb => ?_⟩
    have e1 : xs[i]? = some xs[i] := List.getElem?_eq_getElem lt1
    have e2 : ys[i]? = some ys[i] := List.getElem?_eq_getElem lt2
    obtain ⟨u', eu, ru⟩ := r1.get e1
    obtain ⟨v', ev, rw'⟩ := r2.get e2
    have au : us[i]? = some u := by simpa using hu
    have av : ws[i]? = some v := by simpa using hv
    cases (au.symm.trans eu)
    cases (av.symm.trans ev)
    have nT : h2.get? s.heap.objs.size = some { cls := .type "tuple", data := .seq #[u, v] } := (sb.2 _ (Nat.ne_of_gt zlt)).trans hT
    have kept : ∀ c o, c ∉ [z, p, q, i1, i2] → s.heap.get? c = some o → h2.get? c = some o := fun c o hb e => by
      simp only [List.mem_cons, List.not_mem_nil, or_false, not_or] at hb
      exact (sb.2 c hb.1).trans (hk c o hb.1 hb.2.2.1 hb.2.2.2.1 hb.2.2.2.2 e)
    have I1 : Inv X pins σ (upd H s.heap.objs.size (.tup [xs[i], ys[i]])) { s with heap := h2, toks := tk } :=
      I.turnedNew kept hf (Nat.le_refl _) ⟨by show 2 ≤ sizeLine; decide, [u, v], .cons ru (.cons rw' .nil), ⟨_, nT, rfl, _, rfl⟩⟩
    refine ⟨.ref s.heap.objs.size, _, I1, rfl, ⟨_, _, _, rfl, I.hok.fresh (Nat.le_refl _), rfl, e1, e2⟩, ⟨z2, ?_, ⟨u, v, (sb.2 _ D.TOz).trans q'⟩, d1.1.at fun o e => (sb.2 _ D.i1z).trans e, d2.1.at fun o e => (sb.2 _ D.i2z).trans e⟩, fun c hc' => ?_⟩
    · exact (sb.2 _ D.TIz).trans (hk _ _ D.TIz D.TITO D.TIi1 D.TIi2 st.ins)
    · have lt : c < s.heap.objs.size := by
        obtain ⟨_, x1, _⟩ := st.one
        obtain ⟨_, x2, _⟩ := st.two
        exact five (P := fun c => c < s.heap.objs.size) hc' zlt (Heap.lt_size st.ins) (Heap.lt_size hq) (Heap.lt_size x1) (Heap.lt_size x2)
      rw [upd_ne (Nat.ne_of_lt lt)]
      exact (hf c hc').1
  case dn =>
    intro X eP ew eK hc i pins s σ H E I hf st hg
    subst eP ew eK
    obtain ⟨⟨sq1, sq2⟩, le1, le2, hend⟩ := hg
    obtain ⟨us, r1, pl, _⟩ := I.list sq1
    obtain ⟨ws, r2, pt, _⟩ := I.tuple sq2
    obtain ⟨u0, v0, hq⟩ := st.out
    have hd : X.A.in1.handled = none := I.ok.hd hc
    have n1 : us.length = xs.length := r1.length.symm
    have n2 : ws.length = ys.length := r2.length.symm
    refine wpAny_pyNext_zipD2_end S (Draws.list hd i1 a D.l1i1 us.toArray) (Draws.tuple hd i2 b D.l2i2 ws.toArray) st.zp st.ins hq ⟨st.one, pl.isList⟩ ⟨st.two, pt⟩ (by simp; omega) (by simp; omega) (by simp; omega) ?_
    intro h' tk hk
    refine ⟨rfl, I.turnedL (ch := [z, p, q, i1, i2]) (fun c o hb e => ?_) hf⟩
    simp only [List.mem_cons, List.not_mem_nil, or_false, not_or] at hb
    exact hk c o hb.1 hb.2.2.1 hb.2.2.2.1 hb.2.2.2.2 e
def iZipM (K : PySem.W.Frag) (ta : TA) : TI := fun σ H R => ta σ H fun vs H1 => ∃ a b xs ys, vs = [.ref a, .ref b] ∧ SqL K H1 a xs ∧ SqT K H1 b ys ∧ R (Itm K a b xs ys) H1
theorem pi_zipM {X : Cx} {e e2 : Expr} {ta : TA} {p pos tpos : Pos} {elts : List Expr} {kk : Nat} (hg : Gl X "zip") (hm : X.mg "zip" = none) (ha : PA X [e, e2] ta)
    (hs : starEach [e, e2] X.env = (false, eval e X.env) :: starEach [e2] X.env := by rfl) (hpl : (backTo pos (starEach [e2] X.env)).any (·.1) = false := by rfl) :
    PI X (.Tuple elts kk tpos) (.Call (.Name "zip" p) [e, e2] [] pos) (iZipM X.K ta) := by
  refine ⟨fun pins s σ H R I h => Call_ (ld_blt I hg hm PyProof.Rows.boot_zip (PyProof.Rows.callWith_type1 (thn (ha.run pos pins s σ H _ I h) fun us s1 hq => ?_) hs hpl))⟩
  obtain ⟨vs, H1, I1, r1, a, b, xs, ys, rfl, sq1, sq2, q⟩ := hq
  match us, r1 with
  | [u, v], .cons ru (.cons rv .nil) =>
    cases ru
    cases rv
    obtain ⟨us, _, pl, _⟩ := I1.list sq1
    obtain ⟨ws, _, pt, _⟩ := I1.tuple sq2
    obtain ⟨ot, ht, _⟩ := id pt
    refine zip_begins2 (begins_list a us.toArray) (begins_tuple b ws.toArray) pl.isList pt fun h' hz hp hq e1 e2 _ hk => wpAny_pyIter_zip hz ?_
    refine ⟨s1.heap.objs.size + 4, [s1.heap.objs.size + 4, s1.heap.objs.size + 2, s1.heap.objs.size + 3, s1.heap.objs.size, s1.heap.objs.size + 1], _, _, H1, rfl, I1.kept (t' := s1.toks) hk, turn_zipM (PySem.W.ktu_apart s1.heap.objs.size a b pl.lt (Heap.lt_size ht)),
      ⟨hz, hp, ⟨_, _, hq⟩, ⟨_, e1, rfl, rfl⟩, ⟨_, e2, rfl, rfl⟩⟩, fun c hc => ?_, q⟩
    have le : s1.heap.objs.size ≤ c := five (P := fun c => s1.heap.objs.size ≤ c) hc (Nat.le_add_right _ _) (Nat.le_add_right _ _) (Nat.le_add_right _ _) (Nat.le_refl _) (Nat.le_add_right _ _)
    exact I1.fpOk le (I1.hok.fresh le)
theorem walk_zipM {K : PySem.W.Frag} {a b : Addr} {xs ys : List V} (hl : xs.length = ys.length) : Walk (Itm K a b xs ys) xs.length (fun H => SqL K H a xs ∧ SqT K H b ys) (YPair (fun i => xs[i]?) (fun i => ys[i]?)) :=
  ⟨fun i _ hi q => ⟨q, hi, by omega⟩, fun _ q => ⟨q, Nat.le_refl _, by omega, Or.inl rfl⟩, fun _ _ _ _ _ _ y => y⟩
end Jp
namespace Jp
open PySem PySem.Spec PyProof.Rows L2
open MdBase (Term Atom varsOf)
open JpRead (tcode)
/-- a bound variable as a dict has it -/
def dEnt (q : Nat × Int) : Key × V := (Sum.inl (q.1 : Int), V.int q.2)
theorem valV_dEnt (d : JpBind.Dct) (v : Nat) : valV (d.map dEnt) (Sum.inl (v : Int) : Key) = (d.lookup v).map V.int := by
  induction d with
  | nil => rfl
  | cons q d ih =>
    obtain ⟨u, z⟩ := q
    by_cases h : u = v
    · subst h
      simp [valV, dEnt]
    · have e : valV (((u, z) :: d).map dEnt) (Sum.inl (v : Int) : Key) = valV (d.map dEnt) (Sum.inl (v : Int) : Key) := by
        unfold valV
        rw [List.map_cons, List.find?_cons_of_neg]
        simp [dEnt]
        omega
      have h' : (v == u) = false := by simp; omega
      rw [e, ih, List.lookup_cons, h']
theorem putK_dEnt {d : JpBind.Dct} {v : Nat} {z : Int} (h : d.lookup v = none) : putK (d.map dEnt) (Sum.inl (v : Int) : Key) (V.int z) = (d ++ [(v, z)]).map dEnt := by
  have hn := valV_dEnt d v
  rw [h] at hn
  unfold putK
  have e : ((d.map dEnt).any fun kv => decide (kv.1 = (Sum.inl (v : Int) : Key))) = false := by
    rw [Bool.eq_false_iff]
    intro q
    obtain ⟨kv, hm, hk⟩ := List.any_eq_true.mp q
    have : Sum.inl (v : Int) ∈ (d.map dEnt).map (·.1) := List.mem_map.mpr ⟨kv, hm, of_decide_eq_true hk⟩
    exact valV_not (k := (Sum.inl (v : Int) : Key)) hn this
  rw [e, if_neg (by decide), List.map_append]
  rfl
def spBind (CA : Addr) : Sp := fun vs H Q _ => ∃ (a r ta l : Addr) (ts : List Term) (x : List Int), vs = [.ref a, .ref r] ∧ AtomAt CA H a ta l ts ∧ H r = some (.tup (x.map V.int)) ∧ ts.length = x.length ∧ ts.length ≤ 1000 ∧
  (JpBind.bind ts x = none → ∀ H', Same H H' → Q .non H') ∧ (∀ d, JpBind.bind ts x = some d → ∀ H' p, Same H H' → H p = none → H' p = some (.dK (d.map dEnt)) → Q (.ref p) H')
section
variable {P : Program} {w : World} {K : PySem.W.Frag} {mg : Str → Option Value} {base : Heap}
theorem sc_bi : FnScope ["atom", "row", "bound", "term", "value"] ["atom", "row"] (defScope sBind) := ⟨rfl, rfl, rfl, by decide +kernel, rfl, by decide +kernel, by decide +kernel⟩
theorem ok_bind {CA : Addr} (F : Has K mg "bind" sBind ["atom", "row"]) (N : Plain mg) (TA : Klass K mg "Atom" CA ["table", "terms"]) (c0 : IntC mg "VALUE_TERM" 0) : Ok P w K mg base "bind" 1 ["atom", "row"] (spBind CA) := by
  obtain ⟨f, fd, F, M, kp, b⟩ := F
  refine ⟨f, fd, F.ok sc_bi (fun vs H Q E h => ?_) (fun cdv A outer s H vs Q E hr h => ?_), M, kp, b⟩
  · obtain ⟨a, r, ta, l, ts, x, rfl, _⟩ := h
    rfl
  · obtain ⟨a, r, ta, l, ts, x, rfl, hA, hrow, hlen, hts, kN, kS⟩ := h
    obtain ⟨dx, hins⟩ := hA.ins
    obtain ⟨ps, hps1, hps2⟩ := hA.ex
    have hu := hu_of hr
    refine ⟨_, pss_cons (ps_set (i := 2) sc_bi.nd rfl (Or.inl rfl) pe_dnewK)
      (pss_cons (ps_for PassesOwn.never rfl (pi_zipM rfl N.zip (pa_cons (pe_fld (pv 0) rfl) (pa_cons (pv 1) pa_nil))) (pg_tup rfl (pgs_cons (pg_name (i := 3) sc_bi.nd rfl (.inl rfl)) (pgs_cons (pg_name (i := 4) sc_bi.nd rfl (.inl rfl)) pgs_nil)))
        (pss_one (ps_if (pt_cmpR op_eq (pe_ix (ixT K) (pv 3) pe_int (fun _ _ => rfl)) (pe_const c0 rfl) (nomark _))
          (pss_one (ps_if (pt_cmpR op_ne (pe_ix (ixT K) (pv 3) pe_int (fun _ _ => rfl)) (pv 4) (nomark _)) (pss_one (ps_ret pe_non)) pss_nil))
          (pss_one (ps_if (pt_cmpR op_ne (pe_dsetd (pv 2) (pe_ix (ixT K) (pv 3) pe_int (fun _ _ => rfl)) (pv 4) ⟨rfl, rfl, rfl, rfl⟩) (pv 4) (nomark _)) (pss_one (ps_ret pe_non)) pss_nil)))))
      (pss_one (ps_ret (pv 2)))), ?_⟩
    intro d hd
    have s0 : Same H (upd H d (.dK [])) := same_upd hd
    have hlp : (ps.map V.ref).length = (x.map V.int).length := by rw [List.length_map, List.length_map, hps2.1, hlen]
    refine ⟨_, rfl, a, CA, dx, _, _, rfl, s0 _ _ hins, TA.cl, TA.no _ (by simp), fs2_2, _, rfl, l, r, ps.map V.ref, x.map V.int, rfl, SqL.of (s0 _ _ hps1), SqT.of (s0 _ _ hrow), ?_⟩
    refine for_it (walk_zipM hlp) (fun i σ H' => ∃ (v3 v4 : Option V) (e : JpBind.Dct), σ = [some (.ref a), some (.ref r), some (.ref d), v3, v4] ∧ Same H H' ∧ H' d = some (.dK (e.map dEnt)) ∧ e.length ≤ i ∧ JpBind.bindL [] ((ts.zip x).take i) = some e)
      ⟨none, none, [], rfl, s0, upd_same, Nat.le_refl _, rfl⟩ (fun i σ H' _ ⟨_, _, _, _, s1, _⟩ => ⟨SqL.of (s1 _ _ hps1), SqT.of (s1 _ _ hrow)⟩) ?_ ?_
    · rintro i y σ H1 H2 hi ⟨v3, v4, e, rfl, s1, hd1, hel, hbl⟩ ⟨T, u, v, rfl, hT, rfl, hu1, hv1⟩
      obtain ⟨p, hp, rfl⟩ := get_map hu1
      obtain ⟨z, hz, rfl⟩ := get_map hv1
      obtain ⟨t, ht, hTt⟩ := hps2.get hp
      rw [List.length_map, hps2.1] at hi
      have hzip : (ts.zip x)[i]? = some (t, z) := by rw [List.getElem?_zip_eq_some]; exact ⟨ht, hz⟩
      have hdT : d ≠ T := ne_of_none hd1 hT
      have hpT := same_upd (o := .tup [V.ref p, V.int z]) hT _ _ (s1 _ _ hTt)
      have s2 : Same H (upd H1 T (.tup [V.ref p, V.int z])) := s1.trans (same_upd hT)
      have hd2 : upd H1 T (.tup [V.ref p, V.int z]) d = some (.dK (e.map dEnt)) := by rw [upd_ne hdT]; exact hd1
      have hstop : JpBind.step e (t, z) = none → JpBind.bind ts x = none := fun q => by
        unfold JpBind.bind
        have e1 : ts.zip x = (ts.zip x).take i ++ (t, z) :: (ts.zip x).drop (i + 1) := by
          obtain ⟨hlt, e2⟩ := List.getElem?_eq_some_iff.mp hzip
          rw [← e2, ← List.drop_eq_getElem_cons hlt, List.take_append_drop]
        rw [e1]
        exact JpBind.bindL_stop hbl q
      have hgo : ∀ e', JpBind.step e (t, z) = some e' → JpBind.bindL [] ((ts.zip x).take (i + 1)) = some e' := fun e' q => by
        rw [take_snoc hzip, JpBind.bindL_snoc hbl]
        exact q
      refine ⟨T, _, rfl, SqT.of upd_same, rfl, _, _, rfl, _, _, rfl, rfl, ?_⟩
      refine ⟨_, rfl, p, _, _, _, rfl, rfl, SqT.of hpT, atI_nat (j := 0) rfl, rfl, _, rfl, ?_⟩
      cases t with
      | con c =>
        refine ifT (decide_eq_true rfl) ⟨_, rfl, p, _, _, _, rfl, rfl, SqT.of hpT, atI_nat (j := 1) rfl, _, rfl, rfl, _, rfl, ?_⟩
        by_cases hcz : c = z
        · refine ifF (by subst hcz; exact congrArg (!·) (decide_eq_true rfl)) ⟨_, _, e, rfl, s2, hd2, by omega, hgo e ?_⟩
          simp [JpBind.step, hcz]
        · refine ifT (congrArg (!·) (decide_eq_false (fun q => hcz (V.int.inj q)))) (kN (hstop ?_) _ s2)
          simp [JpBind.step, hcz]
      | var c =>
        refine ifF (decide_eq_false (by intro q; cases q)) ⟨_, rfl, d, rfl, .inl ⟨_, .inl hd2⟩, _, rfl, p, _, _, _, rfl, rfl, SqT.of hpT, atI_nat (j := 1) rfl, _, rfl, e.map dEnt, Sum.inl (c : Int), hd2, rfl, (by rw [List.length_map]; show _ < 2 ^ 24; omega), fun v' hv' => ?_, fun hv' => ?_⟩
        · rw [valV_dEnt] at hv'
          cases hlk : e.lookup c with
          | none => rw [hlk] at hv'; cases hv'
          | some y =>
            rw [hlk] at hv'
            cases hv'
            refine ⟨_, rfl, rfl, _, rfl, ?_⟩
            by_cases hyz : y = z
            · refine ifF (by subst hyz; exact congrArg (!·) (decide_eq_true rfl)) ⟨_, _, e, rfl, s2, hd2, by omega, hgo e ?_⟩
              simp [JpBind.step, hlk, hyz]
            · refine ifT (congrArg (!·) (decide_eq_false (fun q => hyz (V.int.inj q)))) (kN (hstop ?_) _ s2)
              simp [JpBind.step, hlk, hyz]
        · rw [valV_dEnt] at hv'
          have hlk : e.lookup c = none := by
            cases hlk : e.lookup c with
            | none => rfl
            | some y => rw [hlk] at hv'; cases hv'
          refine ⟨_, rfl, rfl, _, rfl, ifF (congrArg (!·) (decide_eq_true rfl)) ⟨_, _, e ++ [(c, z)], rfl, sameU s2 hd, ?_, by simp; omega, hgo _ ?_⟩⟩
          · rw [upd_same, putK_dEnt hlk]
          · simp [JpBind.step, hlk]
    · rintro σ H' ⟨v3, v4, e, rfl, s1, hd1, _, hbl⟩
      refine ⟨_, rfl, kS e ?_ H' d s1 hd hd1⟩
      unfold JpBind.bind
      have hl2 : (ts.zip x).length = (ps.map V.ref).length := by rw [List.length_zip, List.length_map, hps2.1, hlen]; omega
      rw [← hl2, List.take_length] at hbl
      exact hbl
end
end Jp
/-! sorted of a list of tuples of whole numbers, all as long: any number of them. -/
namespace Jp
open PySem PySem.Spec PyProof.Rows L2
open MdBase (before)
theorem before_swo {α : Type} (k : α → List Int) : SrtO.Swo fun v u => before (k v) (k u) := by
  refine ⟨fun x y h => JpSort.before_asymm h, fun x y z h1 h2 => ?_⟩
  cases q : before (k z) (k x) with
  | false => rfl
  | true =>
    exfalso
    cases q2 : before (k y) (k z) with
    | true =>
      have := JpSort.before_trans q2 q
      rw [h1] at this
      cases this
    | false =>
      have e := JpSort.before_total q2 h2
      rw [← e, h1] at q
      cases q
section
variable {prog : Program} {w : World} {A : Around} {E : Value → Shared → Prop} {s : Shared}
theorem kat_ints {Q : Bool → Shared → Prop} : ∀ {us ws : List Value} {ns ms : List Int} (i : Nat), IntsAre us ns → IntsAre ws ms → ns.length = ms.length → Q (before ns ms) s → PySem.W.KatLex prog w A true false Q (us.zip ws) i s
  | _, _, _, _, _, .nil, .nil, _, h => PySem.W.kat_nil h
  | _, _, _, _, _, .nil, .cons _ _ _, hl, _ => by cases hl
  | _, _, _, _, _, .cons _ _ _, .nil, hl, _ => by cases hl
  | _, _, _, _, i, .cons n t hr (ns := ns), .cons m u hr' (ns := ms), hl, h => by
    refine PySem.W.kat_cons (SeqAt.EqAt.int_int n t m u prog w _ _ ?_)
    refine PySem.W.kat_go (fun e => ?_) (fun e => ?_)
    · have enm : n = m := by simpa using e
      subst enm
      refine PySem.W.kat_yes (kat_ints (i + 1) hr hr' (Nat.succ.inj hl) ?_)
      have e2 : before (n :: ns) (n :: ms) = before ns ms := by simp only [before, Int.lt_irrefl, if_false]
      rw [← e2]
      exact h
    · have ne : ¬ n = m := by simpa using e
      have e2 : before (n :: ns) (m :: ms) = decide (n < m) := by
        simp only [before]
        by_cases lt : n < m
        · simp [lt]
        · have : m < n := by omega
          simp [lt, this]
      rw [e2] at h
      refine PySem.W.kat_no ?_
      cases i with
      | zero => exact oneLt_int h
      | succ i => exact PySem.W.kat_one _ _ (PyProof.Rows.lt_int h)
def TupsD (h : Heap) (d : Nat) (vs : List Value) : Prop := ∀ v ∈ vs, ∃ ns, TS.TupInts h v ns ∧ ns.length = d
theorem tups_firsts {h : Heap} {d : Nat} (hd : 1 ≤ d) : ∀ vs : List Value, TupsD h d vs → ∃ fs, PySem.W.KatTups h vs fs ∧ fs.length = vs.length ∧ ∀ f, f ∈ fs → ∃ n t, f = Value.int n t
  | [], _ => ⟨[], trivial, rfl, fun f hf => nomatch hf⟩
  | v :: vs, x => by
    obtain ⟨fs, k, hl, hi⟩ := tups_firsts hd vs fun u hu => x u (List.mem_cons_of_mem _ hu)
    obtain ⟨ns, ⟨a, xs, rfl, ⟨o, ho, hc, n, hdt⟩, is⟩, hn⟩ := x v List.mem_cons_self
    cases q : xs.toList with
    | nil =>
      have l := is.length
      rw [q, List.length_nil, hn] at l
      omega
    | cons y ys =>
      obtain ⟨m, t, hy⟩ := is.all y (by rw [q]; exact List.mem_cons_self)
      have h0 : xs[0]? = some y := by
        rw [← Array.getElem?_toList, q]
        rfl
      exact ⟨y :: fs, .cons ho hc hdt h0 k, congrArg (· + 1) hl, fun f hf => (List.mem_cons.mp hf).elim (fun e => ⟨m, t, e.trans hy⟩) (hi f)⟩
theorem sorted_tupsD {l : Addr} {vs : List Value} {d : Nat} {k : Value → List Int} {Q : Value → Shared → Prop} (hl : s.heap.IsList l vs.toArray) (hz : vs.length ≤ sizeLine) (hd : 1 ≤ d ∨ vs.length < 2) (hk : ∀ v ∈ vs, TS.TupInts s.heap v (k v) ∧ (k v).length = d)
    (h : ∀ (h' : Heap) (p : Addr) (out : List Value), SrtO.Srtd (fun v u => before (k v) (k u)) out → out.Perm vs → (∀ b o, s.heap.get? b = some o → h'.get? b = some o) → s.heap.objs.size ≤ p → (∃ n, h'.get? p = some (seqObj "list" out.toArray n)) → Q (.ref p) { s with heap := h' }) :
    wpAny (model prog w) A (call (.builtin "sorted") [.ref l]) Q E s := by
  refine SrtO.sorted_ord (before_swo k) hl hz (fun h2 h1 a ha kk => ?_) fun out hs hb => h _ _ out hs hb.perm (fun b o e => sortedAll_old e) (Nat.le_succ _) (sortedAll_at s.heap vs out.toArray)
  intro h' keep
  have kp : ∀ v ∈ vs, TS.TupInts h' v (k v) := fun v hv => (hk v hv).1.keeps fun b o e hc => keep b o (fun z => by
    rw [z] at e
    exact (kk a o e).1 rfl) (kk b o e).2
  have d1 : 1 ≤ d := hd.resolve_right (by omega)
  obtain ⟨fs, t1, t2, t3⟩ := tups_firsts d1 vs fun v hv => ⟨k v, kp v hv, (hk v hv).2⟩
  refine ⟨tuples' true, fun Q E hq => PySem.W.kat_kind (T := .type "int") t1 (by omega) (fun f hf => ?_) rfl hq, fun p q hp hq => ?_⟩
  · obtain ⟨n, t, rfl⟩ := t3 f hf
    exact PySem.W.Looks.now
  · obtain ⟨x, xs, ex, ⟨ox, hox, _, nx, dx⟩, ix⟩ := kp _ hp
    obtain ⟨y, ys, ey, ⟨oy, hoy, _, ny, dy⟩, iy⟩ := kp _ hq
    have l1 : xs.size = d := by rw [← Array.length_toList, ix.length, (hk _ hp).2]
    have l2 : ys.size = d := by rw [← Array.length_toList, iy.length, (hk _ hq).2]
    show wpAny (model prog w) A.in1.in1 (keyLt' (tuples' true) p.1 q.1) (fun r s' => s' = _ ∧ r = before (k p.1) (k q.1)) (fun _ _ => False) _
    generalize k p.1 = np at ix ⊢
    generalize k q.1 = nq at iy ⊢
    rw [ex, ey]
    refine PySem.W.kat_lt hox dx hoy dy ?_
    rw [l1, l2, decide_eq_false (Nat.lt_irrefl d)]
    exact kat_ints 0 ix iy (by rw [← ix.length, ← iy.length, Array.length_toList, Array.length_toList, l1, l2]) ⟨rfl, rfl⟩
end
/-- sorted(xs), xs a list of tuples of d whole numbers each: a new list of the same, in order -/
def rSortD (K : PySem.W.Frag) (d : Nat) : List V → Hp → VK → Prop := fun vs H Q => ∃ (a : Addr) (ts : List Addr) (k : Addr → List Int), vs = [.ref a] ∧ SqL K H a (ts.map V.ref) ∧ (1 ≤ d ∨ ts.length < 2) ∧ (∀ t ∈ ts, SqT K H t ((k t).map V.int) ∧ (k t).length = d) ∧
  ∀ (us : List Addr) (p : Addr), us.Perm ts → us.Pairwise (fun x y => before (k y) (k x) = false) → H p = none → Q (.ref p) (upd H p (.lst (us.map V.ref)))
theorem refs_out : ∀ {out : List Value}, (∀ u ∈ out, ∃ t, u = Value.ref t) → ∃ us : List Addr, out = us.map Value.ref
  | [], _ => ⟨[], rfl⟩
  | v :: out, h => by
    obtain ⟨us, e⟩ := refs_out (out := out) fun u hu => h u (List.mem_cons_of_mem _ hu)
    obtain ⟨t, rfl⟩ := h v List.mem_cons_self
    exact ⟨t :: us, by rw [e]; rfl⟩
theorem perm_refs {us ts : List Addr} (h : (us.map Value.ref).Perm (ts.map Value.ref)) : us.Perm ts := by
  have g := h.map fun v => match v with | Value.ref a => a | _ => 0
  rw [List.map_map, List.map_map] at g
  have e : ((fun v : Value => match v with | Value.ref a => a | _ => 0) ∘ Value.ref) = (id : Addr → Addr) := rfl
  rw [e, List.map_id, List.map_id] at g
  exact g
theorem refs_vals : ∀ (ts : List Addr) {us : List Value}, Vals (ts.map V.ref) us → us = ts.map Value.ref
  | [], _, .nil => rfl
  | t :: ts, _, .cons r rr => by
    cases r
    rw [refs_vals ts rr]
    rfl
theorem vals_refs' : ∀ ts : List Addr, Vals (ts.map V.ref) (ts.map Value.ref)
  | [] => .nil
  | _ :: ts => .cons rfl (vals_refs' ts)
theorem cr_sortD {X : Cx} (d : Nat) : CallR X (.builtin "sorted") (rSortD X.K d) := by
  intro pins s σ H vs us Q I r h
  obtain ⟨a, ts, k, rfl, hs, hd, hx, q⟩ := h
  obtain ⟨its, rv, hl, hz⟩ := I.list hs
  rw [Vals.ref1 r]
  have ei := refs_vals ts rv
  subst ei
  rw [List.length_map] at hz
  let kv : Value → List Int := fun v => match v with | Value.ref t => k t | _ => []
  refine sorted_tupsD (d := d) (k := kv) hl.isList (by rw [List.length_map]; exact hz) (by rw [List.length_map]; exact hd) (fun v hv => ?_) fun h' p out h1 h2 kp hp hn => ?_
  · obtain ⟨t, ht, rfl⟩ := List.mem_map.mp hv
    exact ⟨tupI_raw I (hx t ht).1, (hx t ht).2⟩
  · obtain ⟨ws, rfl⟩ := refs_out (out := out) fun u hu => by
      obtain ⟨t, _, e⟩ := List.mem_map.mp (h2.mem_iff.mp hu)
      exact ⟨t, e.symm⟩
    obtain ⟨n, hn⟩ := hn
    have pm : ws.Perm ts := perm_refs h2
    have ord : ws.Pairwise (fun x y => before (k y) (k x) = false) := List.pairwise_map.mp h1
    refine ⟨.ref p, upd H p (.lst (ws.map V.ref)), I.laid (t' := s.toks) kp hp ⟨?_, _, n, vals_refs' ws, hn⟩, rfl, q ws p pm ord (I.hok.fresh hp)⟩
    rw [List.length_map, pm.length_eq]
    exact hz
end Jp
namespace Jp
open PySem PySem.Spec PyProof.Rows L2
open MdBase (Term Atom varsOf)
def RowAt (H : Hp) (p : Addr) (x : MdBase.Row) : Prop := H p = some (.tup (x.map V.int))
/-- the row that stands at t -/
def rowOf (H : Hp) (t : Addr) : MdBase.Row := match H t with
  | some (.tup xs) => xs.map fun v => match v with
    | .int i => i
    | _ => 0
  | _ => []
theorem RowAt.row {H : Hp} {p : Addr} {x : MdBase.Row} (h : RowAt H p x) : rowOf H p = x := by
  unfold rowOf
  rw [show H p = some (.tup (x.map V.int)) from h]
  simp only [List.map_map]
  exact (List.map_congr_left fun a _ => rfl).trans (List.map_id x)
theorem rows_eq {H : Hp} {ps : List Addr} {xs : List MdBase.Row} (h : AllAt (RowAt H) ps xs) : xs = ps.map (rowOf H) := by
  refine List.ext_getElem (by rw [List.length_map, h.1]) fun i h1 h2 => ?_
  rw [List.length_map] at h2
  rw [List.getElem_map]
  exact (h.2 i _ _ (List.getElem?_eq_getElem h2) (List.getElem?_eq_getElem h1)).row.symm
/-- a fitting row and what it binds -/
abbrev Fit := MdBase.Row × JpBind.Dct
def fit1 (ts : List Term) (x : MdBase.Row) : Option Fit := (JpBind.bind ts x).map fun d => (x, d)
def fits (ts : List Term) (rows : List MdBase.Row) : List Fit := (MdBase.sorted rows).filterMap (fit1 ts)
def FitAt (CF : Addr) (H : Hp) (f : Addr) (q : Fit) : Prop := ∃ r bd, At2 CF "row" "bound" H f (.ref r) (.ref bd) ∧ RowAt H r q.1 ∧ H bd = some (.dK (q.2.map dEnt))
theorem FitAt.same {CF : Addr} {H H' : Hp} {f : Addr} {q : Fit} (h : FitAt CF H f q) (s : Same H H') : FitAt CF H' f q := by
  obtain ⟨r, bd, h1, h2, h3⟩ := h
  exact ⟨r, bd, h1.same s, s _ _ h2, s _ _ h3⟩
theorem FitAt.but {CF D : Addr} {H H' : Hp} {f : Addr} {q : Fit} {xs : List V} (h : FitAt CF H f q) (hD : H D = some (.lst xs)) (b : But D H H') : FitAt CF H' f q := by
  obtain ⟨r, bd, ⟨dx, h1⟩, h2, h3⟩ := h
  exact ⟨r, bd, ⟨dx, b _ _ h1 (ne_of h1 hD (by intro e; cases e))⟩, b _ _ h2 (ne_of h2 hD (by intro e; cases e)), b _ _ h3 (ne_of h3 hD (by intro e; cases e))⟩
def spFittingRows (CT CA CF : Addr) : Sp := fun vs H Q _ => ∃ (a ta l lr : Addr) (ts : List Term) (c : Nat) (rps : List Addr) (rows : List MdBase.Row), vs = [.ref a] ∧ AtomAt CA H a ta l ts ∧ TableAt CT H ta lr c ∧ H lr = some (.lst (rps.map V.ref)) ∧ AllAt (RowAt H) rps rows ∧
  rows.Nodup ∧ (∀ x ∈ rows, x.length = ts.length) ∧ ts.length ≤ 1000 ∧ rows.length ≤ 1000 ∧
  ∀ H' p fs, Same H H' → H p = none → H' p = some (.lst (fs.map V.ref)) → AllAt (FitAt CF H') fs (fits ts rows) → Q (.ref p) H'
section
variable {P : Program} {w : World} {K : PySem.W.Frag} {mg : Str → Option Value} {base : Heap}
theorem sc_fr : FnScope ["atom", "fitting", "row", "bound"] ["atom"] (defScope sFittingRows) := ⟨rfl, rfl, rfl, by decide +kernel, rfl, by decide +kernel, by decide +kernel⟩
theorem ok_fittingRows {CT CA CF : Addr} (F : Has K mg "fitting_rows" sFittingRows ["atom"]) (N : Plain mg) (T : Klass K mg "Table" CT ["columns", "rows"]) (TA : Klass K mg "Atom" CA ["table", "terms"]) (TF : Klass K mg "FittingRow" CF ["row", "bound"])
    (MF : Made P w K mg base CF 1 ["self", "row", "bound"] (spInit2 CF "row" "bound")) (G : Ok P w K mg base "bind" 1 ["atom", "row"] (spBind CA)) : Ok P w K mg base "fitting_rows" 3 ["atom"] (spFittingRows CT CA CF) := by
  obtain ⟨f, fd, F, M, kp, b⟩ := F
  refine ⟨f, fd, F.ok sc_fr (fun vs H Q E h => ?_) (fun cdv A outer s H vs Q E hr h => ?_), M, kp, b⟩
  · obtain ⟨a, ta, l, lr, ts, c, rps, rows, rfl, _⟩ := h
    rfl
  · obtain ⟨a, ta, l, lr, ts, c, rps, rows, rfl, hA, hTb, hlr, hrs, hnd, hlens, hts, hrl, k⟩ := h
    obtain ⟨dx, hins⟩ := hA.ins
    obtain ⟨dt, htb⟩ := hTb
    refine ⟨_, pss_cons (ps_set (i := 1) sc_fr.nd rfl (Or.inl rfl) (pe_lst pa_nil))
      (pss_cons (ps_for PassesOwn.never rfl (pi_list (pe_callB (cr_sortD ts.length) (by rfl) N.sorted (by decide +kernel) (pa_cons (pe_fld (pe_fld (pv 0) rfl) rfl) pa_nil))) (pg_name (i := 2) sc_fr.nd rfl (Or.inl rfl))
        (pss_cons (ps_set (i := 3) sc_fr.nd rfl (Or.inl rfl) (pe_ok G (hr.mono (by decide)) rfl (pa_cons (pv 0) (pa_cons (pv 2) pa_nil))))
        (pss_one (ps_if (pt_cmpR op_notN (pv 3) pe_non (nomark _))
          (pss_one (ps_expr (pe_bm PySem.F.plainAttrs_list PySem.F.slot_list_append PySem.F.type_list_append mt_append (pv 1) (pa_cons (pe_new MF hr rfl TF.mgC (pa_cons (pv 2) (pa_cons (pv 3) pa_nil))) pa_nil)))) pss_nil))))
      (pss_one (ps_ret (pv 1)))), ?_⟩
    refine ⟨Nat.zero_le _, fun lf hlf => ?_⟩
    have s0 : Same H (upd H lf (.lst [])) := same_upd hlf
    have erows := rows_eq hrs
    have kat : ∀ t ∈ rps, RowAt H t (rowOf H t) ∧ (rowOf H t).length = ts.length := fun t ht => by
      obtain ⟨i, hi⟩ := List.mem_iff_getElem?.mp ht
      obtain ⟨x, hx, hr⟩ := hrs.get hi
      rw [hr.row]
      exact ⟨hr, hlens x (List.mem_of_getElem? hx)⟩
    have hd2 : 1 ≤ ts.length ∨ rps.length < 2 := by
      by_cases h1 : 1 ≤ ts.length
      · exact Or.inl h1
      · refine Or.inr ?_
        have h0 : ∀ x ∈ rows, x = [] := fun x hx => List.eq_nil_of_length_eq_zero (by rw [hlens x hx]; omega)
        rw [hrs.1]
        match rows, hnd, h0 with
        | [], _, _ => exact Nat.zero_lt_succ 1
        | [_], _, _ => exact Nat.lt_succ_self 1
        | x :: y :: r, hn, h0 =>
          have e1 := h0 x (by simp)
          have e2 := h0 y (by simp)
          rw [e1, e2] at hn
          simp at hn
    refine ⟨_, rfl, a, CA, dx, _, _, rfl, s0 _ _ hins, TA.cl, TA.no _ (by simp), fs2_1, ta, CT, dt, _, _, rfl, s0 _ _ htb, T.cl, T.no _ (by simp), fs2_2, lr, rps, rowOf H, rfl, SqL.of (s0 _ _ hlr), hd2, (fun t ht => ⟨SqT.of (s0 _ _ (kat t ht).1), (kat t ht).2⟩), fun us p hperm hord hp => ?_⟩
    have s1 : Same H (upd (upd H lf (.lst [])) p (.lst (us.map V.ref))) := s0.trans (same_upd hp)
    have esort : us.map (rowOf H) = MdBase.sorted rows := by
      have pm : (us.map (rowOf H)).Perm rows := by rw [erows]; exact hperm.map _
      refine JpSort.sorted_one (pm.nodup_iff.mpr hnd) (List.pairwise_map.mpr hord) fun z => pm.mem_iff
    have kat2 : ∀ t ∈ us, RowAt H t (rowOf H t) ∧ (rowOf H t).length = ts.length := fun t ht => kat t (hperm.mem_iff.mp ht)
    have hlfp : lf ≠ p := ne_of_none upd_same hp
    refine ⟨p, rfl, ⟨_, SqL.of upd_same⟩, ?_⟩
    refine for_list (K := K) (a := p) (xs := us.map V.ref) (fun i σ H' => ∃ (v2 v3 : Option V) (fs : List Addr), σ = [some (.ref a), some (.ref lf), v2, v3] ∧ Same H H' ∧ H' p = some (.lst (us.map V.ref)) ∧ H' lf = some (.lst (fs.map V.ref)) ∧ AllAt (FitAt CF H') fs (((us.take i).map (rowOf H)).filterMap (fit1 ts)))
      ⟨none, none, [], rfl, s1, upd_same, by rw [upd_ne hlfp]; exact upd_same, AllAt.nil⟩ (fun i σ H' _ ⟨_, _, _, _, _, h, _⟩ => SqL.of h) ?_ ?_
    · rintro i y σ H1 hi ⟨v2, v3, fs, rfl, s2, hp1, hlf1, hfs⟩
      obtain ⟨t, ht, rfl⟩ := get_map hi
      have hk := kat2 t (List.mem_of_getElem? ht)
      have etake : ((us.take (i + 1)).map (rowOf H)).filterMap (fit1 ts) = ((us.take i).map (rowOf H)).filterMap (fit1 ts) ++ (fit1 ts (rowOf H t)).toList := by
        rw [take_snoc ht, List.map_append, List.filterMap_append, List.map_singleton]
        cases e : fit1 ts (rowOf H t) <;> simp [e]
      refine ⟨_, rfl, _, rfl, a, t, ta, l, ts, rowOf H t, rfl, hA.same s2, s2 _ _ hk.1, hk.2.symm, hts, fun hn H2 s3 => ?_, fun d hd H2 q s3 nq hq => ?_⟩
      · refine ⟨_, rfl, rfl, _, rfl, ifF (congrArg (!·) (decide_eq_true rfl)) ⟨_, _, fs, rfl, s2.trans s3, s3 _ _ hp1, s3 _ _ hlf1, ?_⟩⟩
        rw [etake]
        have e : fit1 ts (rowOf H t) = none := by unfold fit1; rw [hn]; rfl
        rw [e]
        simp only [Option.toList_none, List.append_nil]
        exact hfs.mono fun _ _ _ h => h.same s3
      · refine ⟨_, rfl, rfl, _, rfl, ifT (congrArg (!·) (decide_eq_false (by intro e; cases e))) ?_⟩
        refine ⟨_, rfl, .inl ⟨rfl, _, SqL.of (s3 _ _ hlf1)⟩, _, rfl, _, rfl, fun x dy nx ndy ne => ⟨x, dy, _, _, rfl, upd_same, fun H3 hat k3 => ⟨rfl, ?_⟩⟩⟩
        have s4 : Same H2 H3 := Same.made nx ndy k3
        have hlf3 := s4 _ _ (s3 _ _ hlf1)
        have hfl : fs.length ≤ us.length := by
          rw [hfs.1]
          refine Nat.le_trans (List.length_filterMap_le _ _) ?_
          rw [List.length_map, List.length_take]
          omega
        have hul : us.length ≤ 1000 := by rw [hperm.length_eq, hrs.1]; exact hrl
        refine ⟨lf, _, _, rfl, rfl, hlf3, (by rw [List.length_map]; show _ < 2 ^ 24; omega), ?_⟩
        have bt : But lf H3 (upd H3 lf (.lst (fs.map V.ref ++ [V.ref x]))) := (But.of_same (Same.refl _)).upd
        refine ⟨_, _, fs ++ [x], rfl, sameU ((s2.trans s3).trans s4) hlf, ?_, ?_, ?_⟩
        · rw [upd_ne hlfp.symm]
          exact s4 _ _ (s3 _ _ hp1)
        · rw [upd_same, List.map_append]
          rfl
        · rw [etake]
          have e : fit1 ts (rowOf H t) = some (rowOf H t, d) := by unfold fit1; rw [hd]; rfl
          rw [e]
          refine AllAt.snoc (hfs.mono fun _ _ _ h => (h.same (s3.trans s4)).but hlf3 bt) ?_
          exact FitAt.but ⟨t, q, hat, s4 _ _ (s3 _ _ (s2 _ _ hk.1)), s4 _ _ hq⟩ hlf3 bt
    · rintro σ H' ⟨v2, v3, fs, rfl, s2, hp1, hlf1, hfs⟩
      refine ⟨_, rfl, k H' lf fs s2 hlf hlf1 ?_⟩
      rw [List.length_map, List.take_length, esort] at hfs
      exact hfs
end
end Jp
namespace Jp
open PySem PySem.Spec PyProof.Rows L2
def spAgree : Sp := fun vs H Q _ => ∃ (bd oe : Addr) (d e : JpBind.Dct), vs = [.ref bd, .ref oe] ∧ H bd = some (.dK (d.map dEnt)) ∧ Rd H oe (.dK (e.map dEnt)) ∧ ∀ H', Same H H' → Q (.bl (JpBind.agreeD d e)) H'
section
variable {P : Program} {w : World} {K : PySem.W.Frag} {mg : Str → Option Value} {base : Heap}
theorem sc_ag : FnScope ["bound", "other", "variable", "value"] ["bound", "other"] (defScope sAgree) := ⟨rfl, rfl, rfl, by decide +kernel, rfl, by decide +kernel, by decide +kernel⟩
theorem unlock_same {H H' : Hp} {d : Addr} {od : Obj} {u : HO} (hd : H d = some u) (s : Same (upd H d (.frz od u)) H') : Same H (upd H' d u) := fun b o e => by
  by_cases hb : b = d
  · subst hb
    rw [upd_same, ← hd, e]
  · rw [upd_ne hb]
    exact s b o (by rw [upd_ne hb]; exact e)
theorem ok_agree (F : Has K mg "agree" sAgree ["bound", "other"]) : Ok P w K mg base "agree" 1 ["bound", "other"] spAgree := by
  obtain ⟨f, fd, F, M, kp, b⟩ := F
  refine ⟨f, fd, F.ok sc_ag (fun vs H Q E h => ?_) (fun cdv A outer s H vs Q E hr h => ?_), M, kp, b⟩
  · obtain ⟨bd, oe, d, e, rfl, _⟩ := h
    rfl
  · obtain ⟨bd, oe, d, e, rfl, hbd, hoe, k⟩ := h
    have hu := hu_of hr
    refine ⟨_, pss_cons (ps_lock (ps_for PassesOwn.never rfl (pi_items (pv 0)) (pg_tup rfl (pgs_cons (pg_name (i := 2) sc_ag.nd rfl (.inl rfl)) (pgs_cons (pg_name (i := 3) sc_ag.nd rfl (.inl rfl)) pgs_nil)))
        (pss_one (ps_if (pt_cmpR op_ne (pe_dget2 hu (pv 1) (pv 2) (pv 3) ⟨rfl, rfl, rfl, rfl⟩) (pv 3) (nomark _)) (pss_one (ps_ret pe_bl)) pss_nil))))
      (pss_one (ps_ret pe_bl)), ?_⟩
    refine ⟨bd, _, hbd, trivial, fun od => ?_⟩
    have hoe2 : Rd (upd H bd (.frz od (.dK (d.map dEnt)))) oe (.dK (e.map dEnt)) := by
      by_cases q : oe = bd
      · subst q
        rcases hoe with h | ⟨o, h⟩
        · rw [hbd] at h
          have := HO.dK.inj (Option.some.inj h)
          rw [this]
          exact Or.inr ⟨od, upd_same⟩
        · rw [hbd] at h
          cases h
      · rcases hoe with h | ⟨o, h⟩
        · exact Or.inl (by rw [upd_ne q]; exact h)
        · exact Or.inr ⟨o, by rw [upd_ne q]; exact h⟩
    refine ⟨_, rfl, bd, od, _, rfl, upd_same, ?_⟩
    refine for_it walk_items (fun i σ H' => ∃ v2 v3 : Option V, σ = [some (.ref bd), some (.ref oe), v2, v3] ∧ Same (upd H bd (.frz od (.dK (d.map dEnt)))) H' ∧ ((d.take i).all fun p => (e.lookup p.1).getD p.2 == p.2) = true)
      ⟨none, none, rfl, Same.refl _, rfl⟩ (fun i σ H' _ ⟨_, _, _, s1, _⟩ => s1 _ _ upd_same) ?_ ?_
    · rintro i y σ H1 H2 hi ⟨v2, v3, rfl, s1, hall⟩ ⟨T, u, v, rfl, hT, rfl, hu1, hv1⟩
      rw [List.length_map] at hi
      have hdi : d[i]? = some d[i] := List.getElem?_eq_getElem hi
      generalize d[i] = p at hdi
      obtain ⟨x, z⟩ := p
      have hm : (d.map dEnt)[i]? = some (dEnt (x, z)) := by rw [List.getElem?_map, hdi]; rfl
      simp only [hm] at hu1 hv1
      cases hu1
      cases hv1
      have s2 : Same (upd H bd (.frz od (.dK (d.map dEnt)))) (upd H1 T (.tup [V.int (x : Int), V.int z])) := s1.trans (same_upd hT)
      have hoe3 : Rd (upd H1 T (.tup [V.int (x : Int), V.int z])) oe (.dK (e.map dEnt)) := by
        rcases hoe2 with h | ⟨o, h⟩
        · exact Or.inl (s2 _ _ h)
        · exact Or.inr ⟨o, s2 _ _ h⟩
      refine ⟨T, _, rfl, SqT.of upd_same, rfl, _, _, rfl, _, _, rfl, rfl, ?_⟩
      refine ⟨_, rfl, oe, rfl, .inl ⟨_, hoe3⟩, _, rfl, _, rfl, _, .inl ⟨_, Sum.inl (x : Int), hoe3, rfl, rfl⟩, _, rfl, ?_⟩
      rw [valV_dEnt]
      have hx : (Option.map V.int (e.lookup x)).getD (dEnt (x, z)).2 = V.int ((e.lookup x).getD z) := by cases e.lookup x <;> rfl
      rw [hx]
      refine ⟨rfl, _, rfl, ?_⟩
      by_cases hq : (e.lookup x).getD z = z
      · refine ifF (by rw [hq]; exact congrArg (!·) (decide_eq_true rfl)) ⟨_, _, rfl, s2, ?_⟩
        rw [take_snoc hdi, List.all_append, hall]
        simp [hq]
      · refine ifT (congrArg (!·) (decide_eq_false (fun w => hq (V.int.inj w)))) ⟨s2 _ _ upd_same, ?_⟩
        have hf : JpBind.agreeD d e = false := by
          unfold JpBind.agreeD
          rw [List.all_eq_false]
          exact ⟨(x, z), List.mem_of_getElem? hdi, by simp [hq]⟩
        have := k _ (unlock_same hbd s2)
        rw [hf] at this
        exact this
    · rintro σ H' ⟨v2, v3, rfl, s1, hall⟩
      rw [List.length_map, List.take_length] at hall
      refine ⟨s1 _ _ upd_same, ?_⟩
      have := k _ (unlock_same hbd s1)
      have ht : JpBind.agreeD d e = true := hall
      rw [ht] at this
      exact this
end
end Jp
namespace Jp
open PySem PySem.Spec PyProof.Rows L2
open MdBase (Term Atom varsOf)
def nV (j : Nat) : V := V.int (j : Int)
/-- a dict of variables, locked or not -/
def VarsR (H : Hp) (d : Addr) (ks : List Nat) : Prop := Rd H d (.dK (ks.map ent))
theorem Rd.same {H H' : Hp} {a : Addr} {u : HO} (h : Rd H a u) (s : Same H H') : Rd H' a u := by
  rcases h with h | ⟨o, h⟩
  · exact Or.inl (s _ _ h)
  · exact Or.inr ⟨o, s _ _ h⟩
def spIsShared (K : PySem.W.Frag) : Sp := fun vs H Q _ => ∃ (v i : Nat) (lv ls : Addr) (ds : List Addr) (vss : List (List Nat)) (st : List Nat), vs = [nV v, nV i, .ref lv, .ref ls] ∧ SqL K H lv (ds.map V.ref) ∧ AllAt (VarsR H) ds vss ∧ SqL K H ls (st.map nV) ∧ st.length ≤ 1000 ∧ (∀ j ∈ st, j < ds.length) ∧
  ∀ H', Same H H' → Q (.bl (sharedM vss st i v)) H'
section
variable {P : Program} {w : World} {K : PySem.W.Frag} {mg : Str → Option Value} {base : Heap}
theorem sc_hi : FnScope ["self", "taken", "standing"] ["self", "taken", "standing"] (defScope sHangInit) := ⟨rfl, rfl, rfl, by decide +kernel, rfl, by decide +kernel, by decide +kernel⟩
theorem ok_hangInit {C : Addr} (F : HasInit K "Hanging.__init__" C sHangInit ["self", "taken", "standing"]) (T : Klass K mg "Hanging" C ["taken", "standing"]) : Made P w K mg base C 1 ["self", "taken", "standing"] (spInit2 C "taken" "standing") := by
  obtain ⟨f, fd, F, M, b⟩ := F
  refine ⟨f, fd, F.ok sc_hi (fun vs H Q E h => ?_) (fun cdv A outer s H vs Q E hr h => ?_), M, b⟩
  · obtain ⟨p, dx, x, y, rfl, _⟩ := h
    rfl
  · obtain ⟨p, dx, x, y, rfl, hp, k⟩ := h
    refine ⟨_, pss_cons (ps_fld (pv 0) (pv 1) rfl) (pss_one (ps_fld (pv 0) (pv 2) rfl)), ?_⟩
    refine ⟨_, rfl, _, rfl, p, C, dx, [], rfl, hp, T.cl, T.no _ (by simp), (by show 0 < 1000; decide), ?_⟩
    refine ⟨_, rfl, _, rfl, p, C, dx, _, rfl, upd_same, T.cl, T.no _ (by simp), (by show 1 < 1000; decide), ?_⟩
    exact k _ ⟨dx, upd_same.trans (congrArg (fun q => some (HO.ins C dx q)) fs2_new)⟩ fun b o e hb => by rw [upd_ne hb, upd_ne hb]; exact e
theorem sc_is : FnScope ["variable", "atom", "variables", "standing", "other"] ["variable", "atom", "variables", "standing"] (defScope sIsShared) := ⟨rfl, rfl, rfl, by decide +kernel, rfl, by decide +kernel, by decide +kernel⟩
theorem nV_ne {j i : Nat} : (!decide (nV j = nV i)) = (j != i) := by
  unfold nV
  by_cases h : j = i
  · subst h
    simp
  · have : ¬ (V.int (j : Int) = V.int (i : Int)) := fun q => h (by have := V.int.inj q; omega)
    rw [decide_eq_false this]
    simp [h]
theorem ok_isShared (F : Has K mg "is_shared" sIsShared ["variable", "atom", "variables", "standing"]) (N : Plain mg) : Ok P w K mg base "is_shared" 1 ["variable", "atom", "variables", "standing"] (spIsShared K) := by
  obtain ⟨f, fd, F, M, kp, b⟩ := F
  refine ⟨f, fd, F.ok sc_is (fun vs H Q E h => ?_) (fun cdv A outer s H vs Q E hr h => ?_), M, kp, b⟩
  · obtain ⟨v, i, lv, ls, ds, vss, st, rfl, _⟩ := h
    rfl
  · obtain ⟨v, i, lv, ls, ds, vss, st, rfl, hlv, hds, hls, hsl, hst, k⟩ := h
    have hu := hu_of hr
    refine ⟨_, pss_one (ps_ret (pe_callB (cr_any rfl) (by rfl) N.any (by decide +kernel) (pa_cons
        (pe_lc (own := [("other", 4)]) (g := gName 4) (tt := tYes) rfl sc_is.nd (pi_list (pv 3)) (blkOk_by (N := ["variable", "atom", "variables", "standing", "other"]) (sc := defScope sIsShared) (by decide +kernel))
          (fun _ _ _ _ _ => pg_name (i := 4) sc_is.nd rfl (Or.inl rfl)) (fun _ _ _ _ _ => pts_nil)
          (fun _ _ _ _ _ => pe_and (pe_cmpR op_ne (pv 4) (pv 1) (nomark _)) (pe_one (pe_cmp (pc_din hu (pv 0) (pe_ix (ixL K) (pv 2) (pv 4) (fun _ _ => rfl))) rfl)))) pa_nil))), ?_⟩
    refine ⟨_, rfl, ls, rfl, ⟨_, hls⟩, fun D hD => lc_val (bs := st.map fun j => j != i && has vss j v) (F := V.bl) walk_list (fun i H x H' _ y => y) (fun H' s' => s'.seq hls) hD (by rw [List.length_map]; show _ ≤ 2 ^ 24; omega) (by rw [List.length_map, List.length_map]) ?_ ?_⟩
    · intro m y u H1 Nn hm hy hu1 s1 hN
      obtain ⟨j, hj, rfl⟩ := get_map hy
      rw [List.getElem?_map, hj] at hu1
      cases hu1
      refine ⟨rfl, _, rfl, _, rfl, rfl, _, rfl, ?_⟩
      by_cases hji : j = i
      · refine ifF (by rw [nV_ne]; simp [hji]) ?_
        have e : (j != i && has vss j v) = false := by simp [hji]
        have this : Nn (V.bl (j != i && has vss j v)) H1 := hN H1 (Same.refl _)
        rw [e] at this
        exact this
      · refine ifT (by rw [nV_ne]; simp [hji]) ?_
        have hjl : j < ds.length := hst j (List.mem_of_getElem? hj)
        have hdj : ds[j]? = some ds[j] := List.getElem?_eq_getElem hjl
        obtain ⟨ks, hks, hR⟩ := hds.get hdj
        generalize ds[j] = dd at hdj hR
        refine ⟨_, rfl, _, rfl, _, rfl, lv, _, _, _, rfl, rfl, s1.seq hlv, atI_nat (v := V.ref dd) (by rw [List.getElem?_map, hdj]; rfl), dd, _, rfl, .inl ⟨_, Sum.inl (v : Int), Rd.same hR s1, rfl, rfl⟩, ?_⟩
        rw [valV_ent]
        have e : (j != i && has vss j v) = decide (v ∈ ks) := by
          unfold has
          rw [List.getD_eq_getElem?_getD, hks]
          simp [hji]
        have this : Nn (V.bl (j != i && has vss j v)) H1 := hN H1 (Same.refl _)
        rw [e] at this
        exact this
    · intro H1 s1 hD1
      refine ⟨D, _, rfl, SqL.of hD1, ?_⟩
      have e : (st.map fun j => j != i && has vss j v).any id = sharedM vss st i v := List.any_map
      rw [e]
      exact k H1 s1
end
end Jp
namespace Jp
open PySem PySem.Spec PyProof.Rows L2
open MdBase (Term Atom varsOf)
theorem butSame {D : Addr} {H1 H : Hp} {o : HO} (new : H1 D = none) (b : But D (upd H1 D o) H) : Same H1 H := fun c u e => b c u (by rw [upd_ne (ne_of_none e new)]; exact e) (ne_of_none e new)
theorem find_at {α : Type} {p : α → Bool} {l : List α} {m : Nat} {x : α} (h : l[m]? = some x) (hp : p x = true) (hb : ∀ y ∈ l.take m, p y = false) : l.find? p = some x := by
  induction l generalizing m with
  | nil => simp at h
  | cons a l ih =>
    cases m with
    | zero =>
      cases h
      rw [List.find?_cons, hp]
    | succ m =>
      rw [List.find?_cons, hb a (by simp)]
      exact ih h fun y hy => hb y (by simp [hy])
theorem find_no {α : Type} {p : α → Bool} {l : List α} (hb : ∀ y ∈ l, p y = false) : l.find? p = none := by
  rw [List.find?_eq_none]
  intro x hx
  rw [hb x hx]
  decide
def VarsAt (H : Hp) (d : Addr) (ks : List Nat) : Prop := H d = some (.dK (ks.map ent))
def spFindHolder : Sp := fun vs H Q _ => ∃ (i : Nat) (lv ls : Addr) (ds : List Addr) (vss : List (List Nat)) (st : List Nat), vs = [nV i, .ref lv, .ref ls] ∧ H lv = some (.lst (ds.map V.ref)) ∧ AllAt (VarsAt H) ds vss ∧ H ls = some (.lst (st.map nV)) ∧ st.length ≤ 1000 ∧ (∀ j ∈ st, j < ds.length) ∧ i < ds.length ∧ (∀ ks ∈ vss, ks.length ≤ 1000) ∧
  (holderM vss st i = none → ∀ H', Same H H' → Q .non H') ∧ (∀ j, holderM vss st i = some j → ∀ H', Same H H' → Q (nV j) H')
section
variable {P : Program} {w : World} {K : PySem.W.Frag} {mg : Str → Option Value} {base : Heap}
theorem sc_fh : FnScope ["atom", "variables", "standing", "shared", "other", "variable"] ["atom", "variables", "standing"] (defScope sFindHolder) := ⟨rfl, rfl, rfl, by decide +kernel, rfl, by decide +kernel, by decide +kernel⟩
theorem ok_findHolder (F : Has K mg "find_holder" sFindHolder ["atom", "variables", "standing"]) (N : Plain mg) (G : Ok P w K mg base "is_shared" 1 ["variable", "atom", "variables", "standing"] (spIsShared K)) : Ok P w K mg base "find_holder" 2 ["atom", "variables", "standing"] spFindHolder := by
  obtain ⟨f, fd, F, M, kp, b⟩ := F
  refine ⟨f, fd, F.ok sc_fh (fun vs H Q E h => ?_) (fun cdv A outer s H vs Q E hr h => ?_), M, kp, b⟩
  · obtain ⟨i, lv, ls, ds, vss, st, rfl, _⟩ := h
    rfl
  · obtain ⟨i, lv, ls, ds, vss, st, rfl, hlv, hds, hls, hsl, hst, hi, hkl, kN, kS⟩ := h
    have hu := hu_of hr
    refine ⟨_, pss_cons (ps_lock (ps_setLc (i := 3) (own := [("variable", 5)]) (g := gName 5) rfl sc_fh.nd rfl rfl (sw_true rfl rfl rfl (by decide +kernel)) (pi_keys (pe_ix (ixL K) (pv 1) (pv 0) (fun _ _ => rfl)))
        (blkOk_by (N := ["atom", "variables", "standing", "shared", "other", "variable"]) (sc := defScope sFindHolder) (by decide +kernel))
        (fun _ _ _ _ _ => pg_name (i := 5) sc_fh.nd rfl (Or.inl rfl)) (fun _ _ _ _ _ => pts_one (pt_val (pe_ok G hr rfl (pa_cons (pv 5) (pa_cons (pv 0) (pa_cons (pv 1) (pa_cons (pv 2) pa_nil))))))) (fun _ _ _ _ _ => pv 5)))
      (pss_cons (ps_for PassesOwn.never rfl (pi_list (pv 2)) (pg_name (i := 4) sc_fh.nd rfl (Or.inr rfl))
        (pss_one (ps_if (PW.pt (pw_and (pt_cmpR op_ne (pv 4) (pv 0) (nomark _)) (pw_and1 (pt_val (pe_callB (cr_all rfl) (by rfl) N.all (by decide +kernel) (pa_cons
            (pe_lc (own := [("variable", 5)]) (g := gName 5) (tt := tYes) rfl sc_fh.nd (pi_list (pv 3)) (blkOk_by (N := ["atom", "variables", "standing", "shared", "other", "variable"]) (sc := defScope sFindHolder) (by decide +kernel))
              (fun _ _ _ _ _ => pg_name (i := 5) sc_fh.nd rfl (Or.inl rfl)) (fun _ _ _ _ _ => pts_nil) (fun _ _ _ _ _ => pe_cmp (pc_din hu (pv 5) (pe_ix (ixL K) (pv 1) (pv 4) (fun _ _ => rfl))) rfl)) pa_nil))))))
          (pss_one (ps_ret (pv 4))) pss_nil)))
      (pss_one (ps_ret pe_non))), ?_⟩
    have hdi : ds[i]? = some ds[i] := List.getElem?_eq_getElem hi
    obtain ⟨ks, hks, hdk⟩ := hds.get hdi
    generalize ds[i] = di at hdi hdk
    have ksl : ks.length ≤ 1000 := hkl ks (List.mem_of_getElem? hks)
    have evi : vss.getD i [] = ks := by rw [List.getD_eq_getElem?_getD, hks]; rfl
    have hld : lv ≠ di := ne_of hlv hdk (by intro q; cases q)
    have hsd : ls ≠ di := ne_of hls hdk (by intro q; cases q)
    refine ⟨di, _, hdk, trivial, fun od => ?_⟩
    refine ⟨_, rfl, _, rfl, lv, _, _, _, rfl, rfl, SqL.of (xs := ds.map V.ref) (by rw [upd_ne hld]; exact hlv), atI_nat (v := V.ref di) (by rw [List.getElem?_map, hdi]; rfl), di, od, rfl, .inl ⟨_, upd_same, fun D hD => ?_⟩⟩
    have hDd : D ≠ di := fun q => by rw [q, upd_same] at hD; cases hD
    have rd : ∀ H', Same (upd H di (.frz od (.dK (ks.map ent)))) H' → H' lv = some (.lst (ds.map V.ref)) ∧ AllAt (VarsR H') ds vss ∧ H' ls = some (.lst (st.map nV)) := fun H' s' => by
      refine ⟨s' _ _ (by rw [upd_ne hld]; exact hlv), hds.mono fun d x _ hx => ?_, s' _ _ (by rw [upd_ne hsd]; exact hls)⟩
      by_cases q : d = di
      · rw [q] at hx ⊢
        have e : (HO.dK (x.map ent)) = .dK (ks.map ent) := Option.some.inj (hx.symm.trans hdk)
        unfold VarsR
        rw [e]
        exact Or.inr ⟨od, s' _ _ upd_same⟩
      · exact Or.inl (s' _ _ (by rw [upd_ne q]; exact hx))
    refine lc_filter (as := ks) (F := nV) (sharedM vss st i) walk_keys (fun m H x H' hm y => ?_) (by rw [List.length_map]) (fun H' b' => butSame hD b' _ _ upd_same) (by rw [List.length_map]; show _ ≤ 2 ^ 24; omega) (by show 5 < 6; decide) ?_ ?_
    · obtain ⟨e, k', v', hk', rfl⟩ := y
      refine ⟨e, ?_⟩
      rw [List.getElem?_map] at hk' ⊢
      cases q : ks[m]? with
      | none => rw [q] at hk'; cases hk'
      | some z => rw [q] at hk'; cases hk'; rfl
    · intro m v H' acc Nn hm hv b' hD' hN
      obtain ⟨r1, r2, r3⟩ := rd H' (butSame hD b')
      refine ⟨_, rfl, _, rfl, _, rfl, _, rfl, v, i, lv, ls, ds, vss, st, rfl, SqL.of r1, r2, SqL.of r3, hsl, hst, fun H4 s4 => ⟨_, rfl, hN H4 s4⟩⟩
    · intro H2 b2 hD2
      have s2 := butSame hD b2
      refine ⟨s2 _ _ upd_same, ?_⟩
      have s3 : Same H (upd H2 di (.dK (ks.map ent))) := unlock_same hdk s2
      have hD3 : upd H2 di (.dK (ks.map ent)) D = some (.lst ((ks.filter (sharedM vss st i)).map nV)) := by rw [upd_ne hDd]; exact hD2
      generalize upd H2 di (.dK (ks.map ent)) = H3 at s3 hD3
      have shl : (ks.filter (sharedM vss st i)).length ≤ 1000 := Nat.le_trans (List.length_filter_le _ _) ksl
      have ehold : holderM vss st i = st.find? fun j => j != i && (ks.filter (sharedM vss st i)).all (has vss j) := by unfold holderM; rw [evi]
      generalize ks.filter (sharedM vss st i) = sh at hD3 shl ehold
      refine ⟨_, rfl, ls, rfl, ⟨_, SqL.of (s3 _ _ hls)⟩, ?_⟩
      refine for_list (K := K) (a := ls) (xs := st.map nV) (fun m σ H' => ∃ v4 : Option V, σ = [some (nV i), some (.ref lv), some (.ref ls), some (.ref D), v4, none] ∧ Same H3 H' ∧ ∀ j ∈ st.take m, (j != i && sh.all (has vss j)) = false) ⟨none, rfl, Same.refl _, fun j hj => by simp at hj⟩ (fun m σ H' _ ⟨_, _, s4, _⟩ => SqL.of (s4 _ _ (s3 _ _ hls))) ?_ ?_
      · rintro m y σ H4 hm ⟨v4, rfl, s4, hno⟩
        obtain ⟨j, hj, rfl⟩ := get_map hm
        have more : (j != i && sh.all (has vss j)) = false → ∀ x ∈ st.take (m + 1), (x != i && sh.all (has vss x)) = false := fun q x hx => by
          rw [take_snoc hj] at hx
          rcases List.mem_append.mp hx with hx | hx
          · exact hno x hx
          · rw [List.mem_singleton.mp hx]
            exact q
        refine ⟨_, rfl, _, rfl, rfl, _, rfl, ?_⟩
        by_cases hji : j = i
        · refine ifF (by rw [nV_ne]; simp [hji]) (iteF ⟨_, rfl, s4, more (by simp [hji])⟩)
        · refine ifT (by rw [nV_ne]; simp [hji]) ?_
          have hjl : j < ds.length := hst j (List.mem_of_getElem? hj)
          have hdj : ds[j]? = some ds[j] := List.getElem?_eq_getElem hjl
          obtain ⟨kj, hkj, hR⟩ := hds.get hdj
          generalize ds[j] = dd at hdj hR
          refine ⟨_, rfl, D, rfl, ⟨_, SqL.of (s4 _ _ hD3)⟩, fun D2 hD2' => lc_val (bs := sh.map (has vss j)) (F := V.bl) walk_list (fun i H x H' _ y => y) (fun H' s' => s'.seq (SqL.of (s4 _ _ hD3))) hD2' (by rw [List.length_map]; show _ ≤ 2 ^ 24; omega) (by rw [List.length_map, List.length_map]) ?_ ?_⟩
          · intro q y u H5 Nn hq hy hu1 s5 hN
            obtain ⟨v, hv, rfl⟩ := get_map hy
            rw [List.getElem?_map, hv] at hu1
            cases hu1
            have s45 : Same H H5 := (s3.trans s4).trans s5
            refine ⟨rfl, _, rfl, _, rfl, _, rfl, lv, _, _, _, rfl, rfl, SqL.of (s45 _ _ hlv), atI_nat (v := V.ref dd) (by rw [List.getElem?_map, hdj]; rfl), dd, _, rfl, .inl ⟨_, Sum.inl (v : Int), Or.inl (s45 _ _ hR), rfl, rfl⟩, ?_⟩
            rw [valV_ent]
            have e : has vss j v = decide (v ∈ kj) := by unfold has; rw [List.getD_eq_getElem?_getD, hkj]; rfl
            have this : Nn (V.bl (has vss j v)) H5 := hN H5 (Same.refl _)
            rw [e] at this
            exact this
          · intro H5 s5 hD5
            refine ⟨D2, _, rfl, SqL.of hD5, _, rfl, ?_⟩
            have e : (sh.map (has vss j)).all id = sh.all (has vss j) := List.all_map
            rw [e]
            cases hall : sh.all (has vss j) with
            | true =>
              refine iteT ⟨_, rfl, ?_⟩
              refine kS j ?_ H5 ((s3.trans s4).trans s5)
              rw [ehold]
              exact find_at hj (by simp [hji, hall]) hno
            | false => exact iteF ⟨_, rfl, s4.trans s5, more (by simp [hall])⟩
      · rintro σ H4 ⟨v4, rfl, s4, hno⟩
        rw [List.length_map, List.take_length] at hno
        refine kN ?_ H4 (s3.trans s4)
        rw [ehold]
        exact find_no hno
end
end Jp
namespace Jp
open PySem PySem.Spec PyProof.Rows L2
open MdBase (Term Atom varsOf)
theorem findSome_at {α β : Type} {p : α → Option β} {l : List α} {m : Nat} {x : α} {y : β} (h : l[m]? = some x) (hp : p x = some y) (hb : ∀ z ∈ l.take m, p z = none) : l.findSome? p = some y := by
  induction l generalizing m with
  | nil => simp at h
  | cons a l ih =>
    cases m with
    | zero =>
      cases h
      rw [List.findSome?_cons, hp]
    | succ m =>
      rw [List.findSome?_cons, hb a (by simp)]
      exact ih h fun y hy => hb y (by simp [hy])
theorem findSome_no {α β : Type} {p : α → Option β} {l : List α} (hb : ∀ y ∈ l, p y = none) : l.findSome? p = none := List.findSome?_eq_none_iff.mpr hb
def PairAt (H : Hp) (p : Addr) (e : Nat × Nat) : Prop := H p = some (.tup [nV e.1, nV e.2])
def spFindPair : Sp := fun vs H Q _ => ∃ (lv ls : Addr) (ds : List Addr) (vss : List (List Nat)) (st : List Nat), vs = [.ref lv, .ref ls] ∧ H lv = some (.lst (ds.map V.ref)) ∧ AllAt (VarsAt H) ds vss ∧ H ls = some (.lst (st.map nV)) ∧ st.length ≤ 1000 ∧ (∀ j ∈ st, j < ds.length) ∧ (∀ ks ∈ vss, ks.length ≤ 1000) ∧
  (pairM vss st = none → ∀ H', Same H H' → Q .non H') ∧ (∀ e, pairM vss st = some e → ∀ H' p, Same H H' → H p = none → PairAt H' p e → Q (.ref p) H')
section
variable {P : Program} {w : World} {K : PySem.W.Frag} {mg : Str → Option Value} {base : Heap}
theorem sc_fp : FnScope ["variables", "standing", "atom", "holder"] ["variables", "standing"] (defScope sFindPair) := ⟨rfl, rfl, rfl, by decide +kernel, rfl, by decide +kernel, by decide +kernel⟩
theorem ok_findPair (F : Has K mg "find_pair" sFindPair ["variables", "standing"]) (G : Ok P w K mg base "find_holder" 2 ["atom", "variables", "standing"] spFindHolder) : Ok P w K mg base "find_pair" 3 ["variables", "standing"] spFindPair := by
  obtain ⟨f, fd, F, M, kp, b⟩ := F
  refine ⟨f, fd, F.ok sc_fp (fun vs H Q E h => ?_) (fun cdv A outer s H vs Q E hr h => ?_), M, kp, b⟩
  · obtain ⟨lv, ls, ds, vss, st, rfl, _⟩ := h
    rfl
  · obtain ⟨lv, ls, ds, vss, st, rfl, hlv, hds, hls, hsl, hst, hkl, kN, kS⟩ := h
    refine ⟨_, pss_cons (ps_for PassesOwn.never rfl (pi_list (pv 1)) (pg_name (i := 2) sc_fp.nd rfl (Or.inl rfl))
        (pss_cons (ps_set (i := 3) sc_fp.nd rfl (Or.inl rfl) (pe_ok G hr rfl (pa_cons (pv 2) (pa_cons (pv 0) (pa_cons (pv 1) pa_nil)))))
        (pss_one (ps_if (pt_cmpR op_notN (pv 3) pe_non (nomark _)) (pss_one (ps_ret (pe_tup (pa_cons (pv 2) (pa_cons (pv 3) pa_nil))))) pss_nil))))
      (pss_one (ps_ret pe_non)), ?_⟩
    refine ⟨_, rfl, ls, rfl, ⟨_, SqL.of hls⟩, ?_⟩
    refine for_list (K := K) (a := ls) (xs := st.map nV) (fun m σ H' => ∃ v2 v3 : Option V, σ = [some (.ref lv), some (.ref ls), v2, v3] ∧ Same H H' ∧ ∀ j ∈ st.take m, (holderM vss st j).map (fun k => (j, k)) = none) ⟨none, none, rfl, Same.refl _, fun j hj => by simp at hj⟩ (fun m σ H' _ ⟨_, _, _, s4, _⟩ => SqL.of (s4 _ _ hls)) ?_ ?_
    · rintro m y σ H1 hm ⟨v2, v3, rfl, s1, hno⟩
      obtain ⟨j, hj, rfl⟩ := get_map hm
      refine ⟨_, rfl, _, rfl, _, rfl, j, lv, ls, ds, vss, st, rfl, s1 _ _ hlv, hds.mono (fun _ _ _ h => s1 _ _ h), s1 _ _ hls, hsl, hst, hst j (List.mem_of_getElem? hj), hkl, fun hn H2 s2 => ?_, fun k hk H2 s2 => ?_⟩
      · refine ⟨_, rfl, rfl, _, rfl, ifF (congrArg (!·) (decide_eq_true rfl)) ⟨_, _, rfl, s1.trans s2, fun x hx => ?_⟩⟩
        rw [take_snoc hj] at hx
        rcases List.mem_append.mp hx with hx | hx
        · exact hno x hx
        · rw [List.mem_singleton.mp hx, hn]
          rfl
      · refine ⟨_, rfl, rfl, _, rfl, ifT (congrArg (!·) (decide_eq_false (by intro e; cases e))) ⟨_, rfl, _, rfl, (by show 2 ≤ sizeLine; decide), fun p hp => ?_⟩⟩
        refine kS (j, k) ?_ _ p ((s1.trans s2).trans (same_upd hp)) ((s1.trans s2).free hp) upd_same
        exact findSome_at hj (by rw [hk]; rfl) hno
    · rintro σ H1 ⟨v2, v3, rfl, s1, hno⟩
      rw [List.length_map, List.take_length] at hno
      exact kN (findSome_no hno) H1 s1
/-- the atoms of a question in a list -/
def AtomsAt (CA : Addr) (H : Hp) (as : List Addr) (ats : List Atom) : Prop := AllAt (fun a x => ∃ ta l, AtomAt CA H a ta l x.args) as ats
def spTakeOff (CA CH : Addr) : Sp := fun vs H Q _ => ∃ (lq : Addr) (as : List Addr) (S : Md49.St), vs = [.ref lq] ∧ H lq = some (.lst (as.map V.ref)) ∧ AtomsAt CA H as S.asked ∧ Small S.asked ∧ S.asked.length ≤ 1000 ∧ (∀ a ∈ S.asked, a.args.length ≤ 1000) ∧
  ∀ H' h lt ls tps, Same H H' → H h = none → At2 CH "taken" "standing" H' h (.ref lt) (.ref ls) → H' lt = some (.lst (tps.map V.ref)) → AllAt (PairAt H') tps (Md49.tree S).1 → H' ls = some (.lst ((Md49.tree S).2.map nV)) → Q (.ref h) H'
theorem erase_map {st : List Nat} {x : Nat} : (st.map fun j : Nat => (j : Int)).erase (x : Int) = (st.erase x).map fun j : Nat => (j : Int) := by
  induction st with
  | nil => rfl
  | cons a st ih =>
    rw [List.map_cons]
    by_cases h : a = x
    · subst h
      rw [List.erase_cons_head, List.erase_cons_head]
    · rw [List.erase_cons_tail (by simpa using (by omega : ¬ (a : Int) = x)), List.erase_cons_tail (by simpa using h), ih, List.map_cons]
theorem map_nV (st : List Nat) : st.map nV = (st.map fun j : Nat => (j : Int)).map V.int := by
  rw [List.map_map]
  rfl
theorem rgV_nV (n : Nat) : rgV 0 (n : Int) = (List.range n).map nV := by
  unfold rgV
  have e : ((n : Int) - 0).toNat = n := by omega
  rw [e]
  refine List.map_congr_left fun i _ => ?_
  unfold nV
  congr 1
  omega
/-- what holds ahead of each turn of take_off's loop -/
def TakeInv (S : Md49.St) (H : Hp) (lq lv ls lt : Addr) (ds : List Addr) (m : Nat) (σ : L2.St) (H' : Hp) : Prop := ∃ (tk : List (Nat × Nat)) (tps : List Addr) (st : List Nat) (v : V), σ = [some (.ref lq), some (.ref lv), some (.ref ls), some (.ref lt), some v, none] ∧ Same H H' ∧ H' lv = some (.lst (ds.map V.ref)) ∧ AllAt (VarsAt H') ds (varsL S.asked) ∧ H' ls = some (.lst (st.map nV)) ∧
  H' lt = some (.lst (tps.map V.ref)) ∧ AllAt (PairAt H') tps tk ∧ st.Nodup ∧ (∀ j ∈ st, j < ds.length) ∧ tk.length + st.length = S.asked.length ∧ (pairM (varsL S.asked) st = none → v = .non) ∧ (∀ e, pairM (varsL S.asked) st = some e → ∃ p, v = .ref p ∧ PairAt H' p e) ∧
  Md49.tree S = (tk ++ (Md49.takenOff S st.length st).1, (Md49.takenOff S st.length st).2) ∧ m = st.length
theorem sc_to : FnScope ["atoms", "variables", "standing", "taken", "pair", "atom"] ["atoms"] (defScope sTakeOff) := ⟨rfl, rfl, rfl, by decide +kernel, rfl, by decide +kernel, by decide +kernel⟩
theorem ok_takeOff {CA CH : Addr} (F : Has K mg "take_off" sTakeOff ["atoms"]) (N : Plain mg) (TH : Klass K mg "Hanging" CH ["taken", "standing"]) (MH : Made P w K mg base CH 1 ["self", "taken", "standing"] (spInit2 CH "taken" "standing"))
    (GV : Ok P w K mg base "variables_of" 1 ["atom"] (spVariablesOf CA)) (GP : Ok P w K mg base "find_pair" 3 ["variables", "standing"] spFindPair) : Ok P w K mg base "take_off" 4 ["atoms"] (spTakeOff CA CH) := by
  obtain ⟨f, fd, F, M, kp, b⟩ := F
  refine ⟨f, fd, F.ok sc_to (fun vs H Q E h => ?_) (fun cdv A outer s H vs Q E hr h => ?_), M, kp, b⟩
  · obtain ⟨lq, as, S, rfl, _⟩ := h
    rfl
  · obtain ⟨lq, as, S, rfl, hlq, hats, hsm, hnl, hal, k⟩ := h
    have hr1 : Room 1 _ := hr.mono (by decide)
    have hr2 : Room 2 _ := hr.mono (by decide)
    refine ⟨_, pss_cons (ps_setLc (i := 1) (own := [("atom", 5)]) (g := gName 5) (tt := tYes) rfl sc_to.nd rfl rfl (sw_true rfl rfl rfl (by decide +kernel)) (pi_list (pv 0)) (blkOk_by (N := ["atoms", "variables", "standing", "taken", "pair", "atom"]) (sc := defScope sTakeOff) (by decide +kernel))
        (fun _ _ _ _ _ => pg_name (i := 5) sc_to.nd rfl (Or.inl rfl)) (fun _ _ _ _ _ => pts_nil) (fun _ _ _ _ _ => pe_ok GV hr1 rfl (pa_cons (pv 5) pa_nil)))
      (pss_cons (ps_set (i := 2) sc_to.nd rfl (Or.inl rfl) (pe_listRg rfl rfl N.list (prg_1 rfl N.range (pe_callB call_len_seq (by rfl) N.len PySem.boot_len (pa_cons (pv 0) pa_nil)))))
      (pss_cons (ps_set (i := 3) sc_to.nd rfl (Or.inl rfl) (pe_lst pa_nil))
      (pss_cons (ps_set (i := 4) sc_to.nd rfl (Or.inl rfl) (pe_ok GP hr rfl (pa_cons (pv 1) (pa_cons (pv 2) pa_nil))))
      (pss_cons (ps_while PassesOwn.never (pt_cmpR op_notN (pv 4) pe_non (nomark _))
        (pss_cons (ps_expr (pe_bm PySem.F.plainAttrs_list PySem.F.slot_list_append PySem.F.type_list_append mt_append (pv 3) (pa_cons (pv 4) pa_nil)))
        (pss_cons (ps_expr (pe_bm PySem.F.plainAttrs_list PySem.F.slot_list_remove PySem.F.type_list_remove mt_remove (pv 2) (pa_cons (pe_ix (ixT K) (pv 4) pe_int (fun _ _ => rfl)) pa_nil)))
        (pss_one (ps_set (i := 4) sc_to.nd rfl (Or.inl rfl) (pe_ok GP hr rfl (pa_cons (pv 1) (pa_cons (pv 2) pa_nil))))))))
      (pss_one (ps_ret (pe_new MH hr2 rfl TH.mgC (pa_cons (pv 3) (pa_cons (pv 2) pa_nil))))))))), ?_⟩
    have easl : as.length = S.asked.length := hats.1
    refine ⟨_, rfl, lq, rfl, ⟨_, SqL.of hlq⟩, fun lv hlv => lc_made walk_list (fun i H x H' _ y => y) (fun H' s' => s'.seq (SqL.of hlq)) hlv (by rw [List.length_map]; show _ ≤ 2 ^ 24; omega)
      (fun i z H' => ∃ p ks, z = .ref p ∧ (varsL S.asked)[i]? = some ks ∧ VarsAt H' p ks) ?_ ?_ ?_⟩
    · rintro i z H1 H2 acc hD1 bt ⟨p, q, rfl, hq, hp⟩
      exact ⟨p, q, rfl, hq, bt p _ hp (ne_of hp hD1 (by intro e; cases e))⟩
    · intro i y H1 acc Nn hi hy s1 hD1 hN
      obtain ⟨a, ha, rfl⟩ := get_map hy
      obtain ⟨x, hx, ta, l, hA⟩ := hats.get ha
      refine ⟨rfl, _, rfl, a, ta, l, x.args, rfl, hA.same s1, hal x (List.mem_of_getElem? hx), fun H2 d s2 nd hd => ?_⟩
      refine hN _ _ s2 ⟨d, _, rfl, ?_, hd⟩
      unfold varsL
      rw [List.getElem?_map, hx]
      rfl
    · intro H1 zs s1 hlv1 hzl hR
      obtain ⟨ds, rfl, hds⟩ := allAt_of (xs := varsL S.asked) (by rw [hzl, List.length_map, easl]; unfold varsL; rw [List.length_map]) hR
      have edl : ds.length = S.asked.length := by rw [hds.1]; unfold varsL; rw [List.length_map]
      have hkl : ∀ ks ∈ varsL S.asked, ks.length ≤ 1000 := fun ks hks => by
        unfold varsL at hks
        obtain ⟨a, ha, rfl⟩ := List.mem_map.mp hks
        have := vset_len a.args []
        have := hal a ha
        unfold vset
        simp at *
        omega
      -- standing = list(range(len(atoms)))
      refine ⟨_, rfl, lq, _, rfl, Or.inl (SqL.of (s1 _ _ hlq)), _, rfl, ?_⟩
      rw [List.length_map, easl]
      refine ⟨RgOk.of_le (by omega) (by omega) (by omega) (by omega), fun ls hls => ?_⟩
      rw [rgV_nV]
      have s2 : Same H1 (upd H1 ls (.lst ((List.range S.asked.length).map nV))) := same_upd hls
      have hls2 : upd H1 ls (.lst ((List.range S.asked.length).map nV)) ls = some (.lst ((List.range S.asked.length).map nV)) := upd_same
      generalize upd H1 ls (.lst ((List.range S.asked.length).map nV)) = H2 at s2 hls2
      -- taken = []
      refine ⟨Nat.zero_le _, fun lt hlt => ?_⟩
      have nls : lv ≠ ls := ne_of_none hlv1 hls
      have nlt : lv ≠ lt := ne_of_none (s2 _ _ hlv1) hlt
      have nst : ls ≠ lt := ne_of_none hls2 hlt
      have s3 : Same H2 (upd H2 lt (.lst [])) := same_upd hlt
      have hlt3 : upd H2 lt (.lst []) lt = some (.lst []) := upd_same
      generalize upd H2 lt (.lst []) = H3 at s3 hlt3
      have s13 : Same H1 H3 := s2.trans s3
      have hst0 : ∀ j ∈ List.range S.asked.length, j < ds.length := fun j hj => by rw [edl]; exact List.mem_range.mp hj
      have fls : H ls = none := s1.free hls
      have flt : H lt = none := (s1.trans s2).free hlt
      have bG : ∀ (v4 : V) (H4 : Hp), Same H3 H4 → (pairM (varsL S.asked) (List.range S.asked.length) = none → v4 = .non) → (∀ e, pairM (varsL S.asked) (List.range S.asked.length) = some e → ∃ p, v4 = .ref p ∧ PairAt H4 p e) →
          TakeInv S H lq lv ls lt ds S.asked.length [some (.ref lq), some (.ref lv), some (.ref ls), some (.ref lt), some v4, none] H4 := fun v4 H4 s4 hv4n hv4s =>
        ⟨[], [], List.range S.asked.length, v4, rfl, (s1.trans s13).trans s4, s4 _ _ (s13 _ _ hlv1), hds.mono (fun _ _ _ h => s4 _ _ (s13 _ _ h)), s4 _ _ (s3 _ _ hls2), s4 _ _ hlt3, AllAt.nil, List.nodup_range, hst0, by simp, hv4n, hv4s, by rw [List.length_range]; rfl, by rw [List.length_range]⟩
      refine ⟨_, rfl, _, rfl, lv, ls, ds, varsL S.asked, _, rfl, s13 _ _ hlv1, hds.mono (fun _ _ _ h => s13 _ _ h), s3 _ _ hls2, (by rw [List.length_range]; exact hnl), hst0, hkl,
        fun hn H4 s4 => ⟨TakeInv S H lq lv ls lt ds, ⟨_, bG _ H4 s4 (fun _ => rfl) (fun e he => by rw [hn] at he; cases he)⟩, ?_⟩,
        fun e he H4 p s4 np hp => ⟨TakeInv S H lq lv ls lt ds, ⟨_, bG _ H4 s4 (fun hn => by rw [hn] at he; cases he) (fun e' he' => by rw [he] at he'; cases he'; exact ⟨p, rfl, hp⟩)⟩, ?_⟩⟩
      all_goals
        rintro m σ H5 ⟨tk, tps, st, v, rfl, s5, hlv5, hds5, hls5, hlt5, htk, hnd, hst, hcnt, hvn, hvs, htree, rfl⟩
        have htpl : tps.length = tk.length := htk.1
        refine ⟨_, rfl, rfl, _, rfl, ?_⟩
        cases hpm : pairM (varsL S.asked) st with
        | none =>
          rw [hvn hpm]
          refine ifF (congrArg (!·) (decide_eq_true rfl)) ⟨_, rfl, _, rfl, fun x dy nx ndy ne => ⟨x, dy, _, _, rfl, upd_same, fun H6 hat k6 => ⟨rfl, ?_⟩⟩⟩
          have s6 : Same H5 H6 := Same.made nx ndy k6
          rw [pair_eq hsm] at hpm
          rw [takenOff_none _ hpm, List.append_nil] at htree
          rw [htree] at k
          exact k H6 x lt ls tps (s5.trans s6) (s5.free nx) hat (s6 _ _ hlt5) (htk.mono fun _ _ _ h => s6 _ _ h) (s6 _ _ hls5)
        | some e =>
          obtain ⟨p, rfl, hp⟩ := hvs e hpm
          obtain ⟨m1, m2, m3⟩ := pair_mem hpm
          refine ifT (congrArg (!·) (decide_eq_false (by intro q; cases q))) ⟨fun σ' H' => ∃ m', m' < st.length ∧ TakeInv S H lq lv ls lt ds m' σ' H', fun σ' H' h => h, ?_⟩
          -- taken.append(pair)
          refine ⟨_, rfl, .inl ⟨rfl, _, SqL.of hlt5⟩, _, rfl, lt, _, _, rfl, rfl, hlt5, (by rw [List.length_map, htpl]; show _ < 2 ^ 24; omega), ?_⟩
          have b6 : But lt H5 (upd H5 lt (.lst (tps.map V.ref ++ [V.ref p]))) := (But.of_same (Same.refl _)).upd
          have hlt6 : upd H5 lt (.lst (tps.map V.ref ++ [V.ref p])) lt = some (.lst ((tps ++ [p]).map V.ref)) := by rw [upd_same, List.map_append]; rfl
          generalize upd H5 lt (.lst (tps.map V.ref ++ [V.ref p])) = H6 at b6 hlt6
          have hls6 := b6 _ _ hls5 nst
          have hp6 : PairAt H6 p e := b6 _ _ hp (ne_of hp hlt5 (by intro q; cases q))
          -- standing.remove(pair[0])
          obtain ⟨j, hj1, hj2, hj3, hj4⟩ := first_at (ns := st.map fun j : Nat => (j : Int)) (k := (e.1 : Int)) (List.mem_map.mpr ⟨e.1, m1, rfl⟩)
          rw [erase_map] at hj4
          refine ⟨_, rfl, .inl ⟨rfl, _, SqL.of hls6⟩, _, rfl, p, _, _, _, rfl, rfl, SqT.of hp6, atI_nat (j := 0) rfl, ls, _, _, j, rfl, rfl, (by rw [← map_nV]; exact hls6), hj2, (fun m hm => hj3 m hm), ?_⟩
          rw [hj4, ← map_nV]
          have b7 : But ls H6 (upd H6 ls (.lst ((st.erase e.1).map nV))) := (But.of_same (Same.refl _)).upd
          have hls7 : upd H6 ls (.lst ((st.erase e.1).map nV)) ls = some (.lst ((st.erase e.1).map nV)) := upd_same
          generalize upd H6 ls (.lst ((st.erase e.1).map nV)) = H7 at b7 hls7
          have hlv7 : H7 lv = some (.lst (ds.map V.ref)) := b7 _ _ (b6 _ _ hlv5 nlt) nls
          have hlt7 := b7 _ _ hlt6 nst.symm
          have vv : ∀ d ks, VarsAt H5 d ks → VarsAt H7 d ks := fun d ks h => b7 _ _ (b6 _ _ h (ne_of h hlt5 (by intro q; cases q))) (ne_of h hls5 (by intro q; cases q))
          have pp : ∀ d ks, PairAt H5 d ks → PairAt H7 d ks := fun d ks h => b7 _ _ (b6 _ _ h (ne_of h hlt5 (by intro q; cases q))) (ne_of h hls5 (by intro q; cases q))
          have s7 : Same H H7 := fun c o q => b7 _ _ (b6 _ _ (s5 _ _ q) (ne_of_none q flt)) (ne_of_none q fls)
          have hstl : (st.erase e.1).length + 1 = st.length := by
            have := List.length_erase_of_mem m1
            have := List.length_pos_of_mem m1
            omega
          have hst7 : ∀ j ∈ st.erase e.1, j < ds.length := fun j hj => hst j (List.mem_of_mem_erase hj)
          have hcont : ∀ (v8 : V) (H8 : Hp), Same H7 H8 → (pairM (varsL S.asked) (st.erase e.1) = none → v8 = .non) → (∀ e', pairM (varsL S.asked) (st.erase e.1) = some e' → ∃ p, v8 = .ref p ∧ PairAt H8 p e') →
    ∃ m', m' < st.length ∧ TakeInv S H lq lv ls lt ds m' [some (V.ref lq), some (V.ref lv), some (V.ref ls), some (V.ref lt), some v8, none] H8 := by
            intro v8 H8 s8 h1 h2
            refine ⟨(st.erase e.1).length, by omega, tk ++ [e], tps ++ [p], st.erase e.1, v8, rfl, s7.trans s8, s8 _ _ hlv7, hds5.mono (fun _ _ _ h => s8 _ _ (vv _ _ h)), s8 _ _ hls7, s8 _ _ hlt7, AllAt.snoc (htk.mono fun _ _ _ h => s8 _ _ (pp _ _ h)) (s8 _ _ (pp _ _ hp)), hnd.erase _, hst7, by simp; omega, h1, h2, ?_, rfl⟩
            have he2 := hpm
            rw [pair_eq hsm] at he2
            rw [htree, ← hstl, takenOff_some _ hsm he2, filter_erase hnd]
            simp
          refine ⟨_, rfl, _, rfl, lv, ls, ds, varsL S.asked, st.erase e.1, rfl, hlv7, hds5.mono (fun _ _ _ h => vv _ _ h), hls7, by omega, hst7, hkl, fun hn H8 s8 => ?_, fun e' he H8 p' s8 np hp' => ?_⟩
          · exact hcont _ H8 s8 (fun _ => rfl) (fun e he => by rw [hn] at he; cases he)
          · exact hcont _ H8 s8 (fun hn => by rw [hn] at he; cases he) (fun e'' he' => by rw [he] at he'; cases he'; exact ⟨p', rfl, hp'⟩)
end
end Jp
namespace Jp
open PySem PySem.Spec PyProof.Rows L2
open MdBase (Term Atom varsOf)
/-- rows that fit agree by what they bind -/
def RF (_ _ : Nat) (x y : Fit) : Bool := JpBind.agreeD x.2 y.2
/-- a list of fitting rows -/
def ListAt (CF : Addr) (H : Hp) (l : Addr) (qs : List Fit) : Prop := ∃ fs, H l = some (.lst (fs.map V.ref)) ∧ AllAt (FitAt CF H) fs qs
theorem ListAt.same {CF : Addr} {H H' : Hp} {l : Addr} {qs : List Fit} (h : ListAt CF H l qs) (s : Same H H') : ListAt CF H' l qs := by
  obtain ⟨fs, h1, h2⟩ := h
  exact ⟨fs, s _ _ h1, h2.mono fun _ _ _ h => h.same s⟩
theorem ListAt.but {CF D : Addr} {H H' : Hp} {l : Addr} {qs : List Fit} {xs : List V} (h : ListAt CF H l qs) (hD : H D = some (.lst xs)) (hl : l ≠ D) (b : But D H H') : ListAt CF H' l qs := by
  obtain ⟨fs, h1, h2⟩ := h
  exact ⟨fs, b _ _ h1 hl, h2.mono fun _ _ _ h => h.but hD b⟩
/-- of each atom a list of fitting rows -/
def KeptAt (CF : Addr) (H : Hp) (lk : Addr) (fam : List (List Fit)) : Prop := ∃ ls, H lk = some (.lst (ls.map V.ref)) ∧ AllAt (ListAt CF H) ls fam
theorem KeptAt.same {CF : Addr} {H H' : Hp} {l : Addr} {qs : List (List Fit)} (h : KeptAt CF H l qs) (s : Same H H') : KeptAt CF H' l qs := by
  obtain ⟨fs, h1, h2⟩ := h
  exact ⟨fs, s _ _ h1, h2.mono fun _ _ _ h => h.same s⟩
def partner (q : Fit) (qs : List Fit) : Bool := qs.any fun y => JpBind.agreeD q.2 y.2
def stayM (fam : List (List Fit)) (i : Nat) (q : Fit) : Bool := (List.range fam.length).all fun j => j == i || partner q (fam.getD j [])
theorem thr_eq (fam : List (List Fit)) : JpLeft.thr RF fam = (List.range fam.length).map fun i => (fam.getD i []).filter (stayM fam i) := rfl
/-- families whose lists are short -/
def Short (fam : List (List Fit)) : Prop := fam.length ≤ 1000 ∧ ∀ qs ∈ fam, qs.length ≤ 1000
def spHasPartner (CF : Addr) : Sp := fun vs H Q _ => ∃ (f lo : Addr) (q : Fit) (qs : List Fit), vs = [.ref f, .ref lo] ∧ FitAt CF H f q ∧ ListAt CF H lo qs ∧ qs.length ≤ 1000 ∧ ∀ H', Same H H' → Q (.bl (partner q qs)) H'
def spStays (CF : Addr) : Sp := fun vs H Q _ => ∃ (f lk : Addr) (i : Nat) (q : Fit) (fam : List (List Fit)), vs = [.ref f, nV i, .ref lk] ∧ FitAt CF H f q ∧ KeptAt CF H lk fam ∧ Short fam ∧ ∀ H', Same H H' → Q (.bl (stayM fam i q)) H'
def spStayingRows (CF : Addr) : Sp := fun vs H Q _ => ∃ (lk : Addr) (i : Nat) (fam : List (List Fit)), vs = [nV i, .ref lk] ∧ KeptAt CF H lk fam ∧ Short fam ∧ i < fam.length ∧
  ∀ H' p, Same H H' → H p = none → ListAt CF H' p ((fam.getD i []).filter (stayM fam i)) → Q (.ref p) H'
def spThrowOut (CF : Addr) : Sp := fun vs H Q _ => ∃ (lk : Addr) (fam : List (List Fit)), vs = [.ref lk] ∧ KeptAt CF H lk fam ∧ Short fam ∧ ∀ H' p, Same H H' → H p = none → KeptAt CF H' p (JpLeft.thr RF fam) → Q (.ref p) H'
def spHowMany (CF : Addr) : Sp := fun vs H Q _ => ∃ (lk : Addr) (fam : List (List Fit)), vs = [.ref lk] ∧ KeptAt CF H lk fam ∧ Short fam ∧ ∀ H', Same H H' → Q (nV (JpLeft.cnt fam)) H'
theorem AllAt.filter {α : Type} {R : Addr → α → Prop} {ps : List Addr} {xs : List α} (h : AllAt R ps xs) (p : α → Bool) : AllAt R (((ps.zip xs).filter fun z => p z.2).map (·.1)) (xs.filter p) := by
  have e1 : (ps.zip xs).map (·.2) = xs := List.map_snd_zip (by rw [h.1]; exact Nat.le_refl _)
  have e2 : xs.filter p = ((ps.zip xs).filter fun z => p z.2).map (·.2) := by
    rw [← e1, List.filter_map, e1]
    rfl
  rw [e2]
  refine ⟨by rw [List.length_map, List.length_map], fun i q x a b => ?_⟩
  rw [List.getElem?_map] at a b
  cases hz : ((ps.zip xs).filter fun z => p z.2)[i]? with
  | none => rw [hz] at a; cases a
  | some z =>
    rw [hz] at a b
    cases a
    cases b
    have hm : z ∈ ps.zip xs := (List.mem_filter.mp (List.mem_of_getElem? hz)).1
    obtain ⟨j, hj⟩ := List.mem_iff_getElem?.mp hm
    have := List.getElem?_zip_eq_some.mp hj
    exact h.2 j _ _ this.1 this.2
section
variable {P : Program} {w : World} {K : PySem.W.Frag} {mg : Str → Option Value} {base : Heap} {CF : Addr}
theorem sc_hp : FnScope ["fitting", "others", "other"] ["fitting", "others"] (defScope sHasPartner) := ⟨rfl, rfl, rfl, by decide +kernel, rfl, by decide +kernel, by decide +kernel⟩
theorem ok_hasPartner (F : Has K mg "has_partner" sHasPartner ["fitting", "others"]) (N : Plain mg) (TF : Klass K mg "FittingRow" CF ["row", "bound"]) (G : Ok P w K mg base "agree" 1 ["bound", "other"] spAgree) : Ok P w K mg base "has_partner" 2 ["fitting", "others"] (spHasPartner CF) := by
  obtain ⟨f, fd, F, M, kp, b⟩ := F
  refine ⟨f, fd, F.ok sc_hp (fun vs H Q E h => ?_) (fun cdv A outer s H vs Q E hr h => ?_), M, kp, b⟩
  · obtain ⟨x, lo, q, qs, rfl, _⟩ := h
    rfl
  · obtain ⟨x, lo, q, qs, rfl, ⟨r, bd, ⟨dx, hx⟩, hrow, hbd⟩, ⟨fs, hlo, hfs⟩, hql, k⟩ := h
    refine ⟨_, pss_one (ps_ret (pe_callB (cr_any rfl) (by rfl) N.any (by decide +kernel) (pa_cons
        (pe_lc (own := [("other", 2)]) (g := gName 2) (tt := tYes) rfl sc_hp.nd (pi_list (pv 1)) (blkOk_by (N := ["fitting", "others", "other"]) (sc := defScope sHasPartner) (by decide +kernel))
          (fun _ _ _ _ _ => pg_name (i := 2) sc_hp.nd rfl (Or.inl rfl)) (fun _ _ _ _ _ => pts_nil)
          (fun _ _ _ _ _ => pe_ok G hr rfl (pa_cons (peF K (pv 0)) (pa_cons (peF K (pv 2)) pa_nil)))) pa_nil))), ?_⟩
    refine ⟨_, rfl, lo, rfl, ⟨_, SqL.of hlo⟩, fun D hD => lc_val (bs := qs.map fun y => JpBind.agreeD q.2 y.2) (F := V.bl) walk_list (fun i H x H' _ y => y) (fun H' s' => s'.seq (SqL.of hlo)) hD (by rw [List.length_map, hfs.1]; show _ ≤ 2 ^ 24; omega) (by rw [List.length_map, List.length_map, hfs.1]) ?_ ?_⟩
    · intro m y u H1 Nn hm hy hu1 s1 hN
      obtain ⟨g, hg, rfl⟩ := get_map hy
      obtain ⟨z, hz, r2, bd2, ⟨dz, hz1⟩, hrow2, hbd2⟩ := hfs.get hg
      rw [List.getElem?_map, hz] at hu1
      cases hu1
      refine ⟨rfl, _, rfl, x, CF, dx, _, _, rfl, s1 _ _ hx, TF.cl, TF.no _ (by simp), fs2_2, _, rfl, g, CF, dz, _, _, rfl, s1 _ _ hz1, TF.cl, TF.no _ (by simp), fs2_2, bd, bd2, q.2, z.2, rfl, s1 _ _ hbd, Or.inl (s1 _ _ hbd2), fun H2 s2 => hN H2 s2⟩
    · intro H1 s1 hD1
      refine ⟨D, _, rfl, SqL.of hD1, ?_⟩
      have e : (qs.map fun y => JpBind.agreeD q.2 y.2).any id = partner q qs := List.any_map
      rw [e]
      exact k H1 s1
theorem sc_st : FnScope ["fitting", "atom", "kept", "other"] ["fitting", "atom", "kept"] (defScope sStays) := ⟨rfl, rfl, rfl, by decide +kernel, rfl, by decide +kernel, by decide +kernel⟩
theorem nV_eq {j i : Nat} : decide (nV j = nV i) = (j == i) := by
  unfold nV
  by_cases h : j = i
  · subst h
    simp
  · have : ¬ (V.int (j : Int) = V.int (i : Int)) := fun q => h (by have := V.int.inj q; omega)
    rw [decide_eq_false this]
    simp [h]
theorem nV_zero (m : Nat) : V.int (0 + (m : Int)) = nV m := by
  unfold nV
  congr 1
  omega
theorem ok_stays (F : Has K mg "stays" sStays ["fitting", "atom", "kept"]) (N : Plain mg) (G : Ok P w K mg base "has_partner" 2 ["fitting", "others"] (spHasPartner CF)) : Ok P w K mg base "stays" 3 ["fitting", "atom", "kept"] (spStays CF) := by
  obtain ⟨f, fd, F, M, kp, b⟩ := F
  refine ⟨f, fd, F.ok sc_st (fun vs H Q E h => ?_) (fun cdv A outer s H vs Q E hr h => ?_), M, kp, b⟩
  · obtain ⟨x, lk, i, q, fam, rfl, _⟩ := h
    rfl
  · obtain ⟨x, lk, i, q, fam, rfl, hx, ⟨ls, hlk, hls⟩, hsh, k⟩ := h
    have hfl := hsh.1
    refine ⟨_, pss_one (ps_ret (pe_callB (cr_all rfl) (by rfl) N.all (by decide +kernel) (pa_cons
        (pe_lc (own := [("other", 3)]) (g := gName 3) (tt := tYes) rfl sc_st.nd (pi_range1 rfl N.range (pa_cons (pe_callB call_len_seq (by rfl) N.len PySem.boot_len (pa_cons (pv 2) pa_nil)) pa_nil)) (blkOk_by (N := ["fitting", "atom", "kept", "other"]) (sc := defScope sStays) (by decide +kernel))
          (fun _ _ _ _ _ => pg_name (i := 3) sc_st.nd rfl (Or.inl rfl)) (fun _ _ _ _ _ => pts_nil)
          (fun _ _ _ _ _ => pe_or (pe_cmpR op_eq (pv 3) (pv 1) (nomark _)) (pe_one (pe_ok G hr rfl (pa_cons (pv 0) (pa_cons (pe_ix (ixL K) (pv 2) (pv 3) (fun _ _ => rfl)) pa_nil)))))) pa_nil))), ?_⟩
    refine ⟨_, rfl, lk, _, rfl, Or.inl (SqL.of hlk), _, rfl, ?_⟩
    rw [List.length_map, hls.1]
    refine ⟨by omega, by omega, fun D hD => ?_⟩
    have en : ((fam.length : Int)).toNat = fam.length := by omega
    rw [en]
    refine lc_val (xs := (List.range fam.length).map nV) (bs := (List.range fam.length).map fun j => j == i || partner q (fam.getD j [])) (F := V.bl) walk_range (fun m H x H' hm y => ⟨y.1, by rw [List.getElem?_map, List.getElem?_range hm, y.2]; exact congrArg some (nV_zero m).symm⟩) (fun _ _ => trivial) hD (by show _ ≤ 2 ^ 24; omega) (by rw [List.length_map, List.length_range]) ?_ ?_
    · intro m y u H1 Nn hm hy hu1 s1 hN
      rw [List.getElem?_map, List.getElem?_range hm] at hy hu1
      cases hy
      cases hu1
      refine ⟨rfl, _, rfl, _, rfl, rfl, _, rfl, ?_⟩
      by_cases hmi : m = i
      · refine ifT (by rw [nV_eq]; simp [hmi]) ?_
        have this : Nn (V.bl (m == i || partner q (fam.getD m []))) H1 := hN H1 (Same.refl _)
        have e : (m == i || partner q (fam.getD m [])) = true := by simp [hmi]
        rw [e] at this
        exact this
      · refine ifF (by rw [nV_eq]; simp [hmi]) ?_
        obtain ⟨l, hl, hlist⟩ := hls.at (List.getElem?_eq_getElem hm)
        have egd : fam.getD m [] = fam[m] := by rw [List.getD_eq_getElem?_getD, List.getElem?_eq_getElem hm]; rfl
        refine ⟨_, rfl, _, rfl, _, rfl, lk, _, _, _, rfl, rfl, SqL.of (s1 _ _ hlk), atI_nat (v := V.ref l) (by rw [List.getElem?_map, hl]; rfl), x, l, q, fam[m], rfl, hx.same s1, hlist.same s1, hsh.2 _ (List.getElem_mem hm), fun H2 s2 => ?_⟩
        have this : Nn (V.bl (m == i || partner q (fam.getD m []))) H2 := hN H2 s2
        have e : (m == i || partner q (fam.getD m [])) = partner q fam[m] := by rw [egd]; simp [hmi]
        rw [e] at this
        exact this
    · intro H1 s1 hD1
      refine ⟨D, _, rfl, SqL.of hD1, ?_⟩
      have e : ((List.range fam.length).map fun j => j == i || partner q (fam.getD j [])).all id = stayM fam i q := List.all_map
      rw [e]
      exact k H1 s1
theorem sc_sr : FnScope ["atom", "kept", "fitting"] ["atom", "kept"] (defScope sStayingRows) := ⟨rfl, rfl, rfl, by decide +kernel, rfl, by decide +kernel, by decide +kernel⟩
theorem ok_stayingRows (F : Has K mg "staying_rows" sStayingRows ["atom", "kept"]) (G : Ok P w K mg base "stays" 3 ["fitting", "atom", "kept"] (spStays CF)) : Ok P w K mg base "staying_rows" 4 ["atom", "kept"] (spStayingRows CF) := by
  obtain ⟨f, fd, F, M, kp, b⟩ := F
  refine ⟨f, fd, F.ok sc_sr (fun vs H Q E h => ?_) (fun cdv A outer s H vs Q E hr h => ?_), M, kp, b⟩
  · obtain ⟨lk, i, fam, rfl, _⟩ := h
    rfl
  · obtain ⟨lk, i, fam, rfl, hk, hsh, hi, k⟩ := h
    obtain ⟨ls, hlk, hls⟩ := id hk
    obtain ⟨l, hl, fs, hl1, hfs⟩ := hls.at (List.getElem?_eq_getElem hi)
    have egd : fam.getD i [] = fam[i] := by rw [List.getD_eq_getElem?_getD, List.getElem?_eq_getElem hi]; rfl
    have hql : fam[i].length ≤ 1000 := hsh.2 _ (List.getElem_mem hi)
    rw [egd] at k
    generalize fam[i] = qs at hfs hql k
    refine ⟨_, pss_one (ps_ret (pe_lc (own := [("fitting", 2)]) (g := gName 2) rfl sc_sr.nd (pi_list (pe_ix (ixL K) (pv 1) (pv 0) (fun _ _ => rfl))) (blkOk_by (N := ["atom", "kept", "fitting"]) (sc := defScope sStayingRows) (by decide +kernel))
          (fun _ _ _ _ _ => pg_name (i := 2) sc_sr.nd rfl (Or.inl rfl)) (fun _ _ _ _ _ => pts_one (pt_val (pe_ok G hr rfl (pa_cons (pv 2) (pa_cons (pv 0) (pa_cons (pv 1) pa_nil)))))) (fun _ _ _ _ _ => pv 2))), ?_⟩
    refine ⟨_, rfl, _, rfl, lk, _, _, _, rfl, rfl, SqL.of hlk, atI_nat (v := V.ref l) (by rw [List.getElem?_map, hl]; rfl), l, rfl, ⟨_, SqL.of hl1⟩, fun D hD => ?_⟩
    have ezl : (fs.zip qs).length = (fs.map V.ref).length := by rw [List.length_zip, List.length_map, hfs.1, Nat.min_self]
    have ezf : (fs.zip qs).map (fun z => V.ref z.1) = fs.map V.ref := by
      have : (fs.zip qs).map (fun z => V.ref z.1) = ((fs.zip qs).map (·.1)).map V.ref := by rw [List.map_map]; rfl
      rw [this, List.map_fst_zip (by rw [hfs.1]; exact Nat.le_refl _)]
    refine lc_filter (as := fs.zip qs) (F := fun z => V.ref z.1) (fun z => stayM fam i z.2) walk_list (fun m H x H' hm y => ?_) ezl (fun H' b' => SqL.of (butSame hD b' _ _ hl1)) (by rw [List.length_map, hfs.1]; show _ ≤ 2 ^ 24; omega) (by show 2 < 3; decide) ?_ ?_
    · rw [ezf]
      exact y
    · intro m z H' acc Nn hm hz b' hD' hN
      have s' := butSame hD b'
      obtain ⟨hz1, hz2⟩ := List.getElem?_zip_eq_some.mp hz
      refine ⟨_, rfl, _, rfl, _, rfl, z.1, lk, i, z.2, fam, rfl, (hfs.2 m _ _ hz1 hz2).same s', hk.same s', hsh, fun H4 s4 => ⟨_, rfl, hN H4 s4⟩⟩
    · intro H2 b2 hD2
      have s2 := butSame hD b2
      refine k H2 D s2 hD ⟨((fs.zip qs).filter fun z => stayM fam i z.2).map (·.1), ?_, (hfs.filter (stayM fam i)).mono fun _ _ _ h => h.same s2⟩
      rw [hD2, List.map_map]
      rfl
theorem sc_th : FnScope ["kept", "atom"] ["kept"] (defScope sThrowOut) := ⟨rfl, rfl, rfl, by decide +kernel, rfl, by decide +kernel, by decide +kernel⟩
theorem ok_throwOut (F : Has K mg "throw_out" sThrowOut ["kept"]) (N : Plain mg) (G : Ok P w K mg base "staying_rows" 4 ["atom", "kept"] (spStayingRows CF)) : Ok P w K mg base "throw_out" 5 ["kept"] (spThrowOut CF) := by
  obtain ⟨f, fd, F, M, kp, b⟩ := F
  refine ⟨f, fd, F.ok sc_th (fun vs H Q E h => ?_) (fun cdv A outer s H vs Q E hr h => ?_), M, kp, b⟩
  · obtain ⟨lk, fam, rfl, _⟩ := h
    rfl
  · obtain ⟨lk, fam, rfl, hk, hsh, k⟩ := h
    obtain ⟨ls, hlk, hls⟩ := id hk
    have hfl := hsh.1
    refine ⟨_, pss_one (ps_ret (pe_lc (own := [("atom", 1)]) (g := gName 1) (tt := tYes) rfl sc_th.nd (pi_range1 rfl N.range (pa_cons (pe_callB call_len_seq (by rfl) N.len PySem.boot_len (pa_cons (pv 0) pa_nil)) pa_nil)) (blkOk_by (N := ["kept", "atom"]) (sc := defScope sThrowOut) (by decide +kernel))
          (fun _ _ _ _ _ => pg_name (i := 1) sc_th.nd rfl (Or.inl rfl)) (fun _ _ _ _ _ => pts_nil) (fun _ _ _ _ _ => pe_ok G hr rfl (pa_cons (pv 1) (pa_cons (pv 0) pa_nil))))), ?_⟩
    refine ⟨_, rfl, lk, _, rfl, Or.inl (SqL.of hlk), _, rfl, ?_⟩
    rw [List.length_map, hls.1]
    refine ⟨by omega, by omega, fun D hD => ?_⟩
    have en : ((fam.length : Int)).toNat = fam.length := by omega
    rw [en]
    refine lc_made (xs := (List.range fam.length).map nV) walk_range (fun m H x H' hm y => ⟨y.1, by rw [List.getElem?_map, List.getElem?_range hm, y.2]; exact congrArg some (nV_zero m).symm⟩) (fun _ _ => trivial) hD (by show _ ≤ 2 ^ 24; omega)
      (fun i z H' => ∃ p q, z = .ref p ∧ (JpLeft.thr RF fam)[i]? = some q ∧ (p ≠ D ∧ ListAt CF H' p q)) ?_ ?_ ?_
    · rintro i z H1 H2 acc hD1 bt ⟨p, q, rfl, hq, hp, hl⟩
      exact ⟨p, q, rfl, hq, hp, hl.but hD1 hp bt⟩
    · intro m y H1 acc Nn hm hy s1 hD1 hN
      rw [List.getElem?_map, List.getElem?_range hm] at hy
      cases hy
      refine ⟨rfl, _, rfl, _, rfl, lk, m, fam, rfl, hk.same s1, hsh, hm, fun H2 p s2 np hl => ?_⟩
      refine hN _ _ s2 ⟨p, _, rfl, ?_, (fun q => (by rw [q, hD1] at np; cases np)), hl⟩
      rw [thr_eq, List.getElem?_map, List.getElem?_range hm]
      rfl
    · intro H1 zs s1 hD1 hzl hR
      obtain ⟨ps, rfl, hps⟩ := allAt_of (xs := JpLeft.thr RF fam) (by rw [hzl, JpLeft.thr_length]) hR
      exact k H1 D s1 hD ⟨ps, hD1, hps.mono fun _ _ _ h => h.2⟩
theorem sc_hm : FnScope ["kept", "rows"] ["kept"] (defScope sHowMany) := ⟨rfl, rfl, rfl, by decide +kernel, rfl, by decide +kernel, by decide +kernel⟩
theorem sum_cast : ∀ l : List Nat, (l.map fun n : Nat => (n : Int)).sum = ((l.sum : Nat) : Int)
  | [] => rfl
  | a :: l => by
    rw [List.map_cons, List.sum_cons, List.sum_cons, sum_cast l]
    omega
theorem ok_howMany (F : Has K mg "how_many_rows" sHowMany ["kept"]) (N : Plain mg) : Ok P w K mg base "how_many_rows" 1 ["kept"] (spHowMany CF) := by
  obtain ⟨f, fd, F, M, kp, b⟩ := F
  refine ⟨f, fd, F.ok sc_hm (fun vs H Q E h => ?_) (fun cdv A outer s H vs Q E hr h => ?_), M, kp, b⟩
  · obtain ⟨lk, fam, rfl, _⟩ := h
    rfl
  · obtain ⟨lk, fam, rfl, ⟨ls, hlk, hls⟩, hsh, k⟩ := h
    have hfl := hsh.1
    refine ⟨_, pss_one (ps_ret (pe_callB (cr_sum rfl) (by rfl) N.sum (by decide +kernel) (pa_cons
        (pe_lc (own := [("rows", 1)]) (g := gName 1) (tt := tYes) rfl sc_hm.nd (pi_list (pv 0)) (blkOk_by (N := ["kept", "rows"]) (sc := defScope sHowMany) (by decide +kernel))
          (fun _ _ _ _ _ => pg_name (i := 1) sc_hm.nd rfl (Or.inl rfl)) (fun _ _ _ _ _ => pts_nil) (fun _ _ _ _ _ => pe_callB (callLen K) (by rfl) N.len PySem.boot_len (pa_cons (pv 1) pa_nil))) pa_nil))), ?_⟩
    refine ⟨_, rfl, lk, rfl, ⟨_, SqL.of hlk⟩, fun D hD => lc_val (bs := (fam.map List.length).map fun n : Nat => (n : Int)) (F := V.int) walk_list (fun i H x H' _ y => y) (fun H' s' => s'.seq (SqL.of hlk)) hD (by rw [List.length_map, hls.1]; show _ ≤ 2 ^ 24; omega) (by rw [List.length_map, List.length_map, List.length_map, hls.1]) ?_ ?_⟩
    · intro m y u H1 Nn hm hy hu1 s1 hN
      obtain ⟨l, hl, rfl⟩ := get_map hy
      obtain ⟨qs, hqs, fs, hl1, hfs⟩ := hls.get hl
      rw [List.getElem?_map, List.getElem?_map, hqs] at hu1
      cases hu1
      refine ⟨rfl, _, rfl, l, _, rfl, Or.inl (SqL.of (s1 _ _ hl1)), ?_⟩
      rw [List.length_map, hfs.1]
      exact hN H1 (Same.refl _)
    · intro H1 s1 hD1
      refine ⟨D, _, rfl, SqL.of hD1, ?_⟩
      rw [sum_cast]
      exact k H1 s1
end
end Jp
namespace Jp
open PySem PySem.Spec PyProof.Rows L2
open MdBase (Term Atom varsOf)
/-- an atom with its table's rows, in the order in which they came -/
def AtomFull (CT CA : Addr) (H : Hp) (tabs : List (List MdBase.Row)) (a : Addr) (x : Atom) : Prop := ∃ ta l lr c rps, AtomAt CA H a ta l x.args ∧ TableAt CT H ta lr c ∧ H lr = some (.lst (rps.map V.ref)) ∧ AllAt (RowAt H) rps (tabs.getD x.rel [])
theorem AtomFull.same {CT CA : Addr} {H H' : Hp} {tabs : List (List MdBase.Row)} {a : Addr} {x : Atom} (h : AtomFull CT CA H tabs a x) (s : Same H H') : AtomFull CT CA H' tabs a x := by
  obtain ⟨ta, l, lr, c, rps, h1, h2, h3, h4⟩ := h
  exact ⟨ta, l, lr, c, rps, h1.same s, h2.same s, s _ _ h3, h4.mono fun _ _ _ h => s _ _ h⟩
/-- what is known of a question's atoms and their tables -/
structure Fair (tabs : List (List MdBase.Row)) (ats : List Atom) : Prop where
  nd : ∀ a ∈ ats, (tabs.getD a.rel []).Nodup
  len : ∀ a ∈ ats, ∀ x ∈ tabs.getD a.rel [], x.length = a.args.length
  few : ∀ a ∈ ats, (tabs.getD a.rel []).length ≤ 10
  args : ∀ a ∈ ats, a.args.length ≤ 4
  atoms : ats.length ≤ 5
def famOf (tabs : List (List MdBase.Row)) (ats : List Atom) : List (List Fit) := ats.map fun a => fits a.args (tabs.getD a.rel [])
theorem fits_length {ts : List Term} {rows : List MdBase.Row} (h : rows.Nodup) : (fits ts rows).length ≤ rows.length := by
  unfold fits
  refine Nat.le_trans (List.length_filterMap_le _ _) ?_
  rw [JpSort.sorted_length h]
  exact Nat.le_refl _
theorem short_fam {tabs : List (List MdBase.Row)} {ats : List Atom} (h : Fair tabs ats) : Short (famOf tabs ats) := by
  refine ⟨by unfold famOf; rw [List.length_map]; have := h.atoms; omega, fun qs hq => ?_⟩
  unfold famOf at hq
  obtain ⟨a, ha, rfl⟩ := List.mem_map.mp hq
  have := fits_length (ts := a.args) (h.nd a ha)
  have := h.few a ha
  omega
theorem Short.sub {f g : List (List Fit)} (h : Short g) (s : JpLeft.Sub f g) : Short f := by
  refine ⟨by rw [s.1]; exact h.1, fun qs hq => ?_⟩
  obtain ⟨i, hi⟩ := List.mem_iff_getElem?.mp hq
  have hlt := (List.getElem?_eq_some_iff.mp hi).1
  have e1 : f.getD i [] = qs := by rw [List.getD_eq_getElem?_getD, hi]; rfl
  have hlt2 : i < g.length := by rw [← s.1]; exact hlt
  have e2 : g.getD i [] = g[i] := by rw [List.getD_eq_getElem?_getD, List.getElem?_eq_getElem hlt2]; rfl
  have := (s.2 i).length_le
  rw [e1, e2] at this
  exact Nat.le_trans this (h.2 _ (List.getElem_mem hlt2))
def spRowsLeft (CT CA CF : Addr) : Sp := fun vs H Q _ => ∃ (lq : Addr) (as : List Addr) (ats : List Atom) (tabs : List (List MdBase.Row)), vs = [.ref lq] ∧ H lq = some (.lst (as.map V.ref)) ∧ AllAt (AtomFull CT CA H tabs) as ats ∧ Fair tabs ats ∧
  ∀ H' p fam, Same H H' → KeptAt CF H' p fam → JpLeft.Sub fam (famOf tabs ats) → JpLeft.Fine RF fam → (∀ g, JpLeft.Sub g (famOf tabs ats) → JpLeft.Fine RF g → JpLeft.Sub g fam) → Q (.ref p) H'
section
variable {P : Program} {w : World} {K : PySem.W.Frag} {mg : Str → Option Value} {base : Heap} {CT CA CF : Addr}
theorem sc_rl : FnScope ["atoms", "kept", "fewer", "atom"] ["atoms"] (defScope sRowsLeft) := ⟨rfl, rfl, rfl, by decide +kernel, rfl, by decide +kernel, by decide +kernel⟩
theorem ok_rowsLeft (F : Has K mg "rows_left" sRowsLeft ["atoms"]) (GF : Ok P w K mg base "fitting_rows" 3 ["atom"] (spFittingRows CT CA CF)) (GT : Ok P w K mg base "throw_out" 5 ["kept"] (spThrowOut CF)) (GH : Ok P w K mg base "how_many_rows" 1 ["kept"] (spHowMany CF)) :
    Ok P w K mg base "rows_left" 6 ["atoms"] (spRowsLeft CT CA CF) := by
  obtain ⟨f, fd, F, M, kp, b⟩ := F
  refine ⟨f, fd, F.ok sc_rl (fun vs H Q E h => ?_) (fun cdv A outer s H vs Q E hr h => ?_), M, kp, b⟩
  · obtain ⟨lq, as, ats, tabs, rfl, _⟩ := h
    rfl
  · obtain ⟨lq, as, ats, tabs, rfl, hlq, hats, hfair, k⟩ := h
    have hr1 : Room 1 _ := hr.mono (by decide)
    have hr3 : Room 3 _ := hr.mono (by decide)
    refine ⟨_, pss_cons (ps_setLc (i := 1) (own := [("atom", 3)]) (g := gName 3) (tt := tYes) rfl sc_rl.nd rfl rfl (sw_true rfl rfl rfl (by decide +kernel)) (pi_list (pv 0)) (blkOk_by (N := ["atoms", "kept", "fewer", "atom"]) (sc := defScope sRowsLeft) (by decide +kernel))
        (fun _ _ _ _ _ => pg_name (i := 3) sc_rl.nd rfl (Or.inl rfl)) (fun _ _ _ _ _ => pts_nil) (fun _ _ _ _ _ => pe_ok GF hr3 rfl (pa_cons (pv 3) pa_nil)))
      (pss_cons (ps_set (i := 2) sc_rl.nd rfl (Or.inl rfl) (pe_ok GT hr rfl (pa_cons (pv 1) pa_nil)))
      (pss_cons (ps_while PassesOwn.never (pt_cmpR op_lt (pe_ok GH hr1 rfl (pa_cons (pv 2) pa_nil)) (pe_ok GH hr1 rfl (pa_cons (pv 1) pa_nil)) (nomark _))
        (pss_cons (ps_set (i := 1) sc_rl.nd rfl (Or.inl rfl) (pv 2))
        (pss_one (ps_set (i := 2) sc_rl.nd rfl (Or.inl rfl) (pe_ok GT hr rfl (pa_cons (pv 1) pa_nil))))))
      (pss_one (ps_ret (pv 1))))), ?_⟩
    have easl : as.length = ats.length := hats.1
    have h5 := hfair.atoms
    refine ⟨_, rfl, lq, rfl, ⟨_, SqL.of hlq⟩, fun D hD => lc_made walk_list (fun i H x H' _ y => y) (fun H' s' => s'.seq (SqL.of hlq)) hD (by rw [List.length_map]; show _ ≤ 2 ^ 24; omega)
      (fun i z H' => ∃ p q, z = .ref p ∧ (famOf tabs ats)[i]? = some q ∧ (p ≠ D ∧ ListAt CF H' p q)) ?_ ?_ ?_⟩
    · rintro i z H1 H2 acc hD1 bt ⟨p, q, rfl, hq, hp, hl⟩
      exact ⟨p, q, rfl, hq, hp, hl.but hD1 hp bt⟩
    · intro i y H1 acc Nn hi hy s1 hD1 hN
      obtain ⟨a, ha, rfl⟩ := get_map hy
      obtain ⟨x, hx, hfull⟩ := hats.get ha
      obtain ⟨ta, l, lr, c, rps, h1, h2, h3, h4⟩ := hfull.same s1
      have mx := List.mem_of_getElem? hx
      have := hfair.args x mx
      have := hfair.few x mx
      refine ⟨rfl, _, rfl, a, ta, l, lr, x.args, c, rps, _, rfl, h1, h2, h3, h4, hfair.nd x mx, hfair.len x mx, by omega, by omega, fun H2 p fs s2 np hp hfs => ?_⟩
      refine hN _ _ s2 ⟨p, _, rfl, ?_, (fun q => (by rw [q, hD1] at np; cases np)), fs, hp, hfs⟩
      unfold famOf
      rw [List.getElem?_map, hx]
      rfl
    · intro H1 zs s1 hD1 hzl hR
      have efl : (famOf tabs ats).length = ats.length := by unfold famOf; rw [List.length_map]
      obtain ⟨ls, rfl, hls⟩ := allAt_of (xs := famOf tabs ats) (by rw [hzl, List.length_map, easl, efl]) hR
      have hK1 : KeptAt CF H1 D (famOf tabs ats) := ⟨ls, hD1, hls.mono fun _ _ _ h => h.2⟩
      refine ⟨_, rfl, D, famOf tabs ats, rfl, hK1, short_fam hfair, fun H2 p s2 np hK2 => ?_⟩
      refine ⟨fun m σ H' => ∃ (lk lf : Addr) (fam : List (List Fit)), σ = [some (.ref lq), some (.ref lk), some (.ref lf), none] ∧ Same H H' ∧ KeptAt CF H' lk fam ∧ KeptAt CF H' lf (JpLeft.thr RF fam) ∧ JpLeft.Sub fam (famOf tabs ats) ∧ (∀ g, JpLeft.Sub g (famOf tabs ats) → JpLeft.Fine RF g → JpLeft.Sub g fam) ∧ m = JpLeft.cnt fam,
        ⟨_, D, p, famOf tabs ats, rfl, s1.trans s2, hK1.same s2, hK2, JpLeft.Sub.refl _, fun g hg _ => hg, rfl⟩, ?_⟩
      rintro m σ H3 ⟨lk, lf, fam, rfl, s3, hk, hf, hsub, hmax, rfl⟩
      have hsh := (short_fam hfair).sub hsub
      have hsh2 := hsh.sub (JpLeft.thr_sub RF fam)
      refine ⟨_, rfl, lf, _, rfl, hf, hsh2, fun H4 s4 => ⟨_, rfl, lk, fam, rfl, hk.same s4, hsh, fun H5 s5 => ⟨_, _, rfl, rfl, _, rfl, ?_⟩⟩⟩
      have s35 : Same H H5 := (s3.trans s4).trans s5
      obtain ⟨hle, heq⟩ := JpLeft.sub_cnt (JpLeft.thr_sub RF fam)
      by_cases hlt : JpLeft.cnt (JpLeft.thr RF fam) < JpLeft.cnt fam
      · refine ifT (decide_eq_true (by omega)) ⟨_, fun σ' H' h => h, _, rfl, _, rfl, lf, _, rfl, hf.same (s4.trans s5), hsh2, fun H6 p6 s6 np6 hK6 => ?_⟩
        exact ⟨_, hlt, lf, p6, JpLeft.thr RF fam, rfl, s35.trans s6, hf.same ((s4.trans s5).trans s6), hK6, (JpLeft.thr_sub RF fam).trans hsub, fun g hg hfg => JpLeft.sub_thr hfg (hmax g hg hfg), rfl⟩
      · refine ifF (decide_eq_false (by omega)) ⟨_, rfl, ?_⟩
        exact k H5 lk fam s35 (hk.same (s4.trans s5)) hsub (JpLeft.fine_of_thr (heq (by omega))) hmax
end
end Jp
/-! What the program leaves is what the spec leaves. -/
namespace Jp
open MdBase (Term Atom varsOf)
open Md49 (atomAt rowsAt places)
def proj (f : List (List Fit)) : List (List MdBase.Row) := f.map fun qs => qs.map (·.1)
theorem proj_getD (f : List (List Fit)) (i : Nat) : (proj f).getD i [] = (f.getD i []).map (·.1) := by
  unfold proj
  simp only [List.getD_eq_getElem?_getD, List.getElem?_map]
  cases f[i]? <;> rfl
theorem fit1_some {ts : List Term} {x : MdBase.Row} {q : Fit} : fit1 ts x = some q ↔ q.1 = x ∧ JpBind.bind ts x = some q.2 := by
  unfold fit1
  cases h : JpBind.bind ts x with
  | none => simp
  | some d =>
    simp only [Option.map_some, Option.some.injEq]
    constructor
    · rintro rfl
      exact ⟨rfl, rfl⟩
    · rintro ⟨h1, h2⟩
      exact Prod.ext h1.symm h2
theorem proj_fits {ts : List Term} : ∀ xs : List MdBase.Row, (xs.filterMap (fit1 ts)).map (·.1) = xs.filter fun x => (JpBind.bind ts x).isSome
  | [] => rfl
  | x :: xs => by
    rw [List.filterMap_cons, List.filter_cons]
    cases h : fit1 ts x with
    | none =>
      have : (JpBind.bind ts x).isSome = false := by
        unfold fit1 at h
        cases q : JpBind.bind ts x with
        | none => rfl
        | some d => rw [q] at h; cases h
      simp only [this, Bool.false_eq_true, if_false]
      exact proj_fits xs
    | some q =>
      obtain ⟨h1, h2⟩ := fit1_some.mp h
      simp only [h2, Option.isSome_some, if_true, List.map_cons, h1]
      rw [proj_fits xs]
theorem mem_fits {ts : List Term} {xs : List MdBase.Row} {q : Fit} : q ∈ xs.filterMap (fit1 ts) ↔ q.1 ∈ xs ∧ JpBind.bind ts q.1 = some q.2 := by
  rw [List.mem_filterMap]
  constructor
  · rintro ⟨x, hx, h⟩
    obtain ⟨h1, h2⟩ := fit1_some.mp h
    rw [h1]
    exact ⟨hx, h2⟩
  · rintro ⟨h1, h2⟩
    exact ⟨q.1, h1, fit1_some.mpr ⟨rfl, h2⟩⟩
section
variable {S : Md49.St} {tabs : List (List MdBase.Row)}
theorem tab_get (htab : S.tables = tabs.map MdBase.sorted) (r : Nat) : MdBase.rowsOf S.tables r = MdBase.sorted (tabs.getD r []) := by
  unfold MdBase.rowsOf
  rw [htab]
  simp only [List.getD_eq_getElem?_getD, List.getElem?_map]
  cases tabs[r]? <;> rfl
theorem atom_get {i : Nat} (hi : i < S.asked.length) : atomAt S i = S.asked[i] := by
  unfold atomAt
  rw [List.getD_eq_getElem?_getD, List.getElem?_eq_getElem hi]
  rfl
theorem fam_get {ats : List Atom} {i : Nat} (hi : i < ats.length) : (famOf tabs ats).getD i [] = (MdBase.sorted (tabs.getD ats[i].rel [])).filterMap (fit1 ats[i].args) := by
  unfold famOf
  rw [List.getD_eq_getElem?_getD, List.getElem?_map, List.getElem?_eq_getElem hi]
  rfl
/-- a row of an atom's table has as many numbers as the atom terms -/
theorem row_len (fair : Fair tabs S.asked) {i : Nat} (hi : i < S.asked.length) {x : MdBase.Row} (hx : x ∈ MdBase.sorted (tabs.getD S.asked[i].rel [])) : S.asked[i].args.length = x.length := (fair.len _ (List.getElem_mem hi) x (JpSort.mem_sorted.mp hx)).symm
theorem rows_get (htab : S.tables = tabs.map MdBase.sorted) (fair : Fair tabs S.asked) {i : Nat} (hi : i < S.asked.length) : rowsAt S i = (MdBase.sorted (tabs.getD S.asked[i].rel [])).filter fun x => (JpBind.bind S.asked[i].args x).isSome := by
  unfold rowsAt
  rw [atom_get hi, tab_get htab]
  exact List.filter_congr fun x hx => JpBind.isSome_bind (row_len fair hi hx)
theorem places_rows {i : Nat} (hi : i < S.asked.length) : ((places S).map (rowsAt S)).getD i [] = rowsAt S i := by
  unfold places
  rw [List.getD_eq_getElem?_getD, List.getElem?_map, List.getElem?_range hi]
  rfl
theorem proj_fam (htab : S.tables = tabs.map MdBase.sorted) (fair : Fair tabs S.asked) : proj (famOf tabs S.asked) = (places S).map (rowsAt S) := by
  refine JpLeft.getD_ext (by unfold proj famOf places; simp) fun i => ?_
  by_cases hi : i < S.asked.length
  · rw [proj_getD, fam_get hi, proj_fits, places_rows hi, rows_get htab fair hi]
  · rw [JpLeft.getD_out (by unfold proj famOf; simpa using hi), JpLeft.getD_out (by unfold places; simpa using hi)]
theorem small_at (sm : Small S.asked) (i : Nat) : ∀ u ∈ (atomAt S i).args.flatMap varsOf, u < 10 := by
  by_cases hi : i < S.asked.length
  · rw [atom_get hi]
    exact sm _ (List.getElem_mem hi)
  · unfold atomAt
    rw [List.getD_eq_getElem?_getD, List.getElem?_eq_none (Nat.le_of_not_lt hi)]
    intro u hu
    simp at hu
/-- two fitting rows agree for the spec as they do for the program -/
theorem agree_fit (fair : Fair tabs S.asked) (sm : Small S.asked) {i j : Nat} (hi : i < S.asked.length) (hj : j < S.asked.length) {x y : Fit} (hx : x ∈ (famOf tabs S.asked).getD i []) (hy : y ∈ (famOf tabs S.asked).getD j []) : Md49.agree S i j x.1 y.1 = RF i j x y := by
  rw [fam_get hi] at hx
  rw [fam_get hj] at hy
  obtain ⟨x1, x2⟩ := mem_fits.mp hx
  obtain ⟨y1, y2⟩ := mem_fits.mp hy
  refine JpBind.agree_eq (small_at sm i) (small_at sm j) ?_ ?_ ?_ ?_
  · rw [atom_get hi]
    exact row_len fair hi x1
  · rw [atom_get hj]
    exact row_len fair hj y1
  · rw [atom_get hi]
    exact x2
  · rw [atom_get hj]
    exact y2
def liftF (ats : List Atom) (g : List (List MdBase.Row)) : List (List Fit) := (List.range ats.length).map fun i => (g.getD i []).filterMap (fit1 (ats.getD i ⟨0, []⟩).args)
theorem liftF_get {ats : List Atom} {g : List (List MdBase.Row)} {i : Nat} (hi : i < ats.length) : (liftF ats g).getD i [] = (g.getD i []).filterMap (fit1 ats[i].args) := by
  unfold liftF
  rw [List.getD_eq_getElem?_getD, List.getElem?_map, List.getElem?_range hi]
  have : ats.getD i ⟨0, []⟩ = ats[i] := by rw [List.getD_eq_getElem?_getD, List.getElem?_eq_getElem hi]; rfl
  rw [← this]
  rfl
theorem agree_refl (S : Md49.St) (i : Nat) (x : MdBase.Row) : Md49.agree S i i x x = true := by
  unfold Md49.agree
  rw [List.all_eq_true]
  intro v _
  simp
theorem left_eq (htab : S.tables = tabs.map MdBase.sorted) (fair : Fair tabs S.asked) (sm : Small S.asked) {fam : List (List Fit)} (hs : JpLeft.Sub fam (famOf tabs S.asked)) (hf : JpLeft.Fine RF fam) (hm : ∀ g, JpLeft.Sub g (famOf tabs S.asked) → JpLeft.Fine RF g → JpLeft.Sub g fam) :
    Md49.left S = proj fam := by
  have efl : (famOf tabs S.asked).length = S.asked.length := by unfold famOf; rw [List.length_map]
  have enl : ((places S).map (rowsAt S)).length = S.asked.length := by unfold places; simp
  have epl : places S = List.range ((places S).map (rowsAt S)).length := by rw [enl]; rfl
  have hfl : fam.length = S.asked.length := hs.1.trans efl
  have key : JpLeft.times (JpLeft.pass (Md49.agree S) (List.range ((places S).map (rowsAt S)).length)) (((places S).map (rowsAt S)).flatten.length + 1) ((places S).map (rowsAt S)) = proj fam := by
    refine JpLeft.left_is (R := Md49.agree S) (agree_refl S) ?_ ?_ ?_
    · rw [← proj_fam htab fair]
      refine ⟨by unfold proj; rw [List.length_map, List.length_map, hs.1], fun i => ?_⟩
      rw [proj_getD, proj_getD]
      exact (hs.2 i).map _
    · intro i j x hi hj hne hx
      have hpl : (proj fam).length = fam.length := by unfold proj; rw [List.length_map]
      rw [hpl] at hi hj
      rw [proj_getD] at hx
      obtain ⟨q, hq, rfl⟩ := List.mem_map.mp hx
      obtain ⟨y, hy, hr⟩ := hf i j q hi hj hne hq
      refine ⟨y.1, by rw [proj_getD]; exact List.mem_map.mpr ⟨y, hy, rfl⟩, ?_⟩
      rw [agree_fit fair sm (by omega) (by omega) ((hs.2 i).subset hq) ((hs.2 j).subset hy)]
      exact hr
    · intro g hg hfg
      have hgl : g.length = S.asked.length := hg.1.trans enl
      have binds : ∀ i (hi : i < S.asked.length) x, x ∈ g.getD i [] → x ∈ MdBase.sorted (tabs.getD S.asked[i].rel []) ∧ (JpBind.bind S.asked[i].args x).isSome = true := fun i hi x hx => by
        have h1 := (hg.2 i).subset hx
        rw [places_rows hi, rows_get htab fair hi] at h1
        exact List.mem_filter.mp h1
      have epr : proj (liftF S.asked g) = g := by
        refine JpLeft.getD_ext (by unfold proj liftF; simp [hgl]) fun i => ?_
        by_cases hi : i < S.asked.length
        · rw [proj_getD, liftF_get hi, proj_fits]
          exact List.filter_eq_self.mpr fun x hx => (binds i hi x hx).2
        · rw [JpLeft.getD_out (by unfold proj liftF; simpa using hi), JpLeft.getD_out (by rw [hgl]; exact hi)]
      have hsub : JpLeft.Sub (liftF S.asked g) (famOf tabs S.asked) := by
        refine ⟨by rw [efl]; unfold liftF; simp, fun i => ?_⟩
        by_cases hi : i < S.asked.length
        · rw [liftF_get hi, fam_get hi]
          have h1 := hg.2 i
          rw [places_rows hi, rows_get htab fair hi] at h1
          exact (h1.trans List.filter_sublist).filterMap _
        · rw [JpLeft.getD_out (by unfold liftF; simpa using hi)]
          exact List.nil_sublist _
      have hfine : JpLeft.Fine RF (liftF S.asked g) := by
        intro i j q hi hj hne hq
        have hll : (liftF S.asked g).length = S.asked.length := by unfold liftF; simp
        rw [hll] at hi hj
        have hq0 := hq
        rw [liftF_get hi] at hq
        obtain ⟨q1, q2⟩ := mem_fits.mp hq
        obtain ⟨y, hy, hr⟩ := hfg i j q.1 (by omega) (by omega) hne q1
        obtain ⟨d, hd⟩ := Option.isSome_iff_exists.mp (binds j hj y hy).2
        have hy0 : (y, d) ∈ (liftF S.asked g).getD j [] := by rw [liftF_get hj]; exact mem_fits.mpr ⟨hy, hd⟩
        refine ⟨(y, d), hy0, ?_⟩
        rw [← agree_fit fair sm hi hj ((hsub.2 i).subset hq0) ((hsub.2 j).subset hy0)]
        exact hr
      have h2 := hm _ hsub hfine
      rw [← epr]
      refine ⟨by unfold proj; rw [List.length_map, List.length_map, h2.1], fun i => ?_⟩
      rw [proj_getD, proj_getD]
      exact (h2.2 i).map _
  have tm : ∀ (f : List (List MdBase.Row) → List (List MdBase.Row)) n x, MdBase.times f n x = JpLeft.times f n x := by
    intro f n
    induction n with
    | zero => intro x; rfl
    | succ n ih => intro x; exact ih (f x)
  rw [← epl] at key
  rw [← key]
  unfold Md49.left
  exact tm _ _ _
end
end Jp
/-! Ways as functions from variables to values: the spec's environments, by what they tell; in whatever order the atoms are taken. -/
namespace Jp
open MdBase (Term Atom varsOf Env)
open JpBind (Dct)
/-- what an environment or a dict tells -/
abbrev Fn := Nat → Option Int
def fn (e : List (Nat × Int)) : Fn := fun v => e.lookup v
def orF (f g : Fn) : Fn := fun v => (f v).or (g v)
/-- a dict agrees with what is known -/
def okF (f : Fn) (d : Dct) : Bool := d.all fun p => (f p.1).getD p.2 == p.2
def Compat (f g : Fn) : Prop := ∀ v a b, f v = some a → g v = some b → a = b
theorem okF_iff {f : Fn} {d : Dct} (hn : (d.map (·.1)).Nodup) : okF f d = true ↔ Compat f (fn d) := by
  unfold okF
  rw [List.all_eq_true]
  constructor
  · intro h v a b ha hb
    have := h (v, b) ((JpBind.mem_iff_lookup hn).mpr hb)
    simp only [ha, Option.getD_some, beq_iff_eq] at this
    exact this
  · rintro h ⟨v, b⟩ hp
    have hb := (JpBind.mem_iff_lookup hn).mp hp
    cases ha : f v with
    | none => simp [ha]
    | some a =>
      simp only [ha, Option.getD_some, beq_iff_eq]
      exact h v a b ha hb
theorem Compat.symm {f g : Fn} (h : Compat f g) : Compat g f := fun v a b ha hb => (h v b a hb ha).symm
theorem orF_comm {f g : Fn} (h : Compat f g) : orF f g = orF g f := by
  funext v
  unfold orF
  cases ha : f v with
  | none => cases g v <;> rfl
  | some a =>
    cases hb : g v with
    | none => rfl
    | some b => rw [h v a b ha hb]
theorem orF_assoc (f g h : Fn) : orF (orF f g) h = orF f (orF g h) := by
  funext v
  unfold orF
  cases f v <;> cases g v <;> cases h v <;> rfl
theorem compat_orF {f g h : Fn} (hfg : Compat f g) : Compat (orF f g) h ↔ Compat f h ∧ Compat g h := by
  constructor
  · intro q
    refine ⟨fun v a b ha hb => q v a b (by unfold orF; rw [ha]; rfl) hb, fun v a b ha hb => ?_⟩
    cases hf : f v with
    | none => exact q v a b (by unfold orF; rw [hf, ha]; rfl) hb
    | some c =>
      have e := hfg v c a hf ha
      subst e
      exact q v c b (by unfold orF; rw [hf]; rfl) hb
  · rintro ⟨q1, q2⟩ v a b ha hb
    unfold orF at ha
    cases hf : f v with
    | none => rw [hf] at ha; exact q2 v a b ha hb
    | some c => rw [hf] at ha; cases ha; exact q1 v _ b hf hb
/-- the spec's fitting from any environment -/
theorem fit_from : ∀ (ts : List Term) (x : MdBase.Row) (e e1 : Env) (d : Dct), ts.length = x.length → (fn e1 = orF (fn e) (fn d)) → Compat (fn e) (fn d) →
    (JpBind.bindL d (ts.zip x) = none → MdBase.fit e1 ts x = none) ∧ (∀ d', JpBind.bindL d (ts.zip x) = some d' → (Compat (fn e) (fn d') → ∃ e', MdBase.fit e1 ts x = some e' ∧ fn e' = orF (fn e) (fn d')) ∧ (¬ Compat (fn e) (fn d') → MdBase.fit e1 ts x = none))
  | [], [], e, e1, d, _, h1, h2 => ⟨fun h => (by cases h), fun d' h => (by
      cases h
      exact ⟨fun _ => ⟨e1, rfl, h1⟩, fun q => absurd h2 q⟩)⟩
  | [], _ :: _, _, _, _, h, _, _ => by cases h
  | _ :: _, [], _, _, _, h, _, _ => by cases h
  | t :: ts, z :: x, e, e1, d, hl, h1, h2 => by
    have hl' : ts.length = x.length := Nat.succ.inj hl
    have e1v : ∀ v, e1.lookup v = (e.lookup v).or (d.lookup v) := fun v => congrFun h1 v
    show ((match JpBind.step d (t, z) with | none => none | some e => JpBind.bindL e (ts.zip x)) = none → (match MdBase.fit1 e1 t z with | none => none | some f => MdBase.fit f ts x) = none) ∧ (∀ d', (match JpBind.step d (t, z) with | none => none | some e => JpBind.bindL e (ts.zip x)) = some d' → (Compat (fn e) (fn d') → ∃ e', (match MdBase.fit1 e1 t z with | none => none | some f => MdBase.fit f ts x) = some e' ∧ fn e' = orF (fn e) (fn d')) ∧ (¬ Compat (fn e) (fn d') → (match MdBase.fit1 e1 t z with | none => none | some f => MdBase.fit f ts x) = none))
    cases t with
    | con y =>
      by_cases hy : y = z
      · simp only [MdBase.fit1, JpBind.step, if_pos hy]
        exact fit_from ts x e e1 d hl' h1 h2
      · simp only [MdBase.fit1, JpBind.step, if_neg hy]
        exact ⟨fun _ => trivial, fun d' h => by cases h⟩
    | var v =>
      simp only [MdBase.fit1, JpBind.step, e1v v]
      cases hd : d.lookup v with
      | some y =>
        have hor : (e.lookup v).or (some y) = some y := by
          cases he : e.lookup v with
          | none => rfl
          | some a => rw [h2 v a y he hd]; rfl
        simp only [hor]
        by_cases hy : y = z
        · simp only [if_pos hy]
          exact fit_from ts x e e1 d hl' h1 h2
        · simp only [if_neg hy]
          exact ⟨fun _ => trivial, fun d' h => by cases h⟩
      | none =>
        cases he : e.lookup v with
        | none =>
          simp only [Option.or_none]
          refine fit_from ts x e ((v, z) :: e1) (d ++ [(v, z)]) hl' ?_ ?_
          · funext u
            show List.lookup u ((v, z) :: e1) = (e.lookup u).or ((d ++ [(v, z)]).lookup u)
            rw [List.lookup_cons, JpBind.lookup_snoc]
            by_cases hu : u = v
            · subst hu
              simp [he, hd]
            · have hb : (u == v) = false := by simp [hu]
              simp only [hb, e1v u, if_neg hu, Option.or_none]
          · intro u a b ha hb
            have hb' : ((d ++ [(v, z)]).lookup u) = some b := hb
            rw [JpBind.lookup_snoc] at hb'
            by_cases hu : u = v
            · subst hu
              have : e.lookup u = some a := ha
              rw [he] at this
              cases this
            · rw [if_neg hu, Option.or_none] at hb'
              exact h2 u a b ha hb'
        | some a =>
          simp only [Option.or_none]
          have ext : ∀ d', JpBind.bindL (d ++ [(v, z)]) (ts.zip x) = some d' → d'.lookup v = some z := fun d' h => by
            rw [JpBind.bindL_lookup _ _ _ h, JpBind.lookup_snoc, hd]
            simp
          by_cases haz : a = z
          · simp only [if_pos haz]
            subst haz
            refine fit_from ts x e e1 (d ++ [(v, a)]) hl' ?_ ?_
            · rw [h1]
              funext u
              show (e.lookup u).or (d.lookup u) = (e.lookup u).or ((d ++ [(v, a)]).lookup u)
              rw [JpBind.lookup_snoc]
              by_cases hu : u = v
              · subst hu
                simp [he]
              · simp [hu]
            · intro u a' b ha hb
              have hb' : ((d ++ [(v, a)]).lookup u) = some b := hb
              rw [JpBind.lookup_snoc] at hb'
              by_cases hu : u = v
              · subst hu
                have ha2 : e.lookup u = some a' := ha
                rw [he] at ha2
                rw [hd] at hb'
                cases ha2
                simp at hb'
                exact hb'
              · rw [if_neg hu, Option.or_none] at hb'
                exact h2 u a' b ha hb'
          · simp only [if_neg haz]
            refine ⟨fun _ => trivial, fun d' h => ⟨fun c => absurd (c v a z he (ext d' h)) haz, fun _ => trivial⟩⟩
theorem fit_none {ts : List Term} {x : MdBase.Row} (e : Env) (hl : ts.length = x.length) (h : JpBind.bind ts x = none) : MdBase.fit e ts x = none :=
  (fit_from ts x e e [] hl (by funext v; show e.lookup v = (e.lookup v).or _; cases e.lookup v <;> rfl) (fun v a b _ hb => by cases hb)).1 h
theorem fit_some {ts : List Term} {x : MdBase.Row} {d : Dct} (e : Env) (hl : ts.length = x.length) (h : JpBind.bind ts x = some d) : (okF (fn e) d = true → ∃ e', MdBase.fit e ts x = some e' ∧ fn e' = orF (fn e) (fn d)) ∧ (okF (fn e) d = false → MdBase.fit e ts x = none) := by
  obtain ⟨h1, h2⟩ := (fit_from ts x e e [] hl (by funext v; show e.lookup v = (e.lookup v).or _; cases e.lookup v <;> rfl) (fun v a b _ hb => by cases hb)).2 d h
  refine ⟨fun q => h1 ((okF_iff (JpBind.bind_nodup h)).mp q), fun q => h2 fun c => ?_⟩
  rw [(okF_iff (JpBind.bind_nodup h)).mpr c] at q
  cases q
/-- the ways from what is known, atom by atom, over fitting rows -/
def WF (fam : List (List Fit)) : Fn → List Nat → List Fn
  | f, [] => [f]
  | f, i :: r => (fam.getD i []).flatMap fun q => if okF f q.2 = true then WF fam (orF f (fn q.2)) r else []
section
variable {S : Md49.St} {tabs : List (List MdBase.Row)}
theorem part_fn (htab : S.tables = tabs.map MdBase.sorted) (fair : Fair tabs S.asked) {i : Nat} (hi : i < S.asked.length) (e : Env) (g : Env → List Fn) (g' : Fn → List Fn) (hg : ∀ e', g e' = g' (fn e')) :
    ((MdBase.part S.tables e (.pos (Md49.atomAt S i))).flatMap g) = ((famOf tabs S.asked).getD i []).flatMap fun q => if okF (fn e) q.2 = true then g' (orF (fn e) (fn q.2)) else [] := by
  show (((MdBase.rowsOf S.tables (Md49.atomAt S i).rel).filterMap fun x => MdBase.fit e (Md49.atomAt S i).args x).flatMap g) = _
  rw [atom_get hi, tab_get htab, fam_get hi]
  have hlen : ∀ x ∈ MdBase.sorted (tabs.getD S.asked[i].rel []), S.asked[i].args.length = x.length := fun x hx => row_len fair hi hx
  generalize MdBase.sorted (tabs.getD S.asked[i].rel []) = rows at hlen
  generalize S.asked[i].args = ts at hlen
  induction rows with
  | nil => rfl
  | cons x rows ih =>
    have ih := ih fun y hy => hlen y (List.mem_cons_of_mem _ hy)
    have hl := hlen x List.mem_cons_self
    cases hb : JpBind.bind ts x with
    | none =>
      rw [List.filterMap_cons, fit_none e hl hb, List.filterMap_cons]
      have : fit1 ts x = none := by unfold fit1; rw [hb]; rfl
      rw [this]
      exact ih
    | some d =>
      have h1 : fit1 ts x = some (x, d) := by unfold fit1; rw [hb]; rfl
      obtain ⟨f1, f2⟩ := fit_some e hl hb
      rw [List.filterMap_cons (f := fit1 ts), h1]
      simp only [List.flatMap_cons]
      cases hk : okF (fn e) d with
      | true =>
        obtain ⟨e', e1, e2⟩ := f1 hk
        rw [List.filterMap_cons, e1]
        simp only [List.flatMap_cons, if_true]
        rw [ih, hg, e2]
      | false =>
        rw [List.filterMap_cons, f2 hk]
        simp only [Bool.false_eq_true, if_false, List.nil_append]
        exact ih
theorem ways_fn (htab : S.tables = tabs.map MdBase.sorted) (fair : Fair tabs S.asked) : ∀ (l : List Nat), (∀ i ∈ l, i < S.asked.length) → ∀ e : Env, (MdBase.ways S.tables e (l.map fun i => MdBase.Lit.pos (Md49.atomAt S i))).map fn = WF (famOf tabs S.asked) (fn e) l
  | [], _, e => rfl
  | i :: l, h, e => by
    show ((MdBase.part S.tables e (.pos (Md49.atomAt S i))).flatMap fun x => MdBase.ways S.tables x (l.map fun i => MdBase.Lit.pos (Md49.atomAt S i))).map fn = _
    rw [List.map_flatMap]
    exact part_fn htab fair (h i List.mem_cons_self) e _ (fun f => WF (famOf tabs S.asked) f l) fun e' => ways_fn htab fair l (fun j hj => h j (List.mem_cons_of_mem _ hj)) e'
theorem together_fn (htab : S.tables = tabs.map MdBase.sorted) (fair : Fair tabs S.asked) {l : List Nat} (h : ∀ i ∈ l, i < S.asked.length) : (Md49.together S l).map fn = WF (famOf tabs S.asked) (fun _ => none) l := ways_fn htab fair l h []
theorem size_WF (htab : S.tables = tabs.map MdBase.sorted) (fair : Fair tabs S.asked) {l : List Nat} (h : ∀ i ∈ l, i < S.asked.length) : Md49.sizeOf_ S l = (WF (famOf tabs S.asked) (fun _ => none) l).length := by
  rw [← together_fn htab fair h, List.length_map]
  rfl
end
/-! ### the order of the atoms doesn't matter -/
theorem flatMap_comm {α β γ : Type} (f : α → β → List γ) : ∀ (xs : List α) (ys : List β), (xs.flatMap fun x => ys.flatMap fun y => f x y).Perm (ys.flatMap fun y => xs.flatMap fun x => f x y)
  | [], ys => by
    have : (ys.flatMap fun y => ([] : List α).flatMap fun x => f x y) = [] := by
      induction ys with
      | nil => rfl
      | cons y ys ih => rw [List.flatMap_cons, ih]; rfl
    rw [this]
    exact List.Perm.refl _
  | x :: xs, ys => by
    rw [List.flatMap_cons]
    refine ((flatMap_comm f xs ys).append_left _).trans ?_
    clear flatMap_comm
    induction ys with
    | nil => exact List.Perm.refl _
    | cons y ys ih =>
      simp only [List.flatMap_cons] at ih ⊢
      have h1 : (f x y ++ ys.flatMap (fun y => f x y) ++ (xs.flatMap (fun x => f x y) ++ ys.flatMap fun y => xs.flatMap fun x => f x y)).Perm (f x y ++ xs.flatMap (fun x => f x y) ++ (ys.flatMap (fun y => f x y) ++ ys.flatMap fun y => xs.flatMap fun x => f x y)) := by
        rw [List.append_assoc, List.append_assoc]
        refine List.Perm.append_left _ ?_
        rw [← List.append_assoc, ← List.append_assoc]
        exact List.perm_append_comm.append_right _
      exact h1.trans (List.Perm.append_left _ ih)
theorem flatMap_perm {α β : Type} {f g : α → List β} : ∀ {xs : List α}, (∀ x ∈ xs, (f x).Perm (g x)) → (xs.flatMap f).Perm (xs.flatMap g)
  | [], _ => List.Perm.refl _
  | x :: xs, h => by
    rw [List.flatMap_cons, List.flatMap_cons]
    exact (h x List.mem_cons_self).append (flatMap_perm fun y hy => h y (List.mem_cons_of_mem _ hy))
/-- each dict has each variable once -/
def Neat (fam : List (List Fit)) : Prop := ∀ i, ∀ q ∈ fam.getD i [], (q.2.map (·.1)).Nodup
theorem WF_swap {fam : List (List Fit)} (hn : Neat fam) (f : Fn) (i j : Nat) (r : List Nat) : (WF fam f (i :: j :: r)).Perm (WF fam f (j :: i :: r)) := by
  have e : ∀ a b : Nat, WF fam f (a :: b :: r) = (fam.getD a []).flatMap fun q => (fam.getD b []).flatMap fun p => if okF f q.2 = true then (if okF (orF f (fn q.2)) p.2 = true then WF fam (orF (orF f (fn q.2)) (fn p.2)) r else []) else [] := by
    intro a b
    show ((fam.getD a []).flatMap fun q => if okF f q.2 = true then ((fam.getD b []).flatMap fun p => if okF (orF f (fn q.2)) p.2 = true then WF fam (orF (orF f (fn q.2)) (fn p.2)) r else []) else []) = _
    congr 1
    funext q
    by_cases h : okF f q.2 = true
    · rw [if_pos h]
      congr 1
      funext p
      rw [if_pos h]
    · rw [if_neg h]
      induction fam.getD b [] with
      | nil => rfl
      | cons p ps ih => rw [List.flatMap_cons, ← ih, if_neg h]; rfl
  rw [e, e]
  refine (flatMap_comm _ _ _).trans (flatMap_perm fun p hp => flatMap_perm fun q hq => List.Perm.of_eq ?_)
  have np := hn j p hp
  have nq := hn i q hq
  by_cases h1 : Compat f (fn q.2) ∧ Compat f (fn p.2) ∧ Compat (fn q.2) (fn p.2)
  · obtain ⟨a, b, c⟩ := h1
    rw [if_pos ((okF_iff nq).mpr a), if_pos ((okF_iff np).mpr ((compat_orF a).mpr ⟨b, c⟩)), if_pos ((okF_iff np).mpr b), if_pos ((okF_iff nq).mpr ((compat_orF b).mpr ⟨a, c.symm⟩)), orF_assoc, orF_assoc, orF_comm c]
  · have l1 : (if okF f q.2 = true then (if okF (orF f (fn q.2)) p.2 = true then WF fam (orF (orF f (fn q.2)) (fn p.2)) r else []) else []) = [] := by
      by_cases k1 : okF f q.2 = true
      · have a := (okF_iff nq).mp k1
        rw [if_pos k1, if_neg]
        intro k2
        obtain ⟨b, c⟩ := (compat_orF a).mp ((okF_iff np).mp k2)
        exact h1 ⟨a, b, c⟩
      · rw [if_neg k1]
    have l2 : (if okF f p.2 = true then (if okF (orF f (fn p.2)) q.2 = true then WF fam (orF (orF f (fn p.2)) (fn q.2)) r else []) else []) = [] := by
      by_cases k1 : okF f p.2 = true
      · have b := (okF_iff np).mp k1
        rw [if_pos k1, if_neg]
        intro k2
        obtain ⟨a, c⟩ := (compat_orF b).mp ((okF_iff nq).mp k2)
        exact h1 ⟨a, b, c.symm⟩
      · rw [if_neg k1]
    rw [l1, l2]
theorem WF_perm {fam : List (List Fit)} (hn : Neat fam) {l m : List Nat} (h : l.Perm m) : ∀ f, (WF fam f l).Perm (WF fam f m) := by
  induction h with
  | nil => exact fun f => List.Perm.refl _
  | cons i _ ih =>
    intro f
    refine flatMap_perm fun q _ => ?_
    by_cases k : okF f q.2 = true
    · rw [if_pos k, if_pos k]
      exact ih _
    · rw [if_neg k, if_neg k]
  | swap i j r => exact fun f => WF_swap hn f j i r
  | trans _ _ ih1 ih2 => exact fun f => (ih1 f).trans (ih2 f)
theorem neat_fam (tabs : List (List MdBase.Row)) (ats : List Atom) : Neat (famOf tabs ats) := by
  intro i q hq
  by_cases hi : i < ats.length
  · rw [fam_get hi] at hq
    exact JpBind.bind_nodup (mem_fits.mp hq).2
  · rw [JpLeft.getD_out (by unfold famOf; simpa using hi)] at hq
    cases hq
theorem size_perm {S : Md49.St} {tabs : List (List MdBase.Row)} (htab : S.tables = tabs.map MdBase.sorted) (fair : Fair tabs S.asked) {l m : List Nat} (h : l.Perm m) (hl : ∀ i ∈ l, i < S.asked.length) : Md49.sizeOf_ S l = Md49.sizeOf_ S m := by
  rw [size_WF htab fair hl, size_WF htab fair fun i hi => hl i (h.mem_iff.mpr hi)]
  exact (WF_perm (neat_fam tabs S.asked) h _).length_eq
/-- one atom more at the end -/
theorem WF_snoc (fam : List (List Fit)) : ∀ (l : List Nat) (i : Nat) (f : Fn), WF fam f (l ++ [i]) = (WF fam f l).flatMap fun g => (fam.getD i []).flatMap fun q => if okF g q.2 = true then [orF g (fn q.2)] else []
  | [], i, f => by
    show ((fam.getD i []).flatMap fun q => if okF f q.2 = true then [orF f (fn q.2)] else []) = _
    rw [WF, List.flatMap_cons, List.flatMap_nil, List.append_nil]
  | j :: l, i, f => by
    show ((fam.getD j []).flatMap fun q => if okF f q.2 = true then WF fam (orF f (fn q.2)) (l ++ [i]) else []) = (((fam.getD j []).flatMap fun q => if okF f q.2 = true then WF fam (orF f (fn q.2)) l else [])).flatMap _
    rw [List.flatMap_assoc]
    congr 1
    funext q
    by_cases k : okF f q.2 = true
    · rw [if_pos k, if_pos k, WF_snoc fam l i]
    · rw [if_neg k, if_neg k]
      rfl
end Jp
/-! Tallies: how often each key comes, in the order in which they came. Plain Lean. -/
namespace JpTally
variable {α β : Type} [DecidableEq α]
def getA (d : List (α × β)) (k : α) : Option β := (d.find? fun e => decide (e.1 = k)).map (·.2)
/-- in its place, or at the end -/
def putA (d : List (α × β)) (k : α) (v : β) : List (α × β) :=
  if (d.any fun e => decide (e.1 = k)) = true then d.map (fun e => if e.1 = k then (e.1, v) else e) else d ++ [(k, v)]
theorem getA_none {d : List (α × β)} {k : α} : getA d k = none ↔ k ∉ d.map (·.1) := by
  unfold getA
  rw [Option.map_eq_none_iff, List.find?_eq_none]
  constructor
  · intro h hm
    obtain ⟨e, he, rfl⟩ := List.mem_map.mp hm
    exact h e he (decide_eq_true rfl)
  · intro h e he hd
    exact h (List.mem_map.mpr ⟨e, he, of_decide_eq_true hd⟩)
theorem getA_some {d : List (α × β)} {k : α} {v : β} (h : getA d k = some v) : (k, v) ∈ d := by
  unfold getA at h
  cases q : d.find? fun e => decide (e.1 = k) with
  | none => rw [q] at h; cases h
  | some e =>
    rw [q] at h
    cases h
    have h1 := List.find?_some q
    have h2 := List.mem_of_find?_eq_some q
    have h3 : e.1 = k := of_decide_eq_true h1
    rw [← h3]
    exact h2
theorem getA_of {d : List (α × β)} (hn : (d.map (·.1)).Nodup) {k : α} {v : β} (h : (k, v) ∈ d) : getA d k = some v := by
  cases q : getA d k with
  | none => exact absurd (List.mem_map.mpr ⟨_, h, rfl⟩) (getA_none.mp q)
  | some u =>
    have hu := getA_some q
    have : ∀ {d : List (α × β)}, (d.map (·.1)).Nodup → (k, u) ∈ d → (k, v) ∈ d → u = v := by
      intro d
      induction d with
      | nil => intro _ h; cases h
      | cons e d ih =>
        intro hn h1 h2
        rw [List.map_cons, List.nodup_cons] at hn
        rcases List.mem_cons.mp h1 with e1 | h1
        · rcases List.mem_cons.mp h2 with e2 | h2
          · rw [← e1] at e2
            exact (Prod.mk.inj e2).2.symm
          · exact absurd (List.mem_map.mpr ⟨_, h2, by rw [← e1]⟩) hn.1
        · rcases List.mem_cons.mp h2 with e2 | h2
          · exact absurd (List.mem_map.mpr ⟨_, h1, by rw [← e2]⟩) hn.1
          · exact ih hn.2 h1 h2
    rw [this hn hu h]
theorem putA_new {d : List (α × β)} {k : α} (v : β) (h : getA d k = none) : putA d k v = d ++ [(k, v)] := by
  unfold putA
  have e : (d.any fun e => decide (e.1 = k)) = false := by
    rw [Bool.eq_false_iff]
    intro q
    obtain ⟨x, hx, hk⟩ := List.any_eq_true.mp q
    exact getA_none.mp h (List.mem_map.mpr ⟨x, hx, of_decide_eq_true hk⟩)
  rw [e, if_neg (by decide)]
theorem putA_old {d : List (α × β)} {k : α} {v u : β} (h : getA d k = some u) : putA d k v = d.map (fun e => if e.1 = k then (e.1, v) else e) := by
  unfold putA
  have e : (d.any fun e => decide (e.1 = k)) = true := List.any_eq_true.mpr ⟨_, getA_some h, decide_eq_true rfl⟩
  rw [e, if_pos rfl]
theorem putA_keys (d : List (α × β)) (k : α) (v : β) : (putA d k v).map (·.1) = if k ∈ d.map (·.1) then d.map (·.1) else d.map (·.1) ++ [k] := by
  cases h : getA d k with
  | none =>
    rw [putA_new v h, if_neg (getA_none.mp h), List.map_append]
    rfl
  | some u =>
    rw [putA_old h, if_pos (List.mem_map.mpr ⟨_, getA_some h, rfl⟩), List.map_map]
    refine List.map_congr_left fun e _ => ?_
    simp only [Function.comp]
    split <;> rfl
theorem putA_nodup {d : List (α × β)} (hn : (d.map (·.1)).Nodup) (k : α) (v : β) : ((putA d k v).map (·.1)).Nodup := by
  rw [putA_keys]
  split
  · exact hn
  · rename_i h
    rw [List.nodup_append]
    refine ⟨hn, (List.nodup_cons.mpr ⟨by simp, List.nodup_nil⟩), fun x hx y hy e => ?_⟩
    rw [List.mem_singleton] at hy
    rw [e, hy] at hx
    exact h hx
theorem putA_length (d : List (α × β)) (k : α) (v : β) : (putA d k v).length ≤ d.length + 1 := by
  unfold putA
  split
  · rw [List.length_map]; omega
  · rw [List.length_append]; exact Nat.le_refl _
theorem mem_putA {d : List (α × β)} {k : α} {v : β} {e : α × β} (h : e ∈ putA d k v) : e = (k, v) ∨ (e ∈ d ∧ e.1 ≠ k) := by
  cases q : getA d k with
  | none =>
    rw [putA_new v q] at h
    rcases List.mem_append.mp h with h | h
    · refine Or.inr ⟨h, fun z => getA_none.mp q (List.mem_map.mpr ⟨e, h, z⟩)⟩
    · exact Or.inl (List.mem_singleton.mp h)
  | some u =>
    rw [putA_old q] at h
    obtain ⟨x, hx, rfl⟩ := List.mem_map.mp h
    by_cases z : x.1 = k
    · rw [if_pos z, z]
      exact Or.inl rfl
    · rw [if_neg z]
      exact Or.inr ⟨hx, z⟩
theorem getA_put {d : List (α × β)} (hn : (d.map (·.1)).Nodup) (k j : α) (v : β) : getA (putA d k v) j = if j = k then some v else getA d j := by
  by_cases h : j = k
  · subst h
    rw [if_pos rfl]
    refine getA_of (putA_nodup hn j v) ?_
    cases q : getA d j with
    | none => rw [putA_new v q]; exact List.mem_append_right _ (List.mem_singleton.mpr rfl)
    | some u =>
      rw [putA_old q]
      exact List.mem_map.mpr ⟨(j, u), getA_some q, if_pos rfl⟩
  · rw [if_neg h]
    cases q : getA d j with
    | none =>
      rw [getA_none]
      rw [putA_keys]
      have hq := getA_none.mp q
      split
      · exact hq
      · intro z
        rcases List.mem_append.mp z with z | z
        · exact hq z
        · exact h (List.mem_singleton.mp z)
    | some u =>
      refine getA_of (putA_nodup hn k v) ?_
      have hm := getA_some q
      cases r : getA d k with
      | none => rw [putA_new v r]; exact List.mem_append_left _ hm
      | some x =>
        rw [putA_old r]
        exact List.mem_map.mpr ⟨_, hm, if_neg h⟩
/-! ### tallies -/
/-- d tells how often each thing stands in L -/
structure Tally (d : List (α × Nat)) (L : List α) : Prop where
  nd : (d.map (·.1)).Nodup
  pos : ∀ e ∈ d, 1 ≤ e.2
  perm : L.Perm (d.flatMap fun e => List.replicate e.2 e.1)
/-- so often more -/
def addT (d : List (α × Nat)) (e : α × Nat) : List (α × Nat) := putA d e.1 ((getA d e.1).getD 0 + e.2)
theorem Tally.nil : Tally ([] : List (α × Nat)) [] := ⟨List.nodup_nil, (fun e h => by cases h), List.Perm.refl _⟩
theorem perm_put : ∀ {d : List (α × Nat)} {k : α} {u n : Nat}, (d.map (·.1)).Nodup → (k, u) ∈ d →
    ((d.map fun e => if e.1 = k then (e.1, u + n) else e).flatMap fun e => List.replicate e.2 e.1).Perm ((d.flatMap fun e => List.replicate e.2 e.1) ++ List.replicate n k)
  | [], _, _, _, _, h => by cases h
  | e :: d, k, u, n, hn, h => by
    rw [List.map_cons, List.nodup_cons] at hn
    rw [List.map_cons, List.flatMap_cons, List.flatMap_cons]
    rcases List.mem_cons.mp h with e1 | h
    · subst e1
      have e2 : (d.map fun e => if e.1 = k then (e.1, u + n) else e) = d := by
        refine (List.map_congr_left fun x hx => ?_).trans (List.map_id d)
        have : x.1 ≠ k := fun z => hn.1 (List.mem_map.mpr ⟨x, hx, z⟩)
        rw [if_neg this]
        rfl
      rw [e2, if_pos rfl]
      show (List.replicate (u + n) k ++ _).Perm (List.replicate u k ++ _ ++ List.replicate n k)
      rw [← List.replicate_append_replicate, List.append_assoc, List.append_assoc]
      exact List.Perm.append_left _ List.perm_append_comm
    · have hne : e.1 ≠ k := fun z => hn.1 (List.mem_map.mpr ⟨_, h, z.symm⟩)
      rw [if_neg hne, List.append_assoc]
      exact List.Perm.append_left _ (perm_put hn.2 h)
theorem Tally.add {d : List (α × Nat)} {L : List α} (h : Tally d L) (k : α) {n : Nat} (hn : 1 ≤ n) : Tally (addT d (k, n)) (L ++ List.replicate n k) := by
  unfold addT
  refine ⟨putA_nodup h.nd _ _, fun e he => ?_, ?_⟩
  · rcases mem_putA he with rfl | ⟨h1, _⟩
    · show 1 ≤ (getA d k).getD 0 + n
      omega
    · exact h.pos e h1
  · show (L ++ List.replicate n k).Perm ((putA d k ((getA d k).getD 0 + n)).flatMap fun e => List.replicate e.2 e.1)
    cases q : getA d k with
    | none =>
      rw [putA_new _ q, List.flatMap_append]
      refine h.perm.append (List.Perm.of_eq ?_)
      simp
    | some u =>
      rw [putA_old q]
      exact (h.perm.append_right _).trans (perm_put h.nd (getA_some q)).symm
theorem Tally.fold : ∀ (es : List (α × Nat)) {d : List (α × Nat)} {L : List α}, Tally d L → (∀ e ∈ es, 1 ≤ e.2) → Tally (es.foldl addT d) (L ++ es.flatMap fun e => List.replicate e.2 e.1)
  | [], d, L, h, _ => by simpa using h
  | e :: es, d, L, h, hp => by
    rw [List.foldl_cons, List.flatMap_cons, ← List.append_assoc]
    exact Tally.fold es (h.add e.1 (hp e List.mem_cons_self)) fun x hx => hp x (List.mem_cons_of_mem _ hx)
theorem Tally.of_perm {d : List (α × Nat)} {L M : List α} (h : Tally d L) (p : L.Perm M) : Tally d M := ⟨h.nd, h.pos, p.symm.trans h.perm⟩
theorem Tally.mem {d : List (α × Nat)} {L : List α} (h : Tally d L) (k : α) : k ∈ d.map (·.1) ↔ k ∈ L := by
  rw [h.perm.mem_iff, List.mem_flatMap]
  constructor
  · intro q
    obtain ⟨e, he, rfl⟩ := List.mem_map.mp q
    have := h.pos e he
    exact ⟨e, he, List.mem_replicate.mpr ⟨by omega, rfl⟩⟩
  · rintro ⟨e, he, hk⟩
    rw [(List.mem_replicate.mp hk).2]
    exact List.mem_map.mpr ⟨e, he, rfl⟩
theorem Tally.sum {d : List (α × Nat)} {L : List α} (h : Tally d L) : (d.map (·.2)).sum = L.length := by
  rw [h.perm.length_eq]
  clear h
  induction d with
  | nil => rfl
  | cons e d ih => rw [List.map_cons, List.sum_cons, List.flatMap_cons, List.length_append, List.length_replicate, ih]
theorem perm_flatMap {γ : Type} {f g : α → List γ} {L : List α} (h : ∀ x ∈ L, (f x).Perm (g x)) : (L.flatMap f).Perm (L.flatMap g) := by
  induction L with
  | nil => exact List.Perm.refl _
  | cons x L ih =>
    rw [List.flatMap_cons, List.flatMap_cons]
    exact (h x List.mem_cons_self).append (ih fun y hy => h y (List.mem_cons_of_mem _ hy))
theorem perm_flat {γ : Type} {f : α → List γ} {L M : List α} (h : L.Perm M) : (L.flatMap f).Perm (M.flatMap f) := h.flatMap_right f
theorem rep_flat {γ δ : Type} (g : List δ) (h : δ → γ) (n : Nat) : ((List.replicate n ()).flatMap fun _ => g.map h).Perm (g.flatMap fun r => List.replicate n (h r)) := by
  induction n with
  | zero =>
    have : (g.flatMap fun r => List.replicate 0 (h r)) = [] := by
      induction g with
      | nil => rfl
      | cons x g ih => rw [List.flatMap_cons, ih]; rfl
    rw [this]
    exact List.Perm.refl _
  | succ n ih =>
    rw [List.replicate_succ, List.flatMap_cons]
    refine (List.Perm.append_left _ ih).trans ?_
    clear ih
    induction g with
    | nil => exact List.Perm.refl _
    | cons x g ih =>
      rw [List.map_cons, List.flatMap_cons, List.flatMap_cons, List.replicate_succ, List.cons_append, List.cons_append]
      refine List.Perm.cons _ ?_
      rw [← List.append_assoc]
      refine (List.Perm.append_right _ List.perm_append_comm).trans ?_
      rw [List.append_assoc]
      exact List.Perm.append_left _ ih
/-- each key grown by its partners, as often as it comes -/
theorem Tally.grow {γ δ : Type} {d : List (α × Nat)} {L : List α} (t : Tally d L) (g : α → List δ) (h : α → δ → γ) :
    (L.flatMap fun k => (g k).map (h k)).Perm (d.flatMap fun e => (g e.1).flatMap fun r => List.replicate e.2 (h e.1 r)) := by
  refine (perm_flat t.perm).trans ?_
  rw [List.flatMap_assoc]
  clear t
  induction d with
  | nil => exact List.Perm.refl _
  | cons e d ih =>
    rw [List.flatMap_cons, List.flatMap_cons]
    refine List.Perm.append ?_ ih
    have e1 : ((List.replicate e.2 e.1).flatMap fun k => (g k).map (h k)) = ((List.replicate e.2 ()).flatMap fun _ => (g e.1).map (h e.1)) := by
      generalize e.2 = n
      induction n with
      | zero => rfl
      | succ n ih => rw [List.replicate_succ, List.replicate_succ, List.flatMap_cons, List.flatMap_cons, ih]
    rw [e1]
    exact rep_flat (g e.1) (h e.1) e.2
end JpTally
/-! Groups of ways: what they hold. -/
namespace Jp
open MdBase (Term Atom varsOf)
open JpBind (Dct)
open JpTally (Tally addT getA putA)
/-- an atom's variables; its rows by their values -/
structure PartM where
  vars : List Nat
  rows : List (List Int)
/-- the variables that still matter; how many ways have these values -/
structure GroupsM where
  vars : List Nat
  sizes : List (List Int × Nat)
def keyOf (K : List Nat) (f : Fn) : List Int := K.map fun v => (f v).getD 0
def pickT (xs : List Int) (ps : List Nat) : List Int := ps.map fun p => xs.getD p 0
def placesM (vs among : List Nat) : List Nat := vs.map fun v => among.idxOf v
theorem pick_key {K vs : List Nat} {f : Fn} (h : ∀ v ∈ vs, v ∈ K) : pickT (keyOf K f) (placesM vs K) = keyOf vs f := by
  unfold pickT placesM keyOf
  rw [List.map_map]
  refine List.map_congr_left fun v hv => ?_
  have hm := h v hv
  have hlt := List.idxOf_lt_length_of_mem hm
  simp only [Function.comp]
  rw [List.getD_eq_getElem?_getD, List.getElem?_map, List.getElem?_eq_getElem hlt, List.getElem_idxOf]
  rfl
theorem pick_two {K V vs : List Nat} {f g : Fn} (h : ∀ v ∈ vs, v ∈ K ++ V) : pickT (keyOf K f ++ keyOf V g) (placesM vs (K ++ V)) = vs.map fun v => if v ∈ K then (f v).getD 0 else (g v).getD 0 := by
  unfold pickT placesM
  rw [List.map_map]
  refine List.map_congr_left fun v hv => ?_
  have hl : (keyOf K f).length = K.length := List.length_map _
  simp only [Function.comp]
  by_cases hk : v ∈ K
  · have hlt := List.idxOf_lt_length_of_mem hk
    rw [if_pos hk, List.idxOf_append, if_pos hk, List.getD_eq_getElem?_getD, List.getElem?_append_left (by rw [hl]; exact hlt)]
    unfold keyOf
    rw [List.getElem?_map, List.getElem?_eq_getElem hlt, List.getElem_idxOf]
    rfl
  · have hV : v ∈ V := (List.mem_append.mp (h v hv)).resolve_left hk
    have hlt := List.idxOf_lt_length_of_mem hV
    rw [if_neg hk, List.idxOf_append, if_neg hk, List.getD_eq_getElem?_getD, List.getElem?_append_right (by rw [hl]; omega), hl]
    unfold keyOf
    rw [show V.idxOf v + K.length - K.length = V.idxOf v by omega, List.getElem?_map, List.getElem?_eq_getElem hlt, List.getElem_idxOf]
    rfl
def partnersM (p : PartM) (shared : List Nat) (k : List Int) : List (List Int) := p.rows.filter fun r => pickT r (placesM shared p.vars) == k
def sharedG (g : GroupsM) (p : PartM) : List Nat := g.vars.filter fun v => decide (v ∈ p.vars)
def keptG (g : GroupsM) (p : PartM) (wanted : List Nat) : List Nat := wanted.filter fun v => decide (v ∈ g.vars ++ p.vars)
/-- what comes of a group: each partner, with the group's size -/
def grownOf (g : GroupsM) (p : PartM) (wanted : List Nat) (e : List Int × Nat) : List (List Int × Nat) :=
  (partnersM p (sharedG g p) (pickT e.1 (placesM (sharedG g p) g.vars))).map fun r => (pickT (e.1 ++ r) (placesM (keptG g p wanted) (g.vars ++ p.vars)), e.2)
def joinM (g : GroupsM) (p : PartM) (wanted : List Nat) : GroupsM := ⟨keptG g p wanted, (g.sizes.flatMap (grownOf g p wanted)).foldl addT []⟩
/-- each variable once, in the order in which they come -/
def vadd (ks : List Nat) (v : Nat) : List Nat := if v ∈ ks then ks else ks ++ [v]
def stillM (asked : List Nat) (behind : List PartM) : List Nat := behind.foldl (fun ks p => p.vars.foldl vadd ks) (asked.foldl vadd [])
def groupL : GroupsM → List Nat → List PartM → GroupsM
  | g, _, [] => g
  | g, asked, p :: ps => groupL (joinM g p (stillM asked ps)) asked ps
def noneG : GroupsM := ⟨[], [([], 1)]⟩
def groupM (ps : List PartM) (asked : List Nat) : GroupsM := groupL noneG asked ps
theorem mem_vadd {ks : List Nat} {v u : Nat} : u ∈ vadd ks v ↔ u ∈ ks ∨ u = v := by
  unfold vadd
  split
  · rename_i h
    exact ⟨Or.inl, fun q => q.elim id fun e => e ▸ h⟩
  · simp
theorem mem_vadds {u : Nat} : ∀ (l ks : List Nat), u ∈ l.foldl vadd ks ↔ u ∈ ks ∨ u ∈ l
  | [], ks => by simp
  | v :: l, ks => by
    rw [List.foldl_cons, mem_vadds l, mem_vadd, List.mem_cons, or_assoc]
theorem mem_still {u : Nat} {asked : List Nat} {behind : List PartM} : u ∈ stillM asked behind ↔ u ∈ asked ∨ ∃ p ∈ behind, u ∈ p.vars := by
  unfold stillM
  have key : ∀ (behind : List PartM) (ks : List Nat), u ∈ behind.foldl (fun ks p => p.vars.foldl vadd ks) ks ↔ u ∈ ks ∨ ∃ p ∈ behind, u ∈ p.vars := by
    intro behind
    induction behind with
    | nil => intro ks; simp
    | cons p ps ih =>
      intro ks
      rw [List.foldl_cons, ih, mem_vadds]
      simp [or_assoc]
  rw [key, mem_vadds]
  simp
/-- the fitting rows of a part -/
structure PartOf (p : PartM) (fs : List Fit) : Prop where
  rows : p.rows = fs.map fun q => keyOf p.vars (fn q.2)
  dom : ∀ q ∈ fs, ∀ v, (fn q.2 v).isSome = true ↔ v ∈ p.vars
  neat : ∀ q ∈ fs, (q.2.map (·.1)).Nodup
/-- ways known on just these variables -/
def Dom (W : List Fn) (D : Nat → Prop) : Prop := ∀ f ∈ W, ∀ v, (f v).isSome = true ↔ D v
def grow (W : List Fn) (fs : List Fit) : List Fn := W.flatMap fun g => fs.flatMap fun q => if okF g q.2 = true then [orF g (fn q.2)] else []
theorem grow_dom {W : List Fn} {D : Nat → Prop} {p : PartM} {fs : List Fit} (hW : Dom W D) (hp : PartOf p fs) : Dom (grow W fs) (fun v => D v ∨ v ∈ p.vars) := by
  intro f hf v
  obtain ⟨g, hg, hq⟩ := List.mem_flatMap.mp hf
  obtain ⟨q, hq, hi⟩ := List.mem_flatMap.mp hq
  split at hi
  · rw [List.mem_singleton.mp hi]
    have h1 := hW g hg v
    have h2 := hp.dom q hq v
    unfold orF
    cases a : g v with
    | some x => rw [a] at h1; simp at h1; simp [h1]
    | none =>
      rw [a] at h1
      simp at h1
      simp [h1]
      exact h2
  · cases hi
theorem keyOf_eq {vs : List Nat} {f g : Fn} : keyOf vs f = keyOf vs g ↔ ∀ v ∈ vs, (f v).getD 0 = (g v).getD 0 := by
  unfold keyOf
  rw [List.map_inj_left]
/-- one part more -/
theorem join_step {W : List Fn} {D : Nat → Prop} {g : GroupsM} {p : PartM} {fs : List Fit} {wanted : List Nat} (hW : Dom W D) (hp : PartOf p fs) (ha : ∀ v ∈ g.vars, D v) (hb : ∀ v, D v → v ∈ p.vars → v ∈ g.vars) (ht : Tally g.sizes (W.map (keyOf g.vars))) :
    Tally (joinM g p wanted).sizes ((grow W fs).map (keyOf (joinM g p wanted).vars)) := by
  have hk : ∀ v ∈ keptG g p wanted, v ∈ g.vars ++ p.vars := fun v hv => of_decide_eq_true (List.mem_filter.mp hv).2
  have hsg : ∀ v ∈ sharedG g p, v ∈ g.vars := fun v hv => (List.mem_filter.mp hv).1
  have hsp : ∀ v ∈ sharedG g p, v ∈ p.vars := fun v hv => of_decide_eq_true (List.mem_filter.mp hv).2
  have key : ∀ f ∈ W, (partnersM p (sharedG g p) (pickT (keyOf g.vars f) (placesM (sharedG g p) g.vars))).map (fun r => pickT (keyOf g.vars f ++ r) (placesM (keptG g p wanted) (g.vars ++ p.vars))) = (fs.flatMap fun q => if okF f q.2 = true then [orF f (fn q.2)] else []).map (keyOf (keptG g p wanted)) := by
    intro f hf
    unfold partnersM
    rw [hp.rows, pick_key hsg]
    have hdom := hp.dom
    have hneat := hp.neat
    clear hp
    induction fs with
    | nil => rfl
    | cons q fs ih =>
      have ih := ih (fun q hq => hdom q (List.mem_cons_of_mem _ hq)) (fun q hq => hneat q (List.mem_cons_of_mem _ hq))
      have hd := hdom q List.mem_cons_self
      have hn := hneat q List.mem_cons_self
      rw [List.map_cons, List.filter_cons, List.flatMap_cons, List.map_append, pick_key hsp]
      have hcond : (keyOf (sharedG g p) (fn q.2) == keyOf (sharedG g p) f) = okF f q.2 := by
        rw [Bool.eq_iff_iff, beq_iff_eq, keyOf_eq, okF_iff hn]
        constructor
        · intro h v a b hfa hqb
          have hDv : D v := (hW f hf v).mp (by rw [hfa]; rfl)
          have hpv : v ∈ p.vars := (hd v).mp (by rw [hqb]; rfl)
          have := h v (List.mem_filter.mpr ⟨hb v hDv hpv, decide_eq_true hpv⟩)
          rw [hfa, hqb] at this
          exact this.symm
        · intro h v hv
          obtain ⟨b, hqb⟩ := Option.isSome_iff_exists.mp ((hd v).mpr (hsp v hv))
          obtain ⟨a, hfa⟩ := Option.isSome_iff_exists.mp ((hW f hf v).mpr (ha v (hsg v hv)))
          rw [hfa, hqb, h v a b hfa hqb]
      rw [hcond]
      by_cases hok : okF f q.2 = true
      · rw [if_pos hok, if_pos hok, List.map_cons, ih, List.map_singleton, List.singleton_append]
        congr 1
        rw [pick_two hk]
        unfold keyOf
        refine List.map_congr_left fun v hv => ?_
        unfold orF
        by_cases hvg : v ∈ g.vars
        · obtain ⟨a, hfa⟩ := Option.isSome_iff_exists.mp ((hW f hf v).mpr (ha v hvg))
          rw [if_pos hvg, hfa]
          rfl
        · rw [if_neg hvg]
          have hpv : v ∈ p.vars := (List.mem_append.mp (hk v hv)).resolve_left hvg
          cases hfa : f v with
          | none => rfl
          | some a => exact absurd (hb v ((hW f hf v).mp (by rw [hfa]; rfl)) hpv) hvg
      · rw [if_neg hok, if_neg hok, ih]
        rfl
  have h1 := ht.grow (fun k => partnersM p (sharedG g p) (pickT k (placesM (sharedG g p) g.vars))) (fun k r => pickT (k ++ r) (placesM (keptG g p wanted) (g.vars ++ p.vars)))
  have h2 := Tally.fold (g.sizes.flatMap (grownOf g p wanted)) Tally.nil (fun e he => by
    obtain ⟨x, hx, hy⟩ := List.mem_flatMap.mp he
    obtain ⟨r, _, rfl⟩ := List.mem_map.mp hy
    exact ht.pos x hx)
  have e1 : ((g.sizes.flatMap (grownOf g p wanted)).flatMap fun e => List.replicate e.2 e.1) = g.sizes.flatMap fun e => (partnersM p (sharedG g p) (pickT e.1 (placesM (sharedG g p) g.vars))).flatMap fun r => List.replicate e.2 (pickT (e.1 ++ r) (placesM (keptG g p wanted) (g.vars ++ p.vars))) := by
    rw [List.flatMap_assoc]
    congr 1
    funext e
    unfold grownOf
    rw [List.flatMap_map]
  have e2 : ((grow W fs).map (keyOf (keptG g p wanted))) = (W.map (keyOf g.vars)).flatMap fun k => (partnersM p (sharedG g p) (pickT k (placesM (sharedG g p) g.vars))).map fun r => pickT (k ++ r) (placesM (keptG g p wanted) (g.vars ++ p.vars)) := by
    unfold grow
    rw [List.map_flatMap, List.flatMap_map]
    clear h1 h2 e1 ht
    have : ∀ W' : List Fn, (∀ f ∈ W', f ∈ W) → (W'.flatMap fun f => (fs.flatMap fun q => if okF f q.2 = true then [orF f (fn q.2)] else []).map (keyOf (keptG g p wanted))) = W'.flatMap fun f => (partnersM p (sharedG g p) (pickT (keyOf g.vars f) (placesM (sharedG g p) g.vars))).map fun r => pickT (keyOf g.vars f ++ r) (placesM (keptG g p wanted) (g.vars ++ p.vars)) := by
      intro W'
      induction W' with
      | nil => intro _; rfl
      | cons f W' ih =>
        intro h
        rw [List.flatMap_cons, List.flatMap_cons, ih fun x hx => h x (List.mem_cons_of_mem _ hx), key f (h f List.mem_cons_self)]
    exact this W fun _ h => h
  show Tally ((g.sizes.flatMap (grownOf g p wanted)).foldl addT []) ((grow W fs).map (keyOf (keptG g p wanted)))
  rw [e2]
  rw [List.nil_append, e1] at h2
  exact h2.of_perm h1.symm
/-- all parts -/
theorem group_all {fam : List (List Fit)} {asked : List Nat} {P : Nat → PartM} (hP : ∀ i, PartOf (P i) (fam.getD i [])) : ∀ (r l : List Nat) (g : GroupsM) (D : Nat → Prop),
    Dom (WF fam (fun _ => none) l) D → (∀ v ∈ g.vars, D v) → (∀ v, D v → (v ∈ asked ∨ ∃ i ∈ r, v ∈ (P i).vars) → v ∈ g.vars) → Tally g.sizes ((WF fam (fun _ => none) l).map (keyOf g.vars)) →
    ∃ D' : Nat → Prop, Dom (WF fam (fun _ => none) (l ++ r)) D' ∧ (∀ v, D' v ↔ D v ∨ ∃ i ∈ r, v ∈ (P i).vars) ∧ (∀ v ∈ (groupL g asked (r.map P)).vars, D' v) ∧ (∀ v, D' v → v ∈ asked → v ∈ (groupL g asked (r.map P)).vars) ∧
      Tally (groupL g asked (r.map P)).sizes ((WF fam (fun _ => none) (l ++ r)).map (keyOf (groupL g asked (r.map P)).vars))
  | [], l, g, D, h1, h2, h3, h4 => ⟨D, by rwa [List.append_nil], fun v => by simp, h2, fun v hd ha => h3 v hd (Or.inl ha), by rw [List.append_nil]; exact h4⟩
  | i :: r, l, g, D, h1, h2, h3, h4 => by
    have hs : WF fam (fun _ => none) (l ++ [i]) = grow (WF fam (fun _ => none) l) (fam.getD i []) := WF_snoc fam l i _
    have hd := grow_dom h1 (hP i)
    rw [← hs] at hd
    have ht := join_step (wanted := stillM asked (r.map P)) h1 (hP i) h2 (fun v a b => h3 v a (Or.inr ⟨i, List.mem_cons_self, b⟩)) h4
    rw [← hs] at ht
    have hk : ∀ v, v ∈ (joinM g (P i) (stillM asked (r.map P))).vars ↔ v ∈ stillM asked (r.map P) ∧ v ∈ g.vars ++ (P i).vars := fun v => by
      show v ∈ List.filter _ _ ↔ _
      rw [List.mem_filter, decide_eq_true_eq]
    obtain ⟨D', a1, a2, a3, a4, a5⟩ := group_all (asked := asked) hP r (l ++ [i]) (joinM g (P i) (stillM asked (r.map P))) _ hd (fun v hv => ((List.mem_append.mp ((hk v).mp hv).2).imp (h2 v) id)) (fun v hDv hv => by
      refine (hk v).mpr ⟨mem_still.mpr (hv.imp id fun ⟨j, hj, hw⟩ => ⟨P j, List.mem_map.mpr ⟨j, hj, rfl⟩, hw⟩), ?_⟩
      rcases hDv with hDv | hDv
      · exact List.mem_append_left _ (h3 v hDv (hv.imp id fun ⟨j, hj, hw⟩ => ⟨j, List.mem_cons_of_mem _ hj, hw⟩))
      · exact List.mem_append_right _ hDv) ht
    rw [List.append_assoc] at a1 a5
    refine ⟨D', a1, fun v => ?_, a3, a4, a5⟩
    rw [a2]
    simp [or_assoc]
theorem group_ok {fam : List (List Fit)} {asked : List Nat} {P : Nat → PartM} (hP : ∀ i, PartOf (P i) (fam.getD i [])) (r : List Nat) :
    (∀ v ∈ asked, (∃ i ∈ r, v ∈ (P i).vars) → v ∈ (groupM (r.map P) asked).vars) ∧ Tally (groupM (r.map P) asked).sizes ((WF fam (fun _ => none) r).map (keyOf (groupM (r.map P) asked).vars)) := by
  obtain ⟨D', a1, a2, a3, a4, a5⟩ := group_all (asked := asked) hP r [] noneG (fun _ => False) (fun f hf v => by
    have e : f = fun _ => none := List.mem_singleton.mp hf
    rw [e]
    simp) (fun v hv => by cases hv) (fun v h => h.elim) ⟨by simp [noneG], fun e he => by
      rw [List.mem_singleton.mp he]
      exact Nat.le_refl _, List.Perm.refl _⟩
  exact ⟨fun v hv hi => a4 v ((a2 v).mpr (Or.inr hi)) hv, a5⟩
end Jp
/-! What is told of the groups: how many ways; the rows that are asked for. -/
namespace Jp
open MdBase (Term Atom varsOf before)
open JpTally (Tally addT getA putA)
/-! ### a variable that is asked for twice -/
def dd : List Nat → List Nat → List Nat
  | _, [] => []
  | seen, v :: l => if v ∈ seen then dd seen l else v :: dd (seen ++ [v]) l
theorem vadd_dd : ∀ (l ks : List Nat), l.foldl vadd ks = ks ++ dd ks l
  | [], ks => by simp [dd]
  | v :: l, ks => by
    rw [List.foldl_cons, vadd_dd l]
    unfold vadd
    simp only [dd]
    by_cases h : v ∈ ks
    · rw [if_pos h, if_pos h]
    · rw [if_neg h, if_neg h, List.append_assoc]
      rfl
theorem before_dd {x y : Nat → Int} : ∀ (l seen : List Nat), (∀ v ∈ seen, x v = y v) → before ((dd seen l).map x) ((dd seen l).map y) = before (l.map x) (l.map y)
  | [], seen, _ => rfl
  | v :: l, seen, h => by
    simp only [dd]
    by_cases hv : v ∈ seen
    · rw [if_pos hv, before_dd l seen h]
      simp only [List.map_cons, before, h v hv, Int.lt_irrefl, if_false]
    · rw [if_neg hv]
      simp only [List.map_cons, before]
      by_cases h1 : x v < y v
      · rw [if_pos h1, if_pos h1]
      · by_cases h2 : y v < x v
        · rw [if_neg h1, if_neg h1, if_pos h2, if_pos h2]
        · rw [if_neg h1, if_neg h1, if_neg h2, if_neg h2]
          refine before_dd l (seen ++ [v]) fun u hu => ?_
          rcases List.mem_append.mp hu with hu | hu
          · exact h u hu
          · rw [List.mem_singleton.mp hu]
            omega
theorem before_once (l : List Nat) (f g : Fn) : before (keyOf (l.foldl vadd []) f) (keyOf (l.foldl vadd []) g) = before (keyOf l f) (keyOf l g) := by
  rw [vadd_dd, List.nil_append]
  exact before_dd (x := fun v => (f v).getD 0) (y := fun v => (g v).getD 0) l [] fun v hv => by cases hv
theorem vars_filter {asked : List Nat} : ∀ (ps : List PartM) (g : GroupsM), ps ≠ [] → ∃ c : Nat → Bool, (groupL g asked ps).vars = (asked.foldl vadd []).filter c
  | [], _, h => absurd rfl h
  | [p], g, _ => ⟨_, rfl⟩
  | p :: q :: ps, g, _ => vars_filter (q :: ps) _ (by intro z; cases z)
section
variable {fam : List (List Fit)} {asked : List Nat} {P : Nat → PartM} {r : List Nat}
theorem group_vars (hP : ∀ i, PartOf (P i) (fam.getD i [])) (hr : r ≠ []) (ha : ∀ v ∈ asked, ∃ i ∈ r, v ∈ (P i).vars) : (groupM (r.map P) asked).vars = asked.foldl vadd [] := by
  obtain ⟨c, hc⟩ := vars_filter (asked := asked) (r.map P) noneG (by
    intro z
    exact hr (List.map_eq_nil_iff.mp z))
  have hm := (group_ok (asked := asked) hP r).1
  have hc' : (groupM (r.map P) asked).vars = (asked.foldl vadd []).filter c := hc
  rw [hc', List.filter_eq_self]
  intro v hv
  have hva : v ∈ asked := by
    rcases (mem_vadds asked []).mp hv with q | q
    · cases q
    · exact q
  have := hm v hva (ha v hva)
  rw [hc'] at this
  exact (List.mem_filter.mp this).2
/-- how many ways -/
theorem group_count (hP : ∀ i, PartOf (P i) (fam.getD i [])) : ((groupM (r.map P) asked).sizes.map (·.2)).sum = (WF fam (fun _ => none) r).length := by
  rw [(group_ok hP r).2.sum, List.length_map]
theorem keyOf_once {f g : Fn} (h : keyOf asked f = keyOf asked g) : keyOf (asked.foldl vadd []) f = keyOf (asked.foldl vadd []) g := by
  rw [keyOf_eq] at h ⊢
  intro v hv
  rcases (mem_vadds asked []).mp hv with q | q
  · cases q
  · exact h v q
/-- the rows that are asked for: the groups' keys in order, written out -/
theorem group_answers (hP : ∀ i, PartOf (P i) (fam.getD i [])) (hr : r ≠ []) (ha : ∀ v ∈ asked, ∃ i ∈ r, v ∈ (P i).vars) {ys : List (List Int)} (hp : ys.Perm ((groupM (r.map P) asked).sizes.map (·.1))) (ho : ys.Pairwise fun x y => before y x = false) :
    ys.map (fun y => pickT y (placesM asked (groupM (r.map P) asked).vars)) = MdBase.sorted ((WF fam (fun _ => none) r).map (keyOf asked)) := by
  have ht := (group_ok (asked := asked) hP r).2
  rw [group_vars hP hr ha] at ht ⊢
  have hsub : ∀ v ∈ asked, v ∈ asked.foldl vadd [] := fun v hv => (mem_vadds asked []).mpr (Or.inr hv)
  have hex : ∀ y ∈ ys, ∃ f ∈ WF fam (fun _ => none) r, y = keyOf (asked.foldl vadd []) f := fun y hy => by
    have h1 := (ht.mem y).mp (hp.mem_iff.mp hy)
    obtain ⟨f, hf, e⟩ := List.mem_map.mp h1
    exact ⟨f, hf, e.symm⟩
  have hnd : ys.Nodup := hp.nodup_iff.mpr ht.nd
  refine JpSort.sorted_one ?_ ?_ fun z => ?_
  · show List.Pairwise _ _
    rw [List.pairwise_map]
    refine List.Pairwise.imp_of_mem ?_ hnd
    intro x y hx hy hne e
    obtain ⟨f, hf, rfl⟩ := hex x hx
    obtain ⟨g, hg, rfl⟩ := hex y hy
    rw [pick_key hsub, pick_key hsub] at e
    exact hne (keyOf_once e)
  · rw [List.pairwise_map]
    refine List.Pairwise.imp_of_mem ?_ ho
    intro x y hx hy h
    obtain ⟨f, hf, rfl⟩ := hex x hx
    obtain ⟨g, hg, rfl⟩ := hex y hy
    rw [pick_key hsub, pick_key hsub, ← before_once]
    exact h
  · rw [List.mem_map, List.mem_map]
    constructor
    · rintro ⟨y, hy, rfl⟩
      obtain ⟨f, hf, rfl⟩ := hex y hy
      exact ⟨f, hf, (pick_key hsub).symm⟩
    · rintro ⟨f, hf, rfl⟩
      refine ⟨keyOf (asked.foldl vadd []) f, hp.mem_iff.mpr ((ht.mem _).mpr (List.mem_map.mpr ⟨f, hf, rfl⟩)), pick_key hsub⟩
end
end Jp
/-! sorted of a tuple of whole numbers, of a dict whose keys are tuples of whole numbers; sum of such a dict's values. -/
namespace Jp
open PySem PySem.Spec PyProof.Rows L2
section
variable {prog : Program} {w : World} {A : Around} {E : Value → Shared → Prop} {s : Shared}
/-- sorted(x), where it is known what x gives -/
theorem sorted_from {x : Value} {vs : List Value} {ltv : Value → Value → Bool} {Q : Value → Shared → Prop} (O : SrtO.Swo ltv) (hz : vs.length ≤ sizeLine)
    (hc : ∀ R : List Value → Shared → Prop, (∀ (g : Heap) (tk : Nat), (∀ b o, s.heap.get? b = some o → g.get? b = some o) → R vs { s with heap := g, toks := tk }) → wpAny (model prog w) A.in1 (collect x) R E s)
    (hS : 2 ≤ vs.length → ∀ (h1 : Heap) (tk : Nat) (a : Addr), (∀ b o, s.heap.get? b = some o → b ≠ a ∧ h1.get? b = some o) → SrtO.SortableO prog w A.in1.in1 { s with heap := h1, toks := tk } a vs ltv)
    (h : ∀ (out : List Value) (g h' : Heap) (tk : Nat), SrtO.Srtd ltv out → SrtO.Stb ltv out vs → (∀ b o, s.heap.get? b = some o → g.get? b = some o) → (∀ b o, g.get? b = some o → h'.get? b = some o) → (∃ n, h'.get? g.objs.size = some (seqObj "list" out.toArray n)) → Q (.ref g.objs.size) { s with heap := h', toks := tk }) :
    wpAny (model prog w) A (call (.builtin "sorted") [x]) Q E s := by
  refine Calls.call_function_entry kind_sorted plain_sorted entry_sorted (args_sorted1 _) ?_
  unfold Builtin.«sorted»
  refine wpAny_bind (m := checkCount "sorted" 1 1 _) (wpAny_pure (wpAny_bind (hc _ fun g tk kp => wpAny_bind (wpAny_newList ?_ hz))))
  have here : (g.push (seqObj "list" vs.toArray 0)).get? g.objs.size = some (seqObj "list" vs.toArray 0) := Heap.get?_push_size _ rfl
  have keep : ∀ b o, s.heap.get? b = some o → b ≠ g.objs.size ∧ (g.push (seqObj "list" vs.toArray 0)).get? b = some o := fun b o e => ⟨Nat.ne_of_lt (Heap.lt_size (kp b o e)), Heap.get?_push_of_some _ (kp b o e)⟩
  show wpAny _ _ _ _ _ { s with heap := g.push (seqObj "list" vs.toArray 0), toks := tk }
  refine wpAny_bind (wpAny_holding (wpAny_call_entry slot_list_sort ⟨_, here, rfl⟩ entry_list_sort (SrtO.list_sort_ord O here hz (fun h2 => hS h2 _ _ _ keep) fun out hs hb => ⟨_, rfl, wpAny_pure ⟨_, rfl, ?_⟩⟩) (args_list_sort _)))
  refine h out g _ tk hs hb kp (fun b o e => ?_) (sortedHeap_at here)
  rw [sortedHeap_old (Nat.ne_of_lt (Heap.lt_size e)) (by rw [size_push']; exact Nat.lt_succ_of_lt (Heap.lt_size e))]
  exact Heap.get?_push_of_some _ e
end
section
variable {X : Cx}
/-- sorted(t), t a tuple (or a list) of whole numbers -/
def rSortedIT (K : PySem.W.Frag) : List V → Hp → VK → Prop := fun vs H Q => ∃ (a : Addr) (ns : List Int), vs = [V.ref a] ∧ SqT K H a (ns.map V.int) ∧
  ∀ (ms : List Int) (p : Addr), ms.Perm ns → ms.Pairwise (· ≤ ·) → H p = none → Q (.ref p) (upd H p (.lst (ms.map V.int)))
theorem cr_sortedIT : CallR X (.builtin "sorted") (rSortedIT X.K) := by
  intro pins s σ H vs us Q I r h
  obtain ⟨a, ns, rfl, hs, q⟩ := h
  obtain ⟨its, rv, ⟨o, ho, hc, n, hd⟩, hz⟩ := I.tuple hs
  rw [Vals.ref1 r]
  have hi := rv.ints
  have hl : its.length ≤ sizeLine := by rw [← rv.length]; exact hz
  refine sorted_from SrtO.swo_int hl (fun R k => wpAny_collect_seq a (.inr rfl) ho hc hd (fun g kp => ?_) (by rw [List.size_toArray]; exact hl)) (fun h2 h1 tk a' _ => SrtO.ints_sortable hi h2) fun out g h' tk h1 h2 k1 k2 hat => ?_
  · exact k g s.toks kp
  · obtain ⟨e1, e2, e3⟩ := SrtO.ints_out hi h1 h2
    obtain ⟨n2, hat⟩ := hat
    have I1 : Inv X pins σ H { s with heap := g, toks := tk } := I.kept k1
    have hlen : ((out.map SrtO.iv).map V.int).length ≤ sizeLine := by
      rw [List.length_map, e2.length_eq]
      rw [List.length_map] at hz
      exact hz
    exact ⟨.ref _, _, I1.laid (t' := tk) (o := .lst ((out.map SrtO.iv).map V.int)) k2 (Nat.le_refl _) ⟨hlen, out, n2, vals_of_ints e1, hat⟩, rfl, q _ _ e2 e3 (I1.hok.fresh (Nat.le_refl _))⟩
/-- whole numbers as a key -/
def kI (x : List Int) : List Key := x.map Sum.inl
theorem kI_V (x : List Int) : (kI x).map kV = x.map V.int := by
  unfold kI
  rw [List.map_map]
  rfl
theorem kI_inj : ∀ {x y : List Int}, kI x = kI y → x = y
  | [], [], _ => rfl
  | [], _ :: _, h => by cases h
  | _ :: _, [], h => by cases h
  | a :: x, b :: y, h => by
    have h1 := (List.cons.inj h).1
    rw [kI_inj (List.cons.inj h).2, Sum.inl.inj h1]
/-- sorted(d), d a dict whose keys are tuples of n whole numbers each -/
def rSortDT (n : Nat) : List V → Hp → VK → Prop := fun vs H Q => ∃ (d : Addr) (ks : List (List Int × V)), vs = [V.ref d] ∧ H d = some (.dT (ks.map fun e => (kI e.1, e.2))) ∧ (∀ e ∈ ks, e.1.length = n) ∧ (1 ≤ n ∨ ks.length < 2) ∧
  ∀ (us bs : List Addr) (p : Addr), AllAt (RowAt H) bs (ks.map (·.1)) → us.Perm bs → us.Pairwise (fun x y => MdBase.before (rowOf H y) (rowOf H x) = false) → H p = none → Q (.ref p) (upd H p (.lst (us.map V.ref)))
theorem tups_sortable {prog : Program} {w : World} {A : Around} {s : Shared} {a : Addr} {vs : List Value} {d : Nat} {k : Value → List Int} (h2 : 2 ≤ vs.length) (d1 : 1 ≤ d) (na : ∀ b o, s.heap.get? b = some o → (∃ v ∈ vs, v = .ref b) → b ≠ a) (hk : ∀ v ∈ vs, TS.TupInts s.heap v (k v) ∧ (k v).length = d) : SrtO.SortableO prog w A s a vs (fun v u => MdBase.before (k v) (k u)) := by
  intro h' keep
  have kp : ∀ v ∈ vs, TS.TupInts h' v (k v) := fun v hv => by
    obtain ⟨x, xs, ex, ⟨o, ho, r⟩, ix⟩ := (hk v hv).1
    exact ⟨x, xs, ex, ⟨o, keep x o (na x o ho ⟨v, hv, ex⟩) ho, r⟩, ix⟩
  obtain ⟨fs, t1, t2, t3⟩ := tups_firsts d1 vs fun v hv => ⟨k v, kp v hv, (hk v hv).2⟩
  refine ⟨tuples' true, fun Q E hq => PySem.W.kat_kind (T := .type "int") t1 (by omega) (fun f hf => ?_) rfl hq, fun p q hp hq => ?_⟩
  · obtain ⟨n, t, rfl⟩ := t3 f hf
    exact PySem.W.Looks.now
  · obtain ⟨x, xs, ex, ⟨ox, hox, _, nx, dx⟩, ix⟩ := kp _ hp
    obtain ⟨y, ys, ey, ⟨oy, hoy, _, ny, dy⟩, iy⟩ := kp _ hq
    have l1 : xs.size = d := by rw [← Array.length_toList, ix.length, (hk _ hp).2]
    have l2 : ys.size = d := by rw [← Array.length_toList, iy.length, (hk _ hq).2]
    show wpAny (model prog w) A (keyLt' (tuples' true) p.1 q.1) (fun r s' => s' = _ ∧ r = MdBase.before (k p.1) (k q.1)) (fun _ _ => False) _
    generalize k p.1 = np at ix ⊢
    generalize k q.1 = nq at iy ⊢
    rw [ex, ey]
    refine PySem.W.kat_lt hox dx hoy dy ?_
    rw [l1, l2, decide_eq_false (Nat.lt_irrefl d)]
    exact kat_ints 0 ix iy (by rw [← ix.length, ← iy.length, Array.length_toList, Array.length_toList, l1, l2]) ⟨rfl, rfl⟩
theorem cr_sortDT (n : Nat) (hc : X.calm = true) : CallR X (.builtin "sorted") (rSortDT n) := by
  intro pins s σ H vs us Q I r h
  obtain ⟨d, ks, rfl, hd, hlen, h1n, q⟩ := h
  rw [Vals.ref1 r]
  obtain ⟨z, hs, xs, pr, o, es, ep, ho, hx, hdt, he, hn⟩ := (show ObjOk X.prog X.w H s.heap d (.dT (ks.map fun e => (kI e.1, e.2))) from I.hok d _ hd)
  have l1 : es.size = xs.length := size_of_entries he
  have l2 : (ks.map fun e => (kI e.1, e.2)).length = xs.length := Paired.length pr
  rw [List.length_map] at l2 z
  have hbs : (xs.map fun x => x.2.1).length = ks.length := by rw [List.length_map, ← l2]
  have hat : AllAt (RowAt H) (xs.map fun x => x.2.1) (ks.map (·.1)) := by
    refine ⟨by rw [hbs, List.length_map], fun i b y hb hy => ?_⟩
    rw [List.getElem?_map] at hb hy
    cases hxi : xs[i]? with
    | none => rw [hxi] at hb; cases hb
    | some x =>
      cases hki : ks[i]? with
      | none => rw [hki] at hy; cases hy
      | some e =>
        rw [hxi] at hb
        rw [hki] at hy
        cases hb
        cases hy
        have hk : (ks.map fun e => (kI e.1, e.2))[i]? = some (kI e.1, e.2) := by rw [List.getElem?_map, hki]; rfl
        obtain ⟨b', hb', e1, e2, _⟩ := paired_get pr hk
        rw [hxi] at hb'
        cases hb'
        show H x.2.1 = _
        rw [e2, kI_V]
  have eacc : ∀ acc : Array Value, ItemsOf (fun i v => ∃ en : DictEntry, es[i]? = some en ∧ v = en.key) acc es.size → acc.toList = (xs.map fun x => x.2.1).map Value.ref := fun acc it => by
    refine List.ext_getElem? fun j => ?_
    rw [List.map_map, List.getElem?_map]
    have hl : acc.toList.length = xs.length := by rw [Array.length_toList, it.1, l1]
    rcases Nat.lt_or_ge j xs.length with hj | hj
    · have hja : acc.toList[j]? = some (acc.toList[j]'(by omega)) := List.getElem?_eq_getElem (by omega)
      obtain ⟨en, h1, h2⟩ := it.2 j _ (by rw [← Array.getElem?_toList]; exact hja)
      have qe := entry_at he j
      rw [h1, List.getElem?_eq_getElem hj] at qe
      rw [hja, h2, Option.some.inj qe, List.getElem?_eq_getElem hj]
      rfl
    · rw [List.getElem?_eq_none (by omega), List.getElem?_eq_none hj]
      rfl
  generalize xs.map (fun x => x.2.1) = bs at hat hbs eacc
  let kv : Value → List Int := fun v => match v with | Value.ref t => rowOf H t | _ => []
  have hrow : ∀ b ∈ bs, RowAt H b (rowOf H b) ∧ (rowOf H b).length = n := fun b hb => by
    obtain ⟨i, hi⟩ := List.mem_iff_getElem?.mp hb
    obtain ⟨y, hy, hr⟩ := hat.get hi
    rw [hr.row]
    rw [List.getElem?_map] at hy
    cases hki : ks[i]? with
    | none => rw [hki] at hy; cases hy
    | some e =>
      rw [hki] at hy
      cases hy
      exact ⟨hr, hlen e (List.mem_of_getElem? hki)⟩
  have hz2 : (bs.map Value.ref).length ≤ sizeLine := by rw [List.length_map, hbs]; exact z
  refine sorted_from (vs := bs.map Value.ref) (before_swo kv) hz2 (fun R k => PySem.W.kdu_collect (A := X.A.in1) (kdl_raw hs hx hdt) (I.ok.hd hc) ho (by rw [l1, ← l2]; exact z) fun g tk acc kp it => ?_) (fun h2 h1 tk a kp => ?_) fun out g h' tk h1 h2 k1 k2 hp => ?_
  · rw [eacc acc it]
    exact k g tk kp
  · rw [List.length_map] at h2
    refine tups_sortable (d := n) (by rw [List.length_map]; exact h2) (h1n.resolve_right (by rw [← hbs]; omega)) (fun b o e ⟨v, hv, ev⟩ => ?_) fun v hv => ?_
    · subst ev
      obtain ⟨t, ht, et⟩ := List.mem_map.mp hv
      cases et
      obtain ⟨ob, hob⟩ : ∃ ob, s.heap.get? b = some ob := by
        obtain ⟨_, its, _, ob, e1, _⟩ := (show ObjOk X.prog X.w H s.heap b (.tup _) from I.hok b _ (hrow b ht).1)
        exact ⟨ob, e1⟩
      exact (kp b ob hob).1
    · obtain ⟨t, ht, rfl⟩ := List.mem_map.mp hv
      refine ⟨?_, (hrow t ht).2⟩
      obtain ⟨x, xs', ex, ⟨ob, hob, rest⟩, ix⟩ := tupI_raw I (SqT.of (hrow t ht).1)
      exact ⟨x, xs', ex, ⟨ob, (kp x ob hob).2, rest⟩, ix⟩
  · obtain ⟨n2, hp⟩ := hp
    have pm := h2.perm
    obtain ⟨ws, rfl⟩ := refs_out (out := out) fun u hu => by
      obtain ⟨t, _, e⟩ := List.mem_map.mp (pm.mem_iff.mp hu)
      exact ⟨t, e.symm⟩
    have pw : ws.Perm bs := perm_refs pm
    have ord : ws.Pairwise (fun x y => MdBase.before (rowOf H y) (rowOf H x) = false) := List.pairwise_map.mp h1
    have I1 : Inv X pins σ H { s with heap := g, toks := tk } := I.kept k1
    refine ⟨.ref _, _, I1.laid (t' := tk) (o := .lst (ws.map V.ref)) k2 (Nat.le_refl _) ⟨?_, _, n2, vals_refs' ws, hp⟩, rfl, q ws bs _ hat pw ord (I1.hok.fresh (Nat.le_refl _))⟩
    rw [List.length_map, pw.length_eq, hbs]
    exact z
end
end Jp
/-! d.values() and its sum, d a dict whose keys are tuples. -/
namespace Jp
open PySem PySem.Spec PyProof.Rows L2 PySem.Calls
section
variable {prog : Program} {w : World} {A : Around} {E : Value → Shared → Prop} {s : Shared} {d it : Addr} {es : Array DictEntry} {ep i : Nat}
theorem meets_vals (hd : (d == sysModules) = false) : MeetsIn prog w (Builtin.«dict.values» ⟨[.ref d], []⟩) (fun _ R s => DT.Raw s.heap d es ep ∧ R (.ok (.ret (.ref s.heap.objs.size))) { s with heap := s.heap.push { cls := .type "dict_values", data := .fields #[.ref d] } }) := by
  refine .of_wp fun A R s ⟨hm, h⟩ => ?_
  refine wpAny_bind (m := Builtin.Dict.noArgs _ _) ?_
  unfold Builtin.Dict.noArgs
  refine wpAny_bind (wpAny_notOrdered_dict hm.typeIs ?_)
  show wpAny _ _ (pure d) _ _ s
  refine wpAny_pure ?_
  show wpAny _ _ (Builtin.Dict.showsAll d >>= _) _ _ s
  unfold Builtin.Dict.showsAll
  rw [if_neg (by rw [hd]; exact Bool.false_ne_true)]
  exact wpAny_bind (wpAny_pure (wpAny_bind (wpAny_newObj_type (wpAny_pure ⟨_, rfl, h⟩))))
theorem iter_vals {v : Addr} {Q : Value → Shared → Prop} (hv : s.heap.IsValuesView v d) (hm : DT.Raw s.heap d es ep)
    (hQ : Q (.ref s.heap.objs.size) { s with heap := s.heap.push { cls := .type "dict_valueiterator", data := .fields #[.ref d, .int 0 0, .int es.size 0, .int ep 0] } }) : wpAny (model prog w) A (pyIter (.ref v)) Q E s := by
  obtain ⟨ov, hov, _, hdv⟩ := id hv
  obtain ⟨o, ho, _, hdat⟩ := hm
  refine wpAny_pyIter_slot hv.typeIs F.slot_dict_values_iter (wpAny_call_entry F.slot_dict_values_iter hv.typeIs F.entry_dict_values_iter ?_ (F.args_dict_values_iter_1 _))
  unfold Builtin.«dict_values.__iter__» Builtin.Dict_items.dictOf Builtin.Dict_items.newIterator
  refine wpAny_bind (wpAny_pure (wpAny_bind (wpAny_bind (wpAny_field hov hdv (x := .ref d) rfl (wpAny_pure (wpAny_bind (wpAny_bind (wpAny_dictEntries ho hdat (wpAny_bind (wpAny_dictEpoch ho hdat ?_))))))))))
  simp only [show Builtin.Dict_items.ownsTuple "dict_valueiterator" = false by decide, Bool.false_eq_true, if_false]
  refine wpAny_newObj_type (wpAny_pure ⟨_, rfl, "dict_valueiterator", _, ⟨_, Heap.get?_push_size _ rfl, rfl⟩, F.slot_dict_valueiterator_next.lookup, ?_⟩)
  simpa [rawInt] using hQ
theorem next_val {en : DictEntry} {Q : Option Value → Shared → Prop} (hit : s.heap.IsValIter it d i es.size ep) (hm : DT.Raw s.heap d es ep) (hx : es[i]? = some en)
    (hQ : ∀ h', h'.IsValIter it d (i + 1) es.size ep → Heap.SameBut it s.heap h' → Q (some en.val) { s with heap := h' }) : wpAny (model prog w) A (pyNext (.ref it)) Q E s := by
  obtain ⟨o, ho, hc, hd⟩ := id hit
  obtain ⟨od, hod, _, hdd⟩ := hm
  obtain ⟨hlt, hen⟩ := Array.getElem?_eq_some_iff.mp hx
  unfold pyNext
  refine wpAny_bind (wpAny_attempt (wpAny_callSpecial?_slot (name := Str.ofString "__next__") hit.typeIs F.slot_dict_valueiterator_next (wpAny_call_entry F.slot_dict_valueiterator_next hit.typeIs F.entry_dict_valueiterator_next ?_ (F.args_dict_valueiterator_next_1 _))))
  refine wpAny_bind (wpAny_pure (wpAny_bind (wpAny_bind ?_)))
  first | refine wpAny_bind (wpAny_typeNameOfWhole_valiter hit.typeIs (wpAny_pure (wpAny_bind (wpAny_fieldsOf ho hd ?_)))) | refine wpAny_bind (wpAny_typeNameOf_valiter hit.typeIs (wpAny_pure (wpAny_bind (wpAny_fieldsOf ho hd ?_))))
  simp only [show Builtin.Dict_items.ownsTuple "dict_valueiterator" = false by decide, Bool.false_eq_true, if_false]
  show wpAny _ _ (if (Value.ref d == Value.none) = true then _ else _) _ _ s
  rw [if_neg (show ¬ (Value.ref d == Value.none) = true from Bool.false_ne_true)]
  refine wpAny_bind (wpAny_pure (wpAny_bind (wpAny_dictEntries hod hdd ?_)))
  rw [if_neg (by simp)]
  refine wpAny_bind (wpAny_pure (wpAny_bind (wpAny_dictEpoch hod hdd ?_)))
  rw [if_neg (by simp)]
  refine wpAny_pure ?_
  simp only [show ¬ ((i : Int) < 0) by omega, if_false, Int.toNat_natCast, Array.getElem?_eq_getElem hlt]
  refine wpAny_bind ?_
  first | refine wpAny_bind (wpAny_typeNameOfWhole_valiter hit.typeIs (wpAny_pure (wpAny_bind (wpAny_isOneOf_valiter hit.typeIs ?_)))) | refine wpAny_bind (wpAny_typeNameOf_valiter hit.typeIs (wpAny_pure (wpAny_bind (wpAny_isOneOf_valiter hit.typeIs ?_))))
  show wpAny _ _ (setField (.ref it) 1 (rawInt ((i : Int) + 1)) >>= _) _ _ s
  have hit2 : (s.heap.update it (Obj.mapFields (·.setIfInBounds 1 (rawInt ((i : Int) + 1))))).IsValIter it d (i + 1) es.size ep :=
    ⟨_, Heap.get?_update_self _ ho (Obj.isFreed_of_fields (Obj.data_mapFields hd _)), (Obj.cls_mapFields ..).trans hc, by rw [Obj.data_mapFields hd]; simp [rawInt]⟩
  refine wpAny_bind (wpAny_setField ho hd (by simp) (wpAny_bind (wpAny_holding (wpAny_bind (wpAny_isOneOf_valiter (s := { s with heap := s.heap.update it (Obj.mapFields (·.setIfInBounds 1 (rawInt ((i : Int) + 1)))) }) hit2.typeIs (wpAny_bind (wpAny_isOneOf_valiter (s := { s with heap := s.heap.update it (Obj.mapFields (·.setIfInBounds 1 (rawInt ((i : Int) + 1)))) }) hit2.typeIs ?_)))))))
  show wpAny _ _ (pure es[i].val) _ _ _
  rw [hen]
  exact wpAny_pure (wpAny_pure ⟨_, rfl, wpAny_pure (hQ _ hit2 (Heap.SameBut.update ..))⟩)
theorem end_val {Q : Option Value → Shared → Prop} (hh : A.handled = none) (hit : s.heap.IsValIter it d es.size es.size ep) (hm : DT.Raw s.heap d es ep) (hQ : ∀ h', Heap.ExtBut it s.heap h' → Q none { s with heap := h' }) : wpAny (model prog w) A (pyNext (.ref it)) Q E s := by
  obtain ⟨o, ho, hc, hd⟩ := id hit
  obtain ⟨od, hod, _, hdd⟩ := hm
  unfold pyNext
  refine wpAny_bind (wpAny_attempt (wpAny_callSpecial?_slot (name := Str.ofString "__next__") hit.typeIs F.slot_dict_valueiterator_next (wpAny_call_entry F.slot_dict_valueiterator_next hit.typeIs F.entry_dict_valueiterator_next ?_ (F.args_dict_valueiterator_next_1 _))))
  refine wpAny_bind (wpAny_pure (wpAny_bind (wpAny_bind ?_)))
  first | refine wpAny_bind (wpAny_typeNameOfWhole_valiter hit.typeIs (wpAny_pure (wpAny_bind (wpAny_fieldsOf ho hd ?_)))) | refine wpAny_bind (wpAny_typeNameOf_valiter hit.typeIs (wpAny_pure (wpAny_bind (wpAny_fieldsOf ho hd ?_))))
  simp only [show Builtin.Dict_items.ownsTuple "dict_valueiterator" = false by decide, Bool.false_eq_true, if_false]
  show wpAny _ _ (if (Value.ref d == Value.none) = true then _ else _) _ _ s
  rw [if_neg (show ¬ (Value.ref d == Value.none) = true from Bool.false_ne_true)]
  refine wpAny_bind (wpAny_pure (wpAny_bind (wpAny_dictEntries hod hdd ?_)))
  rw [if_neg (by simp)]
  refine wpAny_bind (wpAny_pure (wpAny_bind (wpAny_dictEpoch hod hdd ?_)))
  rw [if_neg (by simp)]
  refine wpAny_pure ?_
  simp only [show ¬ ((es.size : Int) < 0) by omega, if_false, Int.toNat_natCast, Array.getElem?_eq_none (Nat.le_refl es.size)]
  refine wpAny_bind ?_
  first | refine wpAny_bind (wpAny_typeNameOfWhole_valiter hit.typeIs (wpAny_pure ?_)) | refine wpAny_bind (wpAny_typeNameOf_valiter hit.typeIs (wpAny_pure ?_))
  show wpAny _ _ (setField (.ref it) 0 .none >>= _) _ _ s
  refine wpAny_bind (wpAny_setField ho hd (by simp) ?_)
  show wpAny _ _ (newExc (.type "StopIteration") [] >>= _) _ _ _
  simp only [newExc, newTuple]
  refine wpAny_bind (wpAny_bind (wpAny_newObj_type (wpAny_bind (m := firstArgMember _ _) (wpAny_of_eq (a := Value.none) (by first | rfl | (simp only [firstArgMember]; rfl)) (wpAny_newObj_type ?_ (by size_fits)))) (by size_fits)))
  simp only [raiseNew]
  refine wpAny_bind (wpAny_handled ?_)
  rw [show A.in1.handled = none from hh]
  refine wpAny_bind (wpAny_pure (wpAny_throw ?_))
  refine wpAny_bind (wpAny_isInstance (T := "StopIteration") (b := true) ⟨_, Heap.get?_push_size _ rfl, rfl⟩ isSubtype_stop ?_)
  exact wpAny_pure (hQ _ (((Heap.SameBut.update ..).extBut.push _).push _))
theorem walks_vals (hh : A.handled = none) (hne : d ≠ it) : Walks prog w A it [it, d] [it] es.size (fun i v => ∃ en : DictEntry, es[i]? = some en ∧ v = en.val) (fun i h => h.IsValIter it d i es.size ep ∧ DT.Raw h d es ep) where
  sub := fun b hb => by
    rw [List.mem_singleton.mp hb]
    exact List.mem_cons_self
  frame := fun _ _ _ st hk => ⟨st.1.at fun o e => hk it (by simp) o e, st.2.at' fun o e => hk d (by simp) o e⟩
  item := fun i s Q E hi st hQ => next_val st.1 st.2 (Array.getElem?_eq_getElem hi) fun h' hit sb => hQ _ h' s.toks ⟨_, Array.getElem?_eq_getElem hi, rfl⟩ ⟨hit, st.2.at' fun o e => (sb.2 d hne).trans e⟩ fun b o hb e => (sb.2 b fun z => hb (by rw [z]; exact List.mem_cons_self)).trans e
  done := fun s Q E st hQ => end_val hh st.1 st.2 fun h' eb => hQ h' s.toks fun b o hb e => eb b o (fun z => hb (by rw [z]; exact List.mem_cons_self)) e
  self := fun _ _ _ _ st hQ => wpAny_pyIter_valiter st.1 hQ
end
/-- the view d.values() at p -/
def valuesO (p d : Addr) : HO := .ext fun h => h.IsValuesView p d
theorem valuesO_ok {P : Program} {w : World} {H : Hp} {h : Heap} {p d : Addr} (e : h.get? p = some { cls := .type "dict_values", data := .fields #[.ref d] }) : ObjOk P w H h p (valuesO p d) :=
  ⟨⟨_, e, rfl, rfl⟩, ⟨_, e⟩, fun _ _ x k => let ⟨o, ho, r⟩ := x; ⟨o, k o ho, r⟩⟩
section
variable {X : Cx}
def rValuesT : V → List V → Hp → VK → Prop := fun x xs H Q => ∃ (a : Addr) (kvs : List (List L2.Key × V)), x = .ref a ∧ xs = [] ∧ H a = some (.dT kvs) ∧ ∀ p, H p = none → Q (.ref p) (upd H p (valuesO p a))
theorem mt_valuesT : MtR X "dict.values" rValuesT := by
  intro pins s σ H x xs v us Q I rx rxs h
  obtain ⟨a, kvs, rfl, rfl, ha, q⟩ := h
  cases rx
  cases rxs
  obtain ⟨_, hd, _, _, o, es, ep, ho, hx, hdat, _⟩ := dt_of I.hok ha
  have fresh : H s.heap.objs.size = none := I.hok.fresh (Nat.le_refl _)
  have raw : DT.Raw s.heap a es ep := ⟨o, ho, hx, hdat⟩
  refine call_meetsIn F.slot_dict_values raw.typeIs F.entry_dict_values (F.args_dict_values_1 _) (meets_vals (es := es) (ep := ep) hd) ⟨raw, ?_⟩
  exact ⟨.ref s.heap.objs.size, _, I.laid (t' := s.toks) (o := valuesO s.heap.objs.size a) (fun b u e => Heap.get?_push_of_some _ e) (Nat.le_refl _) (valuesO_ok (Heap.get?_push_size _ rfl)), rfl, q _ fresh⟩
/-- sum(d.values()): whole numbers -/
def rSumV : List V → Hp → VK → Prop := fun xs H Q => ∃ (p a : Addr) (kvs : List (List L2.Key × V)) (ns : List Int), xs = [.ref p] ∧ H p = some (valuesO p a) ∧ H a = some (.dT kvs) ∧ kvs.map (·.2) = ns.map V.int ∧ Q (.int ns.sum) H
theorem preSum_list : ∀ (ns : List Int), preSum (fun i => ns.getD i 0) ns.length = ns.sum := by
  have key : ∀ (f : Nat → Int) (n : Nat), preSum f (n + 1) = f 0 + preSum (fun i => f (i + 1)) n := PySem.W.kdu_shift
  intro ns
  induction ns with
  | nil => rfl
  | cons x ns ih =>
    rw [List.length_cons, key, List.sum_cons, ← ih]
    rfl
theorem cr_sumV (hc : X.calm = true) : CallR X (.builtin "sum") rSumV := by
  intro pins s σ H xs us Q I r h
  obtain ⟨p, a, kvs, ns, rfl, hp, ha, hns, q⟩ := h
  rw [Vals.ref1 r]
  obtain ⟨z, hd, ks, rel, o, es, ep, ho, hx, hdat, he, _⟩ := (show ObjOk X.prog X.w H s.heap a (.dT kvs) from I.hok a _ ha)
  obtain ⟨hv, _, _⟩ := I.hok p _ hp
  have raw : DT.Raw s.heap a es ep := ⟨o, ho, hx, hdat⟩
  have l1 : es.size = ks.length := size_of_entries he
  have l2 : kvs.length = ks.length := Paired.length rel
  have l3 : kvs.length = ns.length := by
    have := congrArg List.length hns
    rwa [List.length_map, List.length_map] at this
  refine call_sum_walkAnyS (iter_vals hv raw ?_)
  have hlt : a < s.heap.objs.size := Heap.lt_size ho
  refine ⟨s.heap.objs.size, _, _, _, es.size, _, _, fun i => ns.getD i 0, rfl, (walks_vals (prog := X.prog) (w := X.w) (A := X.A.in1) (it := s.heap.objs.size) (es := es) (ep := ep) (d := a) (I.ok.hd hc) (Nat.ne_of_lt hlt)).toS, ⟨⟨_, Heap.get?_push_size _ rfl, rfl, rfl⟩, raw.push _⟩, fun b hb => ?_, fun i v hv => ?_, fun s' t' hm => ?_⟩
  · show b < (s.heap.push _).objs.size
    rw [size_push']
    rcases List.mem_cons.mp hb with e | hb
    · rw [e]; exact Nat.lt_succ_self _
    · rw [List.mem_singleton.mp hb]; exact Nat.lt_succ_of_lt hlt
  · obtain ⟨en, h1, rfl⟩ := hv
    have hi : i < kvs.length := by rw [l2, ← l1]; exact (Array.getElem?_eq_some_iff.mp h1).1
    obtain ⟨b, hb, _, _, e3⟩ := paired_get rel (List.getElem?_eq_getElem hi)
    have qe := entry_at he i
    rw [h1, hb] at qe
    have e4 : en.val = b.2.2 := by rw [Option.some.inj qe]; rfl
    have e5 : kvs[i].2 = V.int (ns.getD i 0) := by
      have h2 : (kvs.map (·.2))[i]? = some kvs[i].2 := by rw [List.getElem?_map, List.getElem?_eq_getElem hi]; rfl
      rw [hns, List.getElem?_map, List.getElem?_eq_getElem (by omega)] at h2
      rw [← Option.some.inj h2, List.getD_eq_getElem?_getD, List.getElem?_eq_getElem (by omega)]
      rfl
    rw [e5] at e3
    obtain ⟨t, e3⟩ := e3
    exact ⟨t, by rw [e4, e3]⟩
  · have hk : ∀ b o, s.heap.get? b = some o → s'.heap.get? b = some o := fun b o e => hm.heap b o (fun hI => Nat.lt_irrefl _ (List.mem_singleton.mp hI ▸ Heap.lt_size e)) (Heap.get?_push_of_some _ e)
    rw [Moved.eq_with hm, show es.size = ns.length by omega, preSum_list]
    exact ⟨.int ns.sum, H, I.kept hk, ⟨t', rfl⟩, q⟩
end
end Jp
/-! Dicts whose keys are tuples: walked by items, setdefault, a written one of one entry. enumerate(xs, start=k). -/
namespace Jp
open PySem PySem.Spec PyProof.Rows L2
section
variable {X : Cx} {pins : List (Addr × Obj)} {σ : L2.St} {H : Hp} {s : Shared} {d : Addr} {o : Obj}
/-- a locked dict: its entries, key and value -/
theorem frzT2 {kvs : List (List Key × V)} (I : Inv X pins σ H s) (h : H d = some (.frz o (.dT kvs))) :
    (d == sysModules) = false ∧ ∃ (es : Array DictEntry) (ep : Nat), DT.Raw s.heap d es ep ∧ o.data = .dict es ep ∧ es.size = kvs.length ∧
      ∀ (i : Nat) (k : List Key) (v : V), kvs[i]? = some (k, v) → ∃ (en : DictEntry) (q : Addr), es[i]? = some en ∧ en.key = .ref q ∧ H q = some (.tup (k.map kV)) ∧ RelV v en.val := by
  obtain ⟨hd, _, hs, xs, pr, o', es, ep, ho, hx, hdt, he, _⟩ := I.hok d _ h
  rw [hd] at ho
  cases ho
  have l1 : es.size = xs.length := size_of_entries he
  have l2 : kvs.length = xs.length := Paired.length pr
  refine ⟨hs, es, ep, ⟨o, hd, hx, hdt⟩, hdt, by omega, fun i k v e => ?_⟩
  obtain ⟨b, hb, e1, e2, e3⟩ := paired_get pr e
  have q := entry_at he i
  rw [hb] at q
  exact ⟨_, b.2.1, q, rfl, e2, e3⟩
end
/-- the pairs of a locked dict with tuple keys, each a new tuple of the key's own tuple and the value -/
def Itt (d : Addr) (o : Obj) (kvs : List (List Key × V)) : It :=
  ⟨fun i H => H d = some (.frz o (.dT kvs)) ∧ i < kvs.length, fun i H x H' => ∃ T k v q, kvs[i]? = some (k, v) ∧ x = .ref T ∧ H T = none ∧ H q = some (.tup (k.map kV)) ∧ H' = upd H T (.tup [.ref q, v]), fun i H => H d = some (.frz o (.dT kvs)) ∧ kvs.length ≤ i⟩
theorem turn_itemsT {P : Program} {w : World} {K : PySem.W.Frag} {d : Addr} {o : Obj} {es : Array DictEntry} {ep : Nat} {kvs : List (List Key × V)} {elts : List Expr} {kk : Nat} {tpos : Pos} (it : Addr) (hod : o.data = .dict es ep) :
    Turn P w K (.Tuple elts kk tpos) (Itt d o kvs) [it] it (fun i h => ∃ ok ov, IsItemIter h it d i kvs.length ep ok ov) where
  mem := List.mem_cons_self
  obj := fun i h ⟨ok, ov, st⟩ b hb => by
    rw [List.mem_singleton.mp hb]
    exact ⟨_, st, fun v z => nomatch z⟩
  keep := fun i h h' ⟨ok, ov, st⟩ k => ⟨ok, ov, k it List.mem_cons_self _ st⟩
  item := by
    intro X hP hw hK hc i pins s σ H E I hf st hg
    subst hP hw hK
    obtain ⟨hd, hi⟩ := hg
    obtain ⟨hs, es2, ep2, raw, hdt, hsz, ent⟩ := frzT2 I hd
    obtain ⟨rfl, rfl⟩ := dict_ep hod hdt
    obtain ⟨en, q, hen, hkey, hq, rv⟩ := ent i kvs[i].1 kvs[i].2 (List.getElem?_eq_getElem hi)
    obtain ⟨ok, ov, he⟩ := st
    rw [← hsz] at he
    obtain ⟨hie, rfl⟩ := Array.getElem?_eq_some_iff.mp hen
    have hlt : it < s.heap.objs.size := Heap.lt_size he
    refine DT.nextI he raw hie fun h1 ho hT hz hk => ⟨_, rfl, wpAny_letOwnedTupleGo_items (s := { s with heap := h1 }) ho fun h2 he2 sb => ?_⟩
    rw [hkey] at hT
    have hT2 := (sb.2 _ (Nat.ne_of_gt hlt)).trans hT
    have new : ObjOk X.prog X.w (upd H s.heap.objs.size (.tup [.ref q, kvs[i].2])) h2 s.heap.objs.size (.tup [.ref q, kvs[i].2]) :=
      ⟨by show 2 ≤ sizeLine; decide, [_, _], .cons rfl (.cons rv .nil), ⟨_, hT2, rfl, _, rfl⟩⟩
    have I1 : Inv X pins σ (upd H s.heap.objs.size (.tup [.ref q, kvs[i].2])) { s with heap := h2 } :=
      I.turnedNew (t' := s.toks) (ch := [it]) (fun b ob hb e => (sb.2 b (by simpa using hb)).trans (hk b ob (by simpa using hb) e)) hf (Nat.le_refl _) new
    refine ⟨.ref s.heap.objs.size, _, I1, rfl, ⟨_, _, _, q, List.getElem?_eq_getElem hi, rfl, I.hok.fresh (Nat.le_refl _), hq, rfl⟩, ⟨_, _, by rw [← hsz]; exact he2⟩, fun b hb => ?_⟩
    rw [List.mem_singleton.mp hb, upd_ne (Nat.ne_of_lt hlt)]
    exact (hf it List.mem_cons_self).1
  done := by
    intro X hP hw hK hc i pins s σ H E I hf st hg
    subst hP hw hK
    obtain ⟨hd, hi⟩ := hg
    obtain ⟨f0, f1, f2, f3, f4, f5⟩ := hf it List.mem_cons_self
    obtain ⟨hs, es2, ep2, raw, hdt, hsz, ent⟩ := frzT2 I hd
    obtain ⟨rfl, rfl⟩ := dict_ep hod hdt
    obtain ⟨ok, ov, he⟩ := st
    rw [← hsz] at he
    exact DT.endI (I.ok.hd hc) he raw (by omega) fun h1 eb => ⟨rfl, I.turned (t' := s.toks) (fun b ob hb e => eb b ob hb e) f0 f1 f3 f4 f5⟩
  self := fun A i s Q E st h => let ⟨_, _, e⟩ := st; PySem.W.kcp_self e h
def iItemsT (td : TE) : TI := fun σ H R => td σ H fun x H1 => ∃ d o kvs, x = .ref d ∧ H1 d = some (.frz o (.dT kvs)) ∧ R (Itt d o kvs) H1
theorem walk_itemsT {d : Addr} {o : Obj} {kvs : List (List Key × V)} : Walk (Itt d o kvs) kvs.length (fun H => H d = some (.frz o (.dT kvs))) (fun i H x H' => ∃ T k v q, kvs[i]? = some (k, v) ∧ x = .ref T ∧ H T = none ∧ H q = some (.tup (k.map kV)) ∧ H' = upd H T (.tup [.ref q, v])) :=
  ⟨fun _ _ hi q => ⟨q, hi⟩, fun _ q => ⟨q, Nat.le_refl _⟩, fun _ _ _ _ _ _ y => y⟩
section
variable {X : Cx} {e o f : Expr} {td ty tx : TE} {apos cpos : Pos}
theorem pi_itemsT {elts : List Expr} {kk : Nat} {tpos : Pos} (he : PE X e td) (hbase : attributeBase e "items" X.env (eval e X.env) = eval e X.env := by rfl) (hline : (apos.endLine == cpos.line) = true := by rfl) :
    PI X (.Tuple elts kk tpos) (.Call (.Attribute e "items" apos) [] [] cpos) (iItemsT td) := by
  refine ⟨fun pins s σ H R I h => ?_⟩
  refine wpAny_Call_method (T := "dict") (id := "dict.items") hbase rfl hline F.plainAttrs_dict F.slot_dict_items F.type_dict_items (thn (he.run pins s σ H _ I h) fun u s1 ⟨x, H1, I1, rx, d, ob, kvs, ex, hd, q⟩ => ?_)
  subst ex
  obtain rfl : u = Value.ref d := rx
  obtain ⟨hs, es, ep, raw, hdt, hsz, _⟩ := frzT2 I1 hd
  obtain ⟨o1, g1, x1, d1⟩ := id raw
  refine ⟨raw.typeIs, fun a e => by cases e; exact ⟨o1, g1, x1.2.1⟩, ?_⟩
  have I2 : Inv X pins σ H1 { s1 with heap := s1.heap.push { cls := .type "dict_items", data := .fields #[.ref d] } } := I1.kept (t' := s1.toks) fun b ob q => Heap.get?_push_of_some _ q
  show wpAny _ _ (callWith cpos (.builtin "dict.items") [.ref d] [] []) _ X.xe s1
  refine method_meetsIn F.slot_dict_items F.entry_dict_items rfl (PySem.evalArgs_none ⟨rfl, raw.typeIs, F.args_dict_items_1 _, _, DT.meetsItems (es := es) (ep := ep) hs, raw, ?_⟩)
  refine DT.iterI (d := d) (es := es) (ep := ep) ⟨_, Heap.get?_push_size _ rfl, rfl, rfl⟩ (raw.push _) (pi_one (tk := s1.toks) I2 _ (turn_itemsT _ hdt) ⟨.none, .none, ?_⟩ q)
  rw [← hsz]
  exact Heap.get?_push_size _ rfl
/-- d.setdefault(y, z), the keys tuples -/
def tDSetdT (td ty tx : TE) : TE := fun σ H Q => td σ H fun x H1 => ∃ a, x = .ref a ∧ IsD H1 a ∧ ty σ H1 fun y H2 => tx σ H2 fun z H3 => ∃ (kvs : List (List Key × V)) (k : List Key) (b : Addr), H3 a = some (.dT kvs) ∧ y = .ref b ∧ H3 b = some (.tup (k.map kV)) ∧ kvs.length < sizeLine ∧
  (∀ v, valV kvs k = some v → Q v H3) ∧ (valV kvs k = none → Q z (upd H3 a (.dT (putK kvs k z))))
theorem pe_dsetdT (hu : X.A.units + 1 < cLine) (ho : PE X o td) (he : PE X e ty) (hf : PE X f tx) (m : M2 X o "setdefault" apos e f cpos) : PE X (.Call (.Attribute o "setdefault" apos) [e, f] [] cpos) (tDSetdT td ty tx) := by
  refine ⟨fun pins s σ H Q I h => ?_⟩
  refine wpAny_Call_method m.base m.few m.line F.plainAttrs_dict F.slot_dict_setdefault F.type_dict_setdefault (thn (ho.run pins s σ H _ I h) fun u s1 ⟨x, H1, I1, rx, a, ex, d, q1⟩ => ?_)
  subst ex
  obtain rfl : u = Value.ref a := rx
  obtain ⟨t1, t2, _⟩ := isD_at I1 d
  refine ⟨t1, t2, ?_⟩
  rw [m.trees]
  refine Calls.callWith_builtin rfl (Calls.evalArgs_plain (Calls.spliced_cons (thn (he.run pins s1 σ H1 _ I1 q1) fun iv s2 ⟨y, H2, I2, ry, q2⟩ =>
    Calls.spliced_cons (thn (hf.run pins s2 σ H2 _ I2 q2) fun fv s3 ⟨z, H3, I3, rz, kvs, k, b, ea, ey, eb, hl, q3, q4⟩ => Calls.spliced_nil ?_))))
  subst ey
  cases (show iv = Value.ref b from ry)
  obtain ⟨zl, hd, xs, rel, dd⟩ := dt_of I3.hok ea
  have hz : xs.length ≤ sizeLine := by rw [← Paired.length rel]; exact zl
  have val := rel.val k
  refine call_setdefault_heap (tupleKind_room_in1 hu) (key_of I3.hok eb) hd dd (fun p hp => ?_) (fun hn h' dd2 hs => ?_) hz
  · rw [hp] at val
    cases q0 : valV kvs k with
    | none => rw [q0] at val; exact False.elim val
    | some v0 =>
      rw [q0] at val
      exact ⟨v0, H3, I3.tok _, val, q3 v0 q0⟩
  · rw [hn] at val
    cases q0 : valV kvs k with
    | some v0 => rw [q0] at val; exact False.elim val
    | none =>
      have hl2 : (putK kvs k z).length ≤ sizeLine := Nat.le_trans (length_putK kvs k z) hl
      obtain ⟨q, es, ep, hq, h2, h3, h4, _, h5⟩ := dd2
      have I4 := d_write (t' := s3.toks + (tupleKind (mixKind X.prog X.w)).draws k) (ob := .dT (putK kvs k z)) I3 (by rw [ea]; exact True.intro) hs ⟨q, hq⟩ ⟨hl2, hd, _, (rel.put k eb rz).keeps fun c ys ec => (by
        rw [upd_ne (ne_of ec ea (fun z => nomatch z))]
        exact ec), q, es, ep, hq, h2, h3, h4, h5⟩
      exact ⟨z, _, I4, rz, q4 q0⟩
end
end Jp
/-! A written dict of one entry whose key is a tuple; enumerate(xs, start=k). -/
namespace Jp
open PySem PySem.Spec PyProof.Rows L2
section
variable {X : Cx}
/-- {k: v}, the key a tuple -/
def tDisp1T (tk tv : TE) : TE := fun σ H Q => ∀ p, H p = none → tk σ (upd H p (.dT [])) fun y H1 => tv σ H1 fun v H2 => H2 p = some (.dT []) ∧ ∃ b k, y = .ref b ∧ H2 b = some (.tup (k.map kV)) ∧ Q (.ref p) (upd H2 p (.dT [(k, v)]))
theorem room_tup {A : Around} {P : Program} {w : World} (hu : A.units < cLine) : (tupleKind (mixKind P w)).room A := hu
theorem pe_disp1T {ke ve : Expr} {tk tv : TE} {pos : Pos} (hu : X.A.units < cLine) (hk : PE X ke tk) (hv : PE X ve tv)
    (hs : (evalEachOpt [some ke] X.env).zip ((evalEach [ve] X.env).map fun v => do let x ← v; standAt pos; pure x) = [(some (eval ke X.env), do let x ← eval ve X.env; standAt pos; pure x)] := by rfl) : PE X (.Dict [some ke] [ve] pos) (tDisp1T tk tv) := by
  refine ⟨fun pins s σ H Q I q => ?_⟩
  have fresh := I.hok.fresh (Nat.le_refl s.heap.objs.size)
  have I1 := I.laid (a := s.heap.objs.size) (o := .dT []) (h' := s.heap.push { cls := .type "dict", data := .dict #[] }) (t' := s.toks) (fun _ _ q => Heap.get?_push_of_some _ q) (Nat.le_refl _) (dt_empty s.heap I.big)
  have e0 : [(some (eval ke X.env), (do let x ← eval ve X.env; standAt pos; pure x : Sem Value))] = [(eval ke X.env, (do let x ← eval ve X.env; standAt pos; pure x : Sem Value))].map fun p => (some p.1, p.2) := rfl
  rw [arm_eval_Dict, hs, e0, dictDisplay_pairs [(eval ke X.env, (do let x ← eval ve X.env; standAt pos; pure x : Sem Value))] (List.cons_ne_nil _ _) (show 1 < 17 by decide)]
  refine wpAny_bind (wpAny_standAt (wpAny_bind (wpAny_subDictH (knd := tupleKind (mixKind X.prog X.w)) (Q := fun d s' => wpAny (model X.prog X.w) X.A (pure (Value.ref d)) (EP X pins σ Q) X.xe s') (room_tup hu) (show 1 ≤ 15 by decide) ?_)))
  refine evalPairs_cons (thn (hk.run pins _ σ _ _ I1 (q _ fresh)) fun kv s1 ⟨y, H1, J1, ry, q1⟩ => wpAny_bind (thn (hv.run pins s1 σ H1 _ J1 q1) fun vv s2 ⟨v, H2, I2, rv, e, b, k, ey, eb, q3⟩ => wpAny_bind (wpAny_standAt (wpAny_pure (evalPairs_nil ?_)))))
  subst ey
  cases (show kv = Value.ref b from ry)
  obtain ⟨_, hd, xs, rel0, dd⟩ := dt_of I2.hok e
  cases rel0
  refine ⟨[(k, b, vv)], ⟨rfl, rfl, key_of I2.hok eb, trivial⟩, dd, fun h' tk dd2 sb => wpAny_pure ⟨.ref s.heap.objs.size, _, ?_, rfl, q3⟩⟩
  obtain ⟨ob, es, ep, hq, h2, h3, h4, _, h5⟩ := dd2
  refine d_write I2 (by rw [e]; exact True.intro) sb ⟨ob, hq⟩ ⟨(by show 1 ≤ sizeLine; decide), hd, [(k, b, vv)], .cons ⟨rfl, ?_, rv⟩ .nil, ob, es, ep, hq, h2, h3, h4, h5⟩
  rw [upd_ne (ne_of eb e (fun z => nomatch z))]
  exact eb
end
/-- the list at a, each item in a new pair with its number, which begins at k -/
def Ites (K : PySem.W.Frag) (a : Addr) (k : Int) : It :=
  ⟨fun i H => ∃ (xs : List V) (x : V), SqL K H a xs ∧ xs[i]? = some x, fun i H v H' => ∃ T x, v = .ref T ∧ H T = none ∧ H' = upd H T (.tup [.int (k + (i : Int)), x]) ∧ ∀ xs, SqL K H a xs → xs[i]? = some x, fun i H => ∃ xs : List V, SqL K H a xs ∧ xs.length = i⟩
theorem walk_enumS {K : PySem.W.Frag} {a : Addr} {k : Int} {xs : List V} : Walk (Ites K a k) xs.length (fun H => SqL K H a xs) (YPair (fun i => some (.int (k + (i : Int)))) (fun i => xs[i]?)) := by
  refine ⟨fun i _ hi q => ⟨xs, xs[i], q, List.getElem?_eq_getElem hi⟩, fun _ q => ⟨xs, q, rfl⟩, fun i H v H' _ q y => ?_⟩
  obtain ⟨T, x, h1, h2, h3, h4⟩ := y
  exact ⟨T, _, x, h1, h2, h3, rfl, h4 xs q⟩
theorem turn_enumS {P : Program} {w : World} {K : PySem.W.Frag} {elts : List Expr} {kk : Nat} {tpos : Pos} (a e it : Addr) (k : Int) :
    Turn P w K (.Tuple elts kk tpos) (Ites K a k) [e, it] e (fun i h => (∃ old, IsEnum h e it (k + (i : Int)) old) ∧ h.IsListIter it a i ∧ e ≠ it ∧ e ≠ a ∧ a ≠ it) where
  mem := List.mem_cons_self
  obj := fun i h ⟨⟨old, he⟩, ⟨o, ho, _, hd⟩, _⟩ b hb => by
    rcases List.mem_cons.mp hb with rfl | hb
    · exact ⟨_, he, fun v q => nomatch q⟩
    · rw [List.mem_singleton.mp hb]
      exact ⟨o, ho, fun v q => by rw [hd] at q; cases q⟩
  keep := fun i h h' ⟨⟨old, he⟩, hi, r⟩ kp => ⟨⟨old, kp e List.mem_cons_self _ he⟩, hi.at fun o q => kp it (List.mem_cons_of_mem _ List.mem_cons_self) o q, r⟩
  item := by
    intro X hP hw hK hc i pins s σ H E I hf st hg
    subst hP hw hK
    obtain ⟨⟨old, he⟩, hit, n1, n2, n3⟩ := st
    obtain ⟨xs, x, hq, hx⟩ := hg
    obtain ⟨its, rv, pl, hz⟩ := I.list hq
    have hi : i < its.toArray.size := by rw [List.size_toArray, ← rv.length]; exact (List.getElem?_eq_some_iff.mp hx).1
    have hel : e < s.heap.objs.size := Heap.lt_size he
    have hil : it < s.heap.objs.size := let ⟨_, q, _⟩ := hit; Heap.lt_size q
    have D := Draws.list (prog := X.prog) (w := X.w) (A := X.A.in1) (I.ok.hd hc) it a n3 its.toArray
    refine wpAny_pyNext_enum_itemC D he ⟨hit, pl.isList⟩ hi n1 (by simp [n1, n2]) fun u h1 tk hP ho hst hT hsz hk => ⟨_, rfl, wpAny_letOwnedTupleGo_enum (s := { s with heap := h1, toks := tk + 1 }) ho fun h2 he2 sb => ?_⟩
    have ru : RelV x u := by
      obtain ⟨u2, hu2, r2⟩ := rv.get hx
      have : its[i]? = some u := by simpa using hP
      rw [hu2] at this
      cases this
      exact r2
    have hT2 := (sb.2 _ (Nat.ne_of_gt hel)).trans hT
    have new : ObjOk X.prog X.w (upd H s.heap.objs.size (.tup [.int (k + (i : Int)), x])) h2 s.heap.objs.size (.tup [.int (k + (i : Int)), x]) :=
      ⟨by show 2 ≤ sizeLine; decide, [_, u], .cons ⟨_, rfl⟩ (.cons ru .nil), ⟨_, hT2, rfl, _, rfl⟩⟩
    have I1 : Inv X pins σ (upd H s.heap.objs.size (.tup [.int (k + (i : Int)), x])) { s with heap := h2, toks := tk + 1 } :=
      I.turnedNew (ch := [e, it]) (fun b ob hb q => (sb.2 b (fun z => hb (by simp [z]))).trans (hk b ob (fun z => hb (by simp [z])) (fun z => hb (by simp [z])) q)) hf (Nat.le_refl _) new
    refine ⟨.ref s.heap.objs.size, _, I1, rfl, ⟨_, x, rfl, I.hok.fresh (Nat.le_refl _), rfl, fun ys hy => by rw [I.list_inj hy hq]; exact hx⟩, ⟨⟨u, ?_⟩, hst.1.at fun o q => (sb.2 it n1.symm).trans q, n1, n2, n3⟩, fun b hb => ?_⟩
    · have e1 : k + ((i + 1 : Nat) : Int) = k + (i : Int) + 1 := by omega
      rw [e1]
      exact he2
    · have hb2 : b < s.heap.objs.size := by
        rcases List.mem_cons.mp hb with rfl | hb
        · exact hel
        · rw [List.mem_singleton.mp hb]
          exact hil
      rw [upd_ne (Nat.ne_of_lt hb2)]
      exact (hf b hb).1
  done := by
    intro X hP hw hK hc i pins s σ H E I hf st hg
    subst hP hw hK
    obtain ⟨⟨old, he⟩, hit, n1, n2, n3⟩ := st
    obtain ⟨xs, hq, rfl⟩ := hg
    obtain ⟨its, rv, pl, hz⟩ := I.list hq
    obtain ⟨f0, f1, f2, f3, f4, f5⟩ := hf it (List.mem_cons_of_mem _ List.mem_cons_self)
    have D := Draws.list (prog := X.prog) (w := X.w) (A := X.A.in1) (I.ok.hd hc) it a n3 its.toArray
    exact wpAny_pyNext_enum_endD D he ⟨by rw [List.size_toArray, ← rv.length]; exact hit, pl.isList⟩ fun h1 eb => ⟨rfl, I.turned (t' := s.toks) (fun b o hb q => eb b o hb q) f0 f1 f3 f4 f5⟩
  self := fun A i s Q E ⟨⟨_, he⟩, _⟩ h => wpAny_pyIter_enum he h
theorem callWith_typeKw {M : Model} {A : Around} {E : Value → Shared → Prop} {s : Shared} {pos : Pos} {T : String} {args : List (Bool × Sem Value)} {kws : List (Option Str × Sem Value)} {Q : Value → Shared → Prop} (h1 : args.any (·.1) = false) (h2 : kws.any (·.1.isNone) = false)
    (h : wpAny M A (evalArgs (.type T) true args kws) (fun a s₁ => wpAny M A (call (.type T) a.pos a.kw) Q E s₁) E s) : wpAny M A (callWith pos (.type T) [] args kws) Q E s := by
  unfold callWith
  refine wpAny_bind (wpAny_holding (wpAny_mono h (fun a s1 q => wpAny_bind (wpAny_standAt ?_)) fun _ _ x => x))
  simp only [h1, h2, Bool.or_false]
  exact wpAny_bind (wpAny_pure (wpAny_bind (wpAny_mono q (fun r s2 hr => wpAny_bind (wpAny_holding (wpAny_point (wpAny_pure hr)))) fun _ _ x => x)))
def iEnumS (K : PySem.W.Frag) (k : Int) (te : TE) : TI := fun σ H R => te σ H fun v H1 => ∃ a xs, v = .ref a ∧ SqL K H1 a xs ∧ R (Ites K a k) H1
theorem pi_enumS {X : Cx} {e ek : Expr} {te : TE} {k : Int} {p pos tpos kpos : Pos} {elts : List Expr} {kk : Nat} (hg : Gl X "enumerate") (hm : X.mg "enumerate" = none) (he : PE X e te) (hk : PE X ek (tC (.int k))) (k0 : -(2 ^ 63) ≤ k) (k1 : k < 2 ^ 63)
    (hs : backTo pos (starEach [e] X.env) = [(false, eval e X.env)] := by rfl) (hkw : (backToKw pos (keywordEach [⟨some (Str.ofString "start"), ek, kpos⟩] X.env)).filterMap (·.1) = [Str.ofString "start"] := by rfl) (hall : (backToKw pos (keywordEach [⟨some (Str.ofString "start"), ek, kpos⟩] X.env)).all (·.1.isSome) = true := by rfl)
    (hno : (backToKw pos (keywordEach [⟨some (Str.ofString "start"), ek, kpos⟩] X.env)).any (·.1.isNone) = false := by rfl) :
    PI X (.Tuple elts kk tpos) (.Call (.Name "enumerate" p) [e] [⟨some (Str.ofString "start"), ek, kpos⟩] pos) (iEnumS X.K k te) := by
  refine ⟨fun pins s σ H R I h => ?_⟩
  refine wpAny_Call_Name_kw (ld_blt I hg hm boot_enumerate ?_)
  rw [hs]
  refine callWith_typeKw rfl hno (evalArgs_kwB hall (Calls.spliced_cons (thn (he.run pins s σ H _ I h) fun u s1 ⟨v, H1, I1, r1, a, xs, ev, hq, q⟩ => Calls.spliced_nil (kws_cons (thn (hk.run pins s1 σ H1 (fun y H2 => y = .int k ∧ H2 = H1) I1 ⟨rfl, rfl⟩) fun ku s2 ⟨y, H2, I2, r2, ey, eH⟩ => kws_nil ?_)))))
  subst ev ey
  rw [eH] at I2
  cases r1
  obtain ⟨t, rfl⟩ := r2
  rw [hkw]
  obtain ⟨its, rv, pl, hz⟩ := I2.list hq
  have hl : a < s2.heap.objs.size := let ⟨_, ho, _⟩ := pl.isList; Heap.lt_size ho
  show wpAny _ _ (call (.type "enumerate") [.ref a] [(Str.ofString "start", .int k t)]) _ _ s2
  refine enum_begins_start (begins_list a its.toArray) pl.isList k0 k1 fun h1 hen hit hsz kp => wpAny_pyIter_enum hen ?_
  have I3 : Inv X pins σ H1 { s2 with heap := h1 } := I2.kept (t' := s2.toks) kp
  refine ⟨s2.heap.objs.size + 1, [s2.heap.objs.size + 1, s2.heap.objs.size], _, _, H1, rfl, I3, turn_enumS a (s2.heap.objs.size + 1) s2.heap.objs.size k, ⟨⟨.none, by simpa using hen⟩, ⟨_, hit, rfl, rfl⟩, Nat.succ_ne_self _, Nat.ne_of_gt (Nat.lt_succ_of_lt hl), Nat.ne_of_lt hl⟩, fun b hb => ?_, q⟩
  have hle : s2.heap.objs.size ≤ b := by
    rcases List.mem_cons.mp hb with rfl | hb
    · exact Nat.le_succ _
    · rw [List.mem_singleton.mp hb]
      exact Nat.le_refl _
  exact I2.fpOk hle (I2.hok.fresh hle)
end Jp
namespace Jp
open PySem PySem.Spec PyProof.Rows L2
open MdBase (Term Atom varsOf)
open JpBind (Dct)
/-- an atom's part, as the program makes it -/
def partM (ts : List Term) (rows : List MdBase.Row) : PartM := ⟨vset ts, (fits ts rows).map fun q => keyOf (vset ts) (fn q.2)⟩
def partsM (tabs : List (List MdBase.Row)) (ats : List Atom) : List PartM := ats.map fun a => partM a.args (tabs.getD a.rel [])
def NumsAt (H : Hp) (l : Addr) (ns : List Nat) : Prop := H l = some (.lst (ns.map nV))
structure PartAt (CP : Addr) (H : Hp) (a : Addr) (p : PartM) : Prop where
  ex : ∃ lv lr ps, At2 CP "variables" "rows" H a (.ref lv) (.ref lr) ∧ NumsAt H lv p.vars ∧ H lr = some (.lst (ps.map V.ref)) ∧ AllAt (RowAt H) ps p.rows
theorem PartAt.keep {CP : Addr} {H H' : Hp} {a : Addr} {p : PartM} (h : PartAt CP H a p) (s : ∀ b o, H b = some o → ((∃ C dx fs, o = .ins C dx fs) ∨ (∃ xs, o = .lst xs) ∨ ∃ xs, o = .tup xs) → H' b = some o) : PartAt CP H' a p := by
  obtain ⟨lv, lr, ps, ⟨dx, h1⟩, h2, h3, h4⟩ := h.ex
  exact ⟨lv, lr, ps, ⟨dx, s _ _ h1 (Or.inl ⟨_, _, _, rfl⟩)⟩, s _ _ h2 (Or.inr (Or.inl ⟨_, rfl⟩)), s _ _ h3 (Or.inr (Or.inl ⟨_, rfl⟩)), h4.mono fun _ _ _ e => s _ _ e (Or.inr (Or.inr ⟨_, rfl⟩))⟩
/-- its lists are not among those of H0 -/
def PartIn (CP : Addr) (F : Addr → Prop) (H : Hp) (a : Addr) (p : PartM) : Prop := ∃ lv lr ps, F lv ∧ F lr ∧ At2 CP "variables" "rows" H a (.ref lv) (.ref lr) ∧ NumsAt H lv p.vars ∧ H lr = some (.lst (ps.map V.ref)) ∧ AllAt (RowAt H) ps p.rows
theorem PartIn.part {CP : Addr} {F : Addr → Prop} {H : Hp} {a : Addr} {p : PartM} (h : PartIn CP F H a p) : PartAt CP H a p := by
  obtain ⟨lv, lr, ps, _, _, r⟩ := h
  exact ⟨lv, lr, ps, r⟩
theorem PartIn.imp {CP : Addr} {F G : Addr → Prop} {H : Hp} {a : Addr} {p : PartM} (h : PartIn CP F H a p) (k : ∀ l, F l → G l) : PartIn CP G H a p := by
  obtain ⟨lv, lr, ps, h1, h2, r⟩ := h
  exact ⟨lv, lr, ps, k _ h1, k _ h2, r⟩
theorem PartIn.but {CP D : Addr} {H H' : Hp} {a : Addr} {p : PartM} {xs : List V} (h : PartIn CP (· ≠ D) H a p) (hD : H D = some (.lst xs)) (b : But D H H') : PartIn CP (· ≠ D) H' a p := by
  obtain ⟨lv, lr, ps, h1, h2, ⟨dx, h3⟩, h4, h5, h6⟩ := h
  exact ⟨lv, lr, ps, h1, h2, ⟨dx, b _ _ h3 (ne_of h3 hD (by intro e; cases e))⟩, b _ _ h4 h1, b _ _ h5 h2, h6.mono fun _ _ _ e => b _ _ e (ne_of e hD (by intro e; cases e))⟩
theorem PartAt.same {CP : Addr} {H H' : Hp} {a : Addr} {p : PartM} (h : PartAt CP H a p) (s : Same H H') : PartAt CP H' a p := h.keep fun b o e _ => s b o e
/-- a list of parts -/
def PartsAt (CP : Addr) (H : Hp) (l : Addr) (ps : List PartM) : Prop := ∃ as, H l = some (.lst (as.map V.ref)) ∧ AllAt (PartAt CP H) as ps
theorem PartsAt.same {CP : Addr} {H H' : Hp} {l : Addr} {ps : List PartM} (h : PartsAt CP H l ps) (s : Same H H') : PartsAt CP H' l ps := by
  obtain ⟨as, h1, h2⟩ := h
  exact ⟨as, s _ _ h1, h2.mono fun _ _ _ e => e.same s⟩
def spPick : Sp := fun vs H Q _ => ∃ (src pl : Addr) (ps : List Nat), vs = [.ref src, .ref pl] ∧ NumsAt H pl ps ∧ ps.length ≤ 1000 ∧
  ((∃ d : Dct, H src = some (.dK (d.map dEnt)) ∧ (∀ p ∈ ps, (d.lookup p).isSome = true) ∧ ∀ H' t, Same H H' → H t = none → RowAt H' t (keyOf ps (fn d)) → Q (.ref t) H') ∨
   ∃ x : List Int, H src = some (.tup (x.map V.int)) ∧ (∀ p ∈ ps, p < x.length) ∧ ∀ H' t, Same H H' → H t = none → RowAt H' t (pickT x ps) → Q (.ref t) H')
def spPlacesOf (K : PySem.W.Frag) : Sp := fun vs H Q _ => ∃ (lv la : Addr) (us among : List Nat), vs = [.ref lv, .ref la] ∧ SqL K H lv (us.map nV) ∧ NumsAt H la among ∧ us.length ≤ 1000 ∧ (∀ v ∈ us, v ∈ among) ∧ ∀ H' p, Same H H' → H p = none → NumsAt H' p (placesM us among) → Q (.ref p) H'
def spPartOf (CT CA CP : Addr) : Sp := fun vs H Q _ => ∃ (a : Addr) (x : Atom) (tabs : List (List MdBase.Row)), vs = [.ref a] ∧ AtomFull CT CA H tabs a x ∧ (tabs.getD x.rel []).Nodup ∧ (∀ y ∈ tabs.getD x.rel [], y.length = x.args.length) ∧ x.args.length ≤ 4 ∧ (tabs.getD x.rel []).length ≤ 10 ∧
  ∀ H' p, Same H H' → H p = none → PartIn CP (fun l => H l = none) H' p (partM x.args (tabs.getD x.rel [])) → Q (.ref p) H'
def spPartsOf (CT CA CP : Addr) : Sp := fun vs H Q _ => ∃ (lq : Addr) (as : List Addr) (ats : List Atom) (tabs : List (List MdBase.Row)), vs = [.ref lq] ∧ H lq = some (.lst (as.map V.ref)) ∧ AllAt (AtomFull CT CA H tabs) as ats ∧ Fair tabs ats ∧
  ∀ H' p, Same H H' → H p = none → PartsAt CP H' p (partsM tabs ats) → Q (.ref p) H'
section
variable {P : Program} {w : World} {K : PySem.W.Frag} {mg : Str → Option Value} {base : Heap} {CT CA CF CP CG : Addr}
theorem sc_pi : FnScope ["self", "variables", "rows"] ["self", "variables", "rows"] (defScope sPartInit) := ⟨rfl, rfl, rfl, by decide +kernel, rfl, by decide +kernel, by decide +kernel⟩
theorem ok_partInit {C : Addr} (F : HasInit K "Part.__init__" C sPartInit ["self", "variables", "rows"]) (T : Klass K mg "Part" C ["variables", "rows"]) : Made P w K mg base C 1 ["self", "variables", "rows"] (spInit2 C "variables" "rows") := by
  obtain ⟨f, fd, F, M, b⟩ := F
  refine ⟨f, fd, F.ok sc_pi (fun vs H Q E h => ?_) (fun cdv A outer s H vs Q E hr h => ?_), M, b⟩
  · obtain ⟨p, dx, x, y, rfl, _⟩ := h
    rfl
  · obtain ⟨p, dx, x, y, rfl, hp, k⟩ := h
    refine ⟨_, pss_cons (ps_fld (pv 0) (pv 1) rfl) (pss_one (ps_fld (pv 0) (pv 2) rfl)), ?_⟩
    refine ⟨_, rfl, _, rfl, p, C, dx, [], rfl, hp, T.cl, T.no _ (by simp), (by show 0 < 1000; decide), ?_⟩
    refine ⟨_, rfl, _, rfl, p, C, dx, _, rfl, upd_same, T.cl, T.no _ (by simp), (by show 1 < 1000; decide), ?_⟩
    exact k _ ⟨dx, upd_same.trans (congrArg (fun q => some (HO.ins C dx q)) fs2_new)⟩ fun b o e hb => by rw [upd_ne hb, upd_ne hb]; exact e
theorem sc_gi : FnScope ["self", "variables", "sizes"] ["self", "variables", "sizes"] (defScope sGroupsInit) := ⟨rfl, rfl, rfl, by decide +kernel, rfl, by decide +kernel, by decide +kernel⟩
theorem ok_groupsInit {C : Addr} (F : HasInit K "Groups.__init__" C sGroupsInit ["self", "variables", "sizes"]) (T : Klass K mg "Groups" C ["variables", "sizes"]) : Made P w K mg base C 1 ["self", "variables", "sizes"] (spInit2 C "variables" "sizes") := by
  obtain ⟨f, fd, F, M, b⟩ := F
  refine ⟨f, fd, F.ok sc_gi (fun vs H Q E h => ?_) (fun cdv A outer s H vs Q E hr h => ?_), M, b⟩
  · obtain ⟨p, dx, x, y, rfl, _⟩ := h
    rfl
  · obtain ⟨p, dx, x, y, rfl, hp, k⟩ := h
    refine ⟨_, pss_cons (ps_fld (pv 0) (pv 1) rfl) (pss_one (ps_fld (pv 0) (pv 2) rfl)), ?_⟩
    refine ⟨_, rfl, _, rfl, p, C, dx, [], rfl, hp, T.cl, T.no _ (by simp), (by show 0 < 1000; decide), ?_⟩
    refine ⟨_, rfl, _, rfl, p, C, dx, _, rfl, upd_same, T.cl, T.no _ (by simp), (by show 1 < 1000; decide), ?_⟩
    exact k _ ⟨dx, upd_same.trans (congrArg (fun q => some (HO.ins C dx q)) fs2_new)⟩ fun b o e hb => by rw [upd_ne hb, upd_ne hb]; exact e
theorem sc_pk : FnScope ["source", "places", "place"] ["source", "places"] (defScope sPick) := ⟨rfl, rfl, rfl, by decide +kernel, rfl, by decide +kernel, by decide +kernel⟩
theorem ok_pick (F : Has K mg "pick" sPick ["source", "places"]) (N : Plain mg) : Ok P w K mg base "pick" 1 ["source", "places"] spPick := by
  obtain ⟨f, fd, F, M, kp, b⟩ := F
  refine ⟨f, fd, F.ok sc_pk (fun vs H Q E h => ?_) (fun cdv A outer s H vs Q E hr h => ?_), M, kp, b⟩
  · obtain ⟨src, pl, ps, rfl, _⟩ := h
    rfl
  · obtain ⟨src, pl, ps, rfl, hpl, hln, h⟩ := h
    have hu := hu_of hr
    rcases h with ⟨d, hsrc, hall, k⟩ | ⟨x, hsrc, hall, k⟩
    · refine ⟨_, pss_one (ps_ret (pe_callTy call_tuple_of (by rfl) N.tuple (by decide +kernel) (pa_cons
        (pe_lc (own := [("place", 2)]) (g := gName 2) (tt := tYes) rfl sc_pk.nd (pi_list (pv 1)) (blkOk_by (N := ["source", "places", "place"]) (sc := defScope sPick) (by decide +kernel))
          (fun _ _ _ _ _ => pg_name (i := 2) sc_pk.nd rfl (Or.inl rfl)) (fun _ _ _ _ _ => pts_nil) (fun _ _ _ _ _ => pe_dget hu (pv 0) (pv 2) (fun _ _ => rfl))) pa_nil))), ?_⟩
      refine ⟨_, rfl, pl, rfl, ⟨_, SqL.of hpl⟩, fun D hD => lc_val (bs := keyOf ps (fn d)) (F := V.int) walk_list (fun i H x H' _ y => y) (fun H' s' => s'.seq (SqL.of hpl)) hD (by rw [List.length_map]; show _ ≤ 2 ^ 24; omega) (by unfold keyOf; rw [List.length_map, List.length_map]) ?_ ?_⟩
      · intro i y z H1 Nn hi hy hz s1 hN
        obtain ⟨p, hp, rfl⟩ := get_map hy
        obtain ⟨u, hu2⟩ := Option.isSome_iff_exists.mp (hall p (List.mem_of_getElem? hp))
        have ez : z = u := by
          unfold keyOf at hz
          rw [List.getElem?_map, hp] at hz
          have := Option.some.inj hz
          rw [← this]
          show ((fn d) p).getD 0 = u
          unfold fn
          rw [hu2]
          rfl
        subst ez
        refine ⟨rfl, _, rfl, _, rfl, src, _, rfl, .inl ⟨_, Sum.inl (p : Int), Or.inl (s1 _ _ hsrc), rfl, ?_⟩, hN _ (Same.refl _)⟩
        rw [valV_dEnt, hu2]
        rfl
      · intro H1 s1 hD1
        exact ⟨D, _, rfl, .inl ⟨SqL.of hD1, fun t ht => k _ t (s1.trans (same_upd ht)) (s1.free ht) upd_same⟩⟩
    · refine ⟨_, pss_one (ps_ret (pe_callTy call_tuple_of (by rfl) N.tuple (by decide +kernel) (pa_cons
        (pe_lc (own := [("place", 2)]) (g := gName 2) (tt := tYes) rfl sc_pk.nd (pi_list (pv 1)) (blkOk_by (N := ["source", "places", "place"]) (sc := defScope sPick) (by decide +kernel))
          (fun _ _ _ _ _ => pg_name (i := 2) sc_pk.nd rfl (Or.inl rfl)) (fun _ _ _ _ _ => pts_nil) (fun _ _ _ _ _ => pe_ix (ixT K) (pv 0) (pv 2) (fun _ _ => rfl))) pa_nil))), ?_⟩
      refine ⟨_, rfl, pl, rfl, ⟨_, SqL.of hpl⟩, fun D hD => lc_val (bs := pickT x ps) (F := V.int) walk_list (fun i H x H' _ y => y) (fun H' s' => s'.seq (SqL.of hpl)) hD (by rw [List.length_map]; show _ ≤ 2 ^ 24; omega) (by unfold pickT; rw [List.length_map, List.length_map]) ?_ ?_⟩
      · intro i y z H1 Nn hi hy hz s1 hN
        obtain ⟨p, hp, rfl⟩ := get_map hy
        have hpx := hall p (List.mem_of_getElem? hp)
        have ez : z = x[p] := by
          unfold pickT at hz
          rw [List.getElem?_map, hp] at hz
          have := Option.some.inj hz
          rw [← this]
          show x.getD p 0 = x[p]
          rw [List.getD_eq_getElem?_getD, List.getElem?_eq_getElem hpx]
          rfl
        subst ez
        refine ⟨rfl, _, rfl, _, rfl, src, _, _, _, rfl, rfl, SqT.of (s1 _ _ hsrc), atI_nat (v := V.int x[p]) (by rw [List.getElem?_map, List.getElem?_eq_getElem hpx]; rfl), hN _ (Same.refl _)⟩
      · intro H1 s1 hD1
        exact ⟨D, _, rfl, .inl ⟨SqL.of hD1, fun t ht => k _ t (s1.trans (same_upd ht)) (s1.free ht) upd_same⟩⟩
theorem peIndex (K : PySem.W.Frag) {X : Cx} {o e : Expr} {to : TE} {t : TA} {apos cpos : Pos} (ho : PE X o to) (ha : PA X [e] t) (q : X.K = K := by rfl) (hbase : attributeBase o "index" X.env (eval o X.env) = eval o X.env := by rfl)
    (hfew : ((backTo cpos (starEach [e] X.env)).all (fun x => !x.1) && (backToKw cpos (keywordEach [] X.env)).all (fun x => x.1.isSome) && decide (([e] : List Expr).length + ([] : List Keyword).length + (if ([] : List Keyword).isEmpty then 0 else 1) < 30)) = true := by rfl)
    (hline : (apos.endLine == cpos.line) = true := by rfl) (hs : starEach [e] X.env = (false, eval e X.env) :: starEach [] X.env := by rfl) : PE X (.Call (.Attribute o "index" apos) [e] [] cpos) (tBM K "list" (rIndex K) to t) := by
  subst q
  exact pe_bm F.plainAttrs_list F.slot_list_index F.type_list_index mt_index ho ha hbase hfew hline hs
theorem opIn (K : PySem.W.Frag) {X : Cx} (q : X.K = K := by rfl) : OpR X (compareOp .In) (rIn K false) := by
  subst q
  exact op_in_seq
theorem opNotIn (K : PySem.W.Frag) {X : Cx} (q : X.K = K := by rfl) : OpR X (compareOp .NotIn) (rIn K true) := by
  subst q
  exact op_notIn_seq
theorem eqV_nV {a b : Nat} : eqV (nV a) (nV b) = (a == b) := by
  show ((a : Int) == (b : Int)) = (a == b)
  rw [Bool.eq_iff_iff, beq_iff_eq, beq_iff_eq]
  omega
theorem flat_nVs (l : List Nat) : (l.map nV).all flatV = true := by
  rw [List.all_map, List.all_eq_true]
  exact fun _ _ => rfl
theorem inV_nV {v : Nat} {l : List Nat} : inV (nV v) (l.map nV) = decide (v ∈ l) := by
  unfold inV
  rw [List.any_map, Bool.eq_iff_iff, List.any_eq_true, decide_eq_true_eq]
  constructor
  · rintro ⟨x, hx, h⟩
    have : eqV (nV x) (nV v) = true := h
    rw [eqV_nV, beq_iff_eq] at this
    exact this ▸ hx
  · intro h
    exact ⟨v, h, by show eqV (nV v) (nV v) = true; rw [eqV_nV]; exact beq_self_eq_true v⟩
theorem sc_po : FnScope ["variables", "among", "variable"] ["variables", "among"] (defScope sPlacesOf) := ⟨rfl, rfl, rfl, by decide +kernel, rfl, by decide +kernel, by decide +kernel⟩
theorem ok_placesOf (F : Has K mg "places_of" sPlacesOf ["variables", "among"]) : Ok P w K mg base "places_of" 1 ["variables", "among"] (spPlacesOf K) := by
  obtain ⟨f, fd, F, M, kp, b⟩ := F
  refine ⟨f, fd, F.ok sc_po (fun vs H Q E h => ?_) (fun cdv A outer s H vs Q E hr h => ?_), M, kp, b⟩
  · obtain ⟨lv, la, us, among, rfl, _⟩ := h
    rfl
  · obtain ⟨lv, la, us, among, rfl, hlv, hla, hln, hall, k⟩ := h
    refine ⟨_, pss_one (ps_ret (pe_lc (own := [("variable", 2)]) (g := gName 2) (tt := tYes) rfl sc_po.nd (pi_list (pv 0)) (blkOk_by (N := ["variables", "among", "variable"]) (sc := defScope sPlacesOf) (by decide +kernel))
          (fun _ _ _ _ _ => pg_name (i := 2) sc_po.nd rfl (Or.inl rfl)) (fun _ _ _ _ _ => pts_nil) (fun _ _ _ _ _ => peIndex K (pv 1) (pa_cons (pv 2) pa_nil)))), ?_⟩
    refine ⟨_, rfl, lv, rfl, ⟨_, hlv⟩, fun D hD => lc_val (bs := placesM us among) (F := nV) walk_list (fun i H x H' _ y => y) (fun H' s' => s'.seq hlv) hD (by rw [List.length_map]; show _ ≤ 2 ^ 24; omega) (by unfold placesM; rw [List.length_map, List.length_map]) ?_ ?_⟩
    · intro i y z H1 Nn hi hy hz s1 hN
      obtain ⟨v, hv, rfl⟩ := get_map hy
      have hm := hall v (List.mem_of_getElem? hv)
      have hlt := List.idxOf_lt_length_of_mem hm
      have ez : z = among.idxOf v := by
        unfold placesM at hz
        rw [List.getElem?_map, hv] at hz
        exact (Option.some.inj hz).symm
      subst ez
      have hla1 := s1 _ _ hla
      refine ⟨rfl, _, rfl, .inl ⟨rfl, _, SqL.of hla1⟩, _, rfl, la, _, nV v, among.idxOf v, nV v, rfl, rfl, SqL.of hla1, rfl, flat_nVs _, ?_, ?_, fun m z' hm' hz' => ?_, hN _ (Same.refl _)⟩
      · rw [List.getElem?_map, List.getElem?_eq_getElem hlt, List.getElem_idxOf]
        rfl
      · rw [eqV_nV]
        exact beq_self_eq_true v
      · obtain ⟨u, hu, rfl⟩ := get_map hz'
        rw [eqV_nV]
        have h := List.not_of_lt_findIdx (p := (· == v)) (xs := among) hm'
        obtain ⟨hl, e⟩ := List.getElem?_eq_some_iff.mp hu
        rw [← e]
        exact h
    · intro H1 s1 hD1
      exact k _ D s1 hD hD1
theorem sc_pa : FnScope ["atom", "variables", "fitting"] ["atom"] (defScope sPartOf) := ⟨rfl, rfl, rfl, by decide +kernel, rfl, by decide +kernel, by decide +kernel⟩
theorem ok_partOf (F : Has K mg "part_of" sPartOf ["atom"]) (N : Plain mg) (TP : Klass K mg "Part" CP ["variables", "rows"]) (TF : Klass K mg "FittingRow" CF ["row", "bound"]) (MP : Made P w K mg base CP 1 ["self", "variables", "rows"] (spInit2 CP "variables" "rows"))
    (GV : Ok P w K mg base "variables_of" 1 ["atom"] (spVariablesOf CA)) (GF : Ok P w K mg base "fitting_rows" 3 ["atom"] (spFittingRows CT CA CF)) (GP : Ok P w K mg base "pick" 1 ["source", "places"] spPick) : Ok P w K mg base "part_of" 4 ["atom"] (spPartOf CT CA CP) := by
  obtain ⟨f, fd, F, M, kp, b⟩ := F
  refine ⟨f, fd, F.ok sc_pa (fun vs H Q E h => ?_) (fun cdv A outer s H vs Q E hr h => ?_), M, kp, b⟩
  · obtain ⟨a, x, tabs, rfl, _⟩ := h
    rfl
  · obtain ⟨a, x, tabs, rfl, hfull, hnd, hlens, hargs, hfew, k⟩ := h
    have hr1 : Room 1 _ := hr.mono (by decide)
    have hr2 : Room 2 _ := hr.mono (by decide)
    refine ⟨_, pss_cons (ps_set (i := 1) sc_pa.nd rfl (Or.inr rfl) (pe_callTy (call_list_dK rfl) (by rfl) N.list (by decide +kernel) (pa_cons (pe_ok GV hr1 rfl (pa_cons (pv 0) pa_nil)) pa_nil)))
      (pss_one (ps_ret (pe_new MP hr2 rfl TP.mgC (pa_cons (pv 1) (pa_cons
        (pe_lc (own := [("fitting", 2)]) (g := gName 2) (tt := tYes) rfl sc_pa.nd (pi_list (pe_ok GF hr rfl (pa_cons (pv 0) pa_nil))) (blkOk_by (N := ["atom", "variables", "fitting"]) (sc := defScope sPartOf) (by decide +kernel))
          (fun _ _ _ _ _ => pg_name (i := 2) sc_pa.nd rfl (Or.inl rfl)) (fun _ _ _ _ _ => pts_nil) (fun _ _ _ _ _ => pe_ok GP hr1 rfl (pa_cons (peF K (pv 2)) (pa_cons (pv 1) pa_nil)))) pa_nil))))), ?_⟩
    obtain ⟨ta, l, lr, c, rps, h1, h2, h3, h4⟩ := id hfull
    refine ⟨_, rfl, a, ta, l, x.args, rfl, h1, by omega, fun H1 d s1 nd hd => ⟨d, _, rfl, hd, fun lv hlv => ?_⟩⟩
    have ekv : (((vset x.args).map ent).map fun kv => kV kv.1) = (vset x.args).map nV := by
      rw [List.map_map]
      rfl
    rw [ekv]
    have s2 : Same H (upd H1 lv (.lst ((vset x.args).map nV))) := s1.trans (same_upd hlv)
    have hvl : NumsAt (upd H1 lv (.lst ((vset x.args).map nV))) lv (vset x.args) := upd_same
    have nlv : H lv = none := s1.free hlv
    generalize upd H1 lv (.lst ((vset x.args).map nV)) = H2 at s2 hvl
    have hvs : (vset x.args).length ≤ 4 := by
      have := vset_len x.args []
      unfold vset
      simp at this
      omega
    refine ⟨_, rfl, _, rfl, a, ta, l, lr, x.args, c, rps, _, rfl, h1.same s2, h2.same s2, s2 _ _ h3, h4.mono (fun _ _ _ e => s2 _ _ e), hnd, hlens, by omega, by omega, fun H3 lf fs s3 nlf hlf hfs => ?_⟩
    have hfl : fs.length ≤ 10 := by
      rw [hfs.1]
      exact Nat.le_trans (fits_length hnd) hfew
    refine ⟨lf, rfl, ⟨_, SqL.of hlf⟩, fun D hD => lc_made walk_list (fun i H x H' _ y => y) (fun H' s' => s'.seq (SqL.of hlf)) hD (by rw [List.length_map]; show _ ≤ 2 ^ 24; omega)
      (fun i z H' => ∃ p q, z = .ref p ∧ (partM x.args (tabs.getD x.rel [])).rows[i]? = some q ∧ RowAt H' p q) ?_ ?_ ?_⟩
    · rintro i z H4 H5 acc hD1 bt ⟨p, q, rfl, hq, hp⟩
      exact ⟨p, q, rfl, hq, bt _ _ hp (ne_of hp hD1 (by intro e; cases e))⟩
    · intro i y H4 acc Nn hi hy s4 hD1 hN
      obtain ⟨fa, hfa, rfl⟩ := get_map hy
      obtain ⟨q, hq, rr, bd, ⟨dx, hat⟩, hrow, hbd⟩ := hfs.get hfa
      have hb : JpBind.bind x.args q.1 = some q.2 := (mem_fits.mp (List.mem_of_getElem? hq)).2
      have hlq : x.args.length = q.1.length := (hlens q.1 (JpSort.mem_sorted.mp (mem_fits.mp (List.mem_of_getElem? hq)).1)).symm
      refine ⟨rfl, _, rfl, fa, CF, dx, _, _, rfl, s4 _ _ hat, TF.cl, TF.no _ (by simp), fs2_2, _, rfl, bd, lv, vset x.args, rfl, s4 _ _ (s3 _ _ hvl), by omega, .inl ⟨q.2, s4 _ _ hbd, fun v hv => ?_, fun H5 t s5 nt ht => hN _ _ s5 ⟨t, _, rfl, ?_, ht⟩⟩⟩
      · rw [JpBind.bind_var hlq hb v, List.contains_iff_mem]
        exact mem_vset.mp hv
      · show ((fits x.args (tabs.getD x.rel [])).map _)[i]? = _
        rw [List.getElem?_map, hq]
        rfl
    · intro H4 zs s4 hD1 hzl hR
      obtain ⟨ps, rfl, hps⟩ := allAt_of (xs := (partM x.args (tabs.getD x.rel [])).rows) (by rw [hzl, List.length_map, hfs.1]; show _ = ((fits x.args (tabs.getD x.rel [])).map _).length; rw [List.length_map]) hR
      intro p dx np ndx ne
      refine ⟨p, dx, _, _, rfl, upd_same, fun H5 hat k5 => ⟨rfl, ?_⟩⟩
      have s5 : Same H4 H5 := Same.made np ndx k5
      refine k _ p (((s2.trans s3).trans s4).trans s5) (((s2.trans s3).trans s4).free np) ⟨lv, D, ps, nlv, (s2.trans s3).free hD, hat, s5 _ _ (s4 _ _ (s3 _ _ hvl)), s5 _ _ hD1, hps.mono fun _ _ _ e => s5 _ _ e⟩
theorem sc_ps : FnScope ["atoms", "atom"] ["atoms"] (defScope sPartsOf) := ⟨rfl, rfl, rfl, by decide +kernel, rfl, by decide +kernel, by decide +kernel⟩
theorem ok_partsOf (F : Has K mg "parts_of" sPartsOf ["atoms"]) (G : Ok P w K mg base "part_of" 4 ["atom"] (spPartOf CT CA CP)) : Ok P w K mg base "parts_of" 5 ["atoms"] (spPartsOf CT CA CP) := by
  obtain ⟨f, fd, F, M, kp, b⟩ := F
  refine ⟨f, fd, F.ok sc_ps (fun vs H Q E h => ?_) (fun cdv A outer s H vs Q E hr h => ?_), M, kp, b⟩
  · obtain ⟨lq, as, ats, tabs, rfl, _⟩ := h
    rfl
  · obtain ⟨lq, as, ats, tabs, rfl, hlq, hats, hfair, k⟩ := h
    refine ⟨_, pss_one (ps_ret (pe_lc (own := [("atom", 1)]) (g := gName 1) (tt := tYes) rfl sc_ps.nd (pi_list (pv 0)) (blkOk_by (N := ["atoms", "atom"]) (sc := defScope sPartsOf) (by decide +kernel))
          (fun _ _ _ _ _ => pg_name (i := 1) sc_ps.nd rfl (Or.inl rfl)) (fun _ _ _ _ _ => pts_nil) (fun _ _ _ _ _ => pe_ok G hr rfl (pa_cons (pv 1) pa_nil)))), ?_⟩
    have h5 := hfair.atoms
    have hl := hats.1
    refine ⟨_, rfl, lq, rfl, ⟨_, SqL.of hlq⟩, fun D hD => lc_made walk_list (fun i H x H' _ y => y) (fun H' s' => s'.seq (SqL.of hlq)) hD (by rw [List.length_map]; show _ ≤ 2 ^ 24; omega)
      (fun i z H' => ∃ p q, z = .ref p ∧ (partsM tabs ats)[i]? = some q ∧ PartIn CP (· ≠ D) H' p q) ?_ ?_ ?_⟩
    · rintro i z H4 H5 acc hD1 bt ⟨p, q, rfl, hq, hp⟩
      exact ⟨p, q, rfl, hq, hp.but hD1 bt⟩
    · intro i y H4 acc Nn hi hy s4 hD1 hN
      obtain ⟨a, ha, rfl⟩ := get_map hy
      obtain ⟨x, hx, hfull⟩ := hats.get ha
      have mx := List.mem_of_getElem? hx
      refine ⟨rfl, _, rfl, a, x, tabs, rfl, hfull.same s4, hfair.nd x mx, hfair.len x mx, hfair.args x mx, hfair.few x mx, fun H5 p s5 np hp => hN _ _ s5 ⟨p, partM x.args (tabs.getD x.rel []), rfl, ?_, hp.imp fun l hl z => ?_⟩⟩
      · unfold partsM
        rw [List.getElem?_map, hx]
        rfl
      · rw [z, hD1] at hl
        cases hl
    · intro H4 zs s4 hD1 hzl hR
      obtain ⟨ps, rfl, hps⟩ := allAt_of (xs := partsM tabs ats) (by rw [hzl, List.length_map, hl]; unfold partsM; rw [List.length_map]) hR
      exact k _ D s4 hD ⟨ps, hD1, hps.mono fun p q _ h => h.part⟩
end
end Jp
namespace Jp
open PySem PySem.Spec PyProof.Rows L2
open JpTally (Tally addT getA putA)
section
variable {α : Type}
theorem valV_kI (f : α → List Int) (g : α → V) (k : List Int) : ∀ l : List α, valV (l.map fun t => (kI (f t), g t)) (kI k) = (l.find? fun t => decide (f t = k)).map g
  | [] => rfl
  | t :: l => by
    by_cases h : f t = k
    · rw [List.map_cons, valV_pos (by rw [h]), List.find?_cons_of_pos (p := fun t => decide (f t = k)) (decide_eq_true h)]
      rfl
    · rw [List.map_cons, valV_neg (fun z => h (kI_inj z)), List.find?_cons_of_neg (by rw [decide_eq_true_eq]; exact h)]
      exact valV_kI f g k l
end
/-- a group as the dict has it -/
def sEnt (e : List Int × Nat) : List Key × V := (kI e.1, V.int (e.2 : Int))
theorem valV_sEnt (d : List (List Int × Nat)) (k : List Int) : valV (d.map sEnt) (kI k) = (getA d k).map fun n : Nat => V.int (n : Int) := by
  have h := valV_kI (fun e : List Int × Nat => e.1) (fun e => V.int (e.2 : Int)) k d
  unfold getA
  rw [Option.map_map]
  exact h
theorem putK_sEnt (d : List (List Int × Nat)) (k : List Int) (n : Nat) : putK (d.map sEnt) (kI k) (V.int (n : Int)) = (putA d k n).map sEnt := by
  unfold putK putA
  have e : ((d.map sEnt).any fun kv => decide (kv.1 = kI k)) = d.any fun e => decide (e.1 = k) := by
    rw [List.any_map]
    congr 1
    funext e
    show decide (kI e.1 = kI k) = decide (e.1 = k)
    by_cases h : e.1 = k
    · rw [h, decide_eq_true rfl, decide_eq_true rfl]
    · rw [decide_eq_false h, decide_eq_false fun z => h (kI_inj z)]
  rw [e]
  split
  · rw [List.map_map, List.map_map]
    refine List.map_congr_left fun x _ => ?_
    show (if kI x.1 = kI k then (kI x.1, V.int (n : Int)) else sEnt x) = sEnt (if x.1 = k then (x.1, n) else x)
    by_cases h : x.1 = k
    · rw [if_pos h, if_pos (by rw [h])]
      rfl
    · rw [if_neg h, if_neg fun z => h (kI_inj z)]
  · rw [List.map_append]
    rfl
/-- found: keys, where their lists stand, the rows in these -/
abbrev Trip := List Int × Addr × List MdBase.Row
def trip (t : Trip) : List Key × V := (kI t.1, V.ref t.2.1)
structure FoundAt (H : Hp) (fd : Addr) (ts : List Trip) : Prop where
  dict : H fd = some (.dT (ts.map trip))
  nk : (ts.map (·.1)).Nodup
  na : (ts.map (·.2.1)).Nodup
  rows : ∀ t ∈ ts, ∃ ps, H t.2.1 = some (.lst (ps.map V.ref)) ∧ AllAt (RowAt H) ps t.2.2
theorem FoundAt.same {H H' : Hp} {fd : Addr} {ts : List Trip} (h : FoundAt H fd ts) (s : Same H H') : FoundAt H' fd ts :=
  ⟨s _ _ h.dict, h.nk, h.na, fun t ht => let ⟨ps, h1, h2⟩ := h.rows t ht; ⟨ps, s _ _ h1, h2.mono fun _ _ _ e => s _ _ e⟩⟩
/-- by what key a row is found -/
def Found (ts : List Trip) (rows : List MdBase.Row) (places : List Nat) : Prop := ∀ k : List Int, (∀ t ∈ ts, t.1 = k → t.2.2 = rows.filter fun r => pickT r places == k) ∧ ((∀ t ∈ ts, t.1 ≠ k) → (rows.filter fun r => pickT r places == k) = [])
def spRowsBy (CP : Addr) : Sp := fun vs H Q _ => ∃ (a lv : Addr) (p : PartM) (us : List Nat), vs = [.ref a, .ref lv] ∧ PartAt CP H a p ∧ NumsAt H lv us ∧ us.length ≤ 1000 ∧ (∀ v ∈ us, v ∈ p.vars) ∧ p.rows.length ≤ 1000 ∧ (∀ r ∈ p.rows, r.length = p.vars.length) ∧
  ∀ H' fd ts, Same H H' → H fd = none → FoundAt H' fd ts → Found ts p.rows (placesM us p.vars) → Q (.ref fd) H'
theorem found_find {ts : List Trip} {k : List Int} : (ts.find? fun t => decide (t.1 = k)) = none ↔ ∀ t ∈ ts, t.1 ≠ k := by
  rw [List.find?_eq_none]
  exact ⟨fun h t ht e => h t ht (decide_eq_true e), fun h t ht e => h t ht (of_decide_eq_true e)⟩
theorem nd_key {ts : List Trip} (h : (ts.map (·.1)).Nodup) {t u : Trip} (ht : t ∈ ts) (hu : u ∈ ts) (e : t.1 = u.1) : t = u := by
  induction ts with
  | nil => cases ht
  | cons x ts ih =>
    rw [List.map_cons, List.nodup_cons] at h
    rcases List.mem_cons.mp ht with e1 | h1
    · rcases List.mem_cons.mp hu with e2 | h2
      · rw [e1, e2]
      · exact absurd (List.mem_map.mpr ⟨u, h2, by rw [← e, e1]⟩) h.1
    · rcases List.mem_cons.mp hu with e2 | h2
      · exact absurd (List.mem_map.mpr ⟨t, h1, by rw [e, e2]⟩) h.1
      · exact ih h.2 h1 h2
theorem nd_addr {ts : List Trip} (h : (ts.map (·.2.1)).Nodup) {t u : Trip} (ht : t ∈ ts) (hu : u ∈ ts) (e : t.2.1 = u.2.1) : t = u := by
  induction ts with
  | nil => cases ht
  | cons x ts ih =>
    rw [List.map_cons, List.nodup_cons] at h
    rcases List.mem_cons.mp ht with e1 | h1
    · rcases List.mem_cons.mp hu with e2 | h2
      · rw [e1, e2]
      · exact absurd (List.mem_map.mpr ⟨u, h2, by rw [← e, e1]⟩) h.1
    · rcases List.mem_cons.mp hu with e2 | h2
      · exact absurd (List.mem_map.mpr ⟨t, h1, by rw [e, e2]⟩) h.1
      · exact ih h.2 h1 h2
def addR (key : List Int) (r : MdBase.Row) (x : Trip) : Trip := if x.1 = key then (x.1, x.2.1, x.2.2 ++ [r]) else x
theorem addR_1 (key : List Int) (r : MdBase.Row) (ts : List Trip) : (ts.map (addR key r)).map (·.1) = ts.map (·.1) := by
  rw [List.map_map]
  refine List.map_congr_left fun x _ => ?_
  show (addR key r x).1 = x.1
  unfold addR
  split <;> rfl
theorem addR_2 (key : List Int) (r : MdBase.Row) (ts : List Trip) : (ts.map (addR key r)).map (·.2.1) = ts.map (·.2.1) := by
  rw [List.map_map]
  refine List.map_congr_left fun x _ => ?_
  show (addR key r x).2.1 = x.2.1
  unfold addR
  split <;> rfl
theorem filter_snoc (rows : List MdBase.Row) (r : MdBase.Row) (places : List Nat) (k : List Int) : ((rows ++ [r]).filter fun r => pickT r places == k) = (rows.filter fun r => pickT r places == k) ++ (if pickT r places = k then [r] else []) := by
  rw [List.filter_append]
  congr 1
  by_cases h : pickT r places = k
  · rw [if_pos h, List.filter_cons_of_pos (by rw [beq_iff_eq]; exact h)]
    rfl
  · rw [if_neg h, List.filter_cons_of_neg (by rw [beq_iff_eq]; exact h)]
    rfl
theorem found_old {ts : List Trip} {rows : List MdBase.Row} {places : List Nat} {r : MdBase.Row} (h : Found ts rows places) {u : Trip} (hu : u ∈ ts) (hk : u.1 = pickT r places) : Found (ts.map (addR (pickT r places) r)) (rows ++ [r]) places := by
  intro k
  rw [filter_snoc]
  constructor
  · intro t ht e
    obtain ⟨x, hx, rfl⟩ := List.mem_map.mp ht
    unfold addR at e ⊢
    by_cases hxk : x.1 = pickT r places
    · rw [if_pos hxk] at e ⊢
      have e : x.1 = k := e
      rw [if_pos (hxk.symm.trans e)]
      show x.2.2 ++ [r] = _
      rw [(h k).1 x hx e]
    · rw [if_neg hxk] at e ⊢
      rw [if_neg fun z => hxk (e.trans z.symm), List.append_nil]
      exact (h k).1 x hx e
  · intro hn
    have hne : ∀ t ∈ ts, t.1 ≠ k := fun t ht z => hn (addR (pickT r places) r t) (List.mem_map.mpr ⟨t, ht, rfl⟩) (by
      unfold addR
      split <;> exact z)
    rw [(h k).2 hne, if_neg fun z => hne u hu (hk.trans z)]
    rfl
theorem found_new {ts : List Trip} {rows : List MdBase.Row} {places : List Nat} {r : MdBase.Row} {L : Addr} (h : Found ts rows places) (hn : ∀ t ∈ ts, t.1 ≠ pickT r places) : Found (ts ++ [(pickT r places, L, [r])]) (rows ++ [r]) places := by
  intro k
  rw [filter_snoc]
  constructor
  · intro t ht e
    rcases List.mem_append.mp ht with ht | ht
    · rw [(h k).1 t ht e, if_neg fun z => hn t ht (e.trans z.symm), List.append_nil]
    · rw [List.mem_singleton.mp ht] at e ⊢
      have e : pickT r places = k := e
      rw [if_pos e, (h k).2 fun t ht z => hn t ht (z.trans e.symm)]
      rfl
  · intro hall
    rw [(h k).2 fun t ht => hall t (List.mem_append_left _ ht), if_neg fun z => hall _ (List.mem_append_right _ List.mem_cons_self) z]
    rfl
theorem place_lt {us among : List Nat} (h : ∀ v ∈ us, v ∈ among) : ∀ p ∈ placesM us among, p < among.length := fun p hp => by
  obtain ⟨v, hv, rfl⟩ := List.mem_map.mp hp
  exact List.idxOf_lt_length_of_mem (h v hv)
section
variable {P : Program} {w : World} {K : PySem.W.Frag} {mg : Str → Option Value} {base : Heap} {CP : Addr}
theorem sc_rb : FnScope ["part", "variables", "places", "found", "row"] ["part", "variables"] (defScope sRowsBy) := ⟨rfl, rfl, rfl, by decide +kernel, rfl, by decide +kernel, by decide +kernel⟩
theorem ok_rowsBy (F : Has K mg "rows_by" sRowsBy ["part", "variables"]) (TP : Klass K mg "Part" CP ["variables", "rows"]) (GL : Ok P w K mg base "places_of" 1 ["variables", "among"] (spPlacesOf K)) (GP : Ok P w K mg base "pick" 1 ["source", "places"] spPick) :
    Ok P w K mg base "rows_by" 2 ["part", "variables"] (spRowsBy CP) := by
  obtain ⟨f, fd, F, M, kp, b⟩ := F
  refine ⟨f, fd, F.ok sc_rb (fun vs H Q E h => ?_) (fun cdv A outer s H vs Q E hr h => ?_), M, kp, b⟩
  · obtain ⟨a, lv, p, us, rfl, _⟩ := h
    rfl
  · obtain ⟨a, lv, p, us, rfl, hpart, hlv, hul, hsub, hrl, hrows, k⟩ := h
    have hu := hu_of hr
    refine ⟨_, pss_cons (ps_set (i := 2) sc_rb.nd rfl (Or.inl rfl) (pe_ok GL hr rfl (pa_cons (pv 1) (pa_cons (pe_fld (pv 0) rfl) pa_nil))))
      (pss_cons (ps_set (i := 3) sc_rb.nd rfl (Or.inl rfl) pe_dnewT)
      (pss_cons (ps_for PassesOwn.never rfl (pi_list (pe_fld (pv 0) rfl)) (pg_name (i := 4) sc_rb.nd rfl (Or.inl rfl))
        (pss_one (ps_expr (pe_bm PySem.F.plainAttrs_list PySem.F.slot_list_append PySem.F.type_list_append mt_append (pe_dsetdT hu (pv 3) (pe_ok GP hr rfl (pa_cons (pv 4) (pa_cons (pv 2) pa_nil))) (pe_lst pa_nil) ⟨rfl, rfl, rfl, rfl⟩) (pa_cons (pv 4) pa_nil)))))
      (pss_one (ps_ret (pv 3))))), ?_⟩
    obtain ⟨lpv, lr, ps, ⟨dx, hat⟩, hpv, hlr, hps⟩ := id hpart.ex
    refine ⟨_, rfl, _, rfl, a, CP, dx, _, _, rfl, hat, TP.cl, TP.no _ (by simp), fs2_1, lv, lpv, us, p.vars, rfl, SqL.of hlv, hpv, hul, hsub, fun H1 lp s1 nlp hlp => ?_⟩
    intro fd hfd
    have s2 : Same H (upd H1 fd (.dT [])) := s1.trans (same_upd hfd)
    have hfd2 : upd H1 fd (.dT []) fd = some (.dT []) := upd_same
    have hlp2 : NumsAt (upd H1 fd (.dT [])) lp (placesM us p.vars) := same_upd hfd _ _ hlp
    have nfd : H fd = none := s1.free hfd
    generalize upd H1 fd (.dT []) = H2 at s2 hfd2 hlp2
    refine ⟨_, rfl, a, CP, dx, _, _, rfl, s2 _ _ hat, TP.cl, TP.no _ (by simp), fs2_2, lr, rfl, ⟨_, SqL.of (s2 _ _ hlr)⟩, ?_⟩
    refine for_list (K := K) (a := lr) (xs := ps.map V.ref) (fun i σ H' => ∃ (v4 : Option V) (ts : List Trip), σ = [some (.ref a), some (.ref lv), some (.ref lp), some (.ref fd), v4] ∧ Same H H' ∧ NumsAt H' lp (placesM us p.vars) ∧ FoundAt H' fd ts ∧ (∀ t ∈ ts, H t.2.1 = none ∧ t.2.1 ≠ lp) ∧ ts.length ≤ i ∧ Found ts (p.rows.take i) (placesM us p.vars))
      ⟨none, [], rfl, s2, hlp2, ⟨hfd2, List.nodup_nil, List.nodup_nil, (fun t ht => by cases ht)⟩, (fun t ht => by cases ht), Nat.le_refl _, fun k => ⟨(fun t ht => by cases ht), fun _ => rfl⟩⟩ (fun i σ H' _ ⟨_, _, _, s3, _⟩ => SqL.of (s3 _ _ hlr)) ?_ ?_
    · rintro i y σ H3 hi ⟨v4, ts, rfl, s3, hlp3, hf3, hfr, htl, hfound⟩
      obtain ⟨q, hq, rfl⟩ := get_map hi
      obtain ⟨r, hr', hrow⟩ := hps.get hq
      have hrow3 : RowAt H3 q r := s3 _ _ hrow
      have hlen : r.length = p.vars.length := hrows r (List.mem_of_getElem? hr')
      have hil : i < p.rows.length := (List.getElem?_eq_some_iff.mp hr').1
      refine ⟨_, rfl, fd, rfl, .inr ⟨_, .inl hf3.dict⟩, _, rfl, _, rfl, q, lp, placesM us p.vars, rfl, hlp3, (by unfold placesM; rw [List.length_map]; exact hul), .inr ⟨r, hrow3, (fun x hx => by rw [hlen]; exact place_lt hsub x hx), fun H4 t s4 nt ht => ?_⟩⟩
      refine ⟨Nat.zero_le _, fun L hL => ?_⟩
      have s5 : Same H3 (upd H4 L (.lst [])) := s4.trans (same_upd hL)
      have hL5 : upd H4 L (.lst []) L = some (.lst []) := upd_same
      have nL3 : H3 L = none := s4.free hL
      have ht5 : RowAt (upd H4 L (.lst [])) t (pickT r (placesM us p.vars)) := same_upd hL _ _ ht
      generalize upd H4 L (.lst []) = H5 at s5 hL5 ht5
      have hf5 := hf3.same s5
      have etake : ∀ k : List Int, ((p.rows.take (i + 1)).filter fun r => pickT r (placesM us p.vars) == k) = ((p.rows.take i).filter fun r => pickT r (placesM us p.vars) == k) ++ (if pickT r (placesM us p.vars) == k then [r] else []) := fun k => by
        rw [take_snoc hr', List.filter_append]
        congr 1
        rw [List.filter_cons, List.filter_nil]
      refine ⟨_, kI (pickT r (placesM us p.vars)), t, hf5.dict, rfl, by rw [kI_V]; exact ht5, (by rw [List.length_map]; show _ < 2 ^ 24; omega), fun v hv => ?_, fun hv => ?_⟩
      · have hv' := hv
        rw [show ts.map trip = ts.map fun t => (kI t.1, V.ref t.2.1) from rfl, valV_kI (fun t : Trip => t.1) (fun t => V.ref t.2.1)] at hv'
        cases hfind : ts.find? fun t => decide (t.1 = pickT r (placesM us p.vars)) with
        | none => rw [hfind] at hv'; cases hv'
        | some u =>
          rw [hfind] at hv'
          have ev : v = V.ref u.2.1 := (Option.some.inj hv').symm
          subst ev
          have hum := List.mem_of_find?_eq_some hfind
          have huk : u.1 = pickT r (placesM us p.vars) := of_decide_eq_true (List.find?_some (p := fun t : Trip => decide (t.1 = pickT r (placesM us p.vars))) hfind)
          obtain ⟨ps2, hl2, hr2⟩ := hf5.rows u hum
          have hlen2 : ps2.length ≤ 1000 := by
            rw [hr2.1, (hfound _).1 u hum rfl]
            refine Nat.le_trans (List.length_filter_le _ _) ?_
            rw [List.length_take]
            omega
          refine ⟨.inl ⟨rfl, _, SqL.of hl2⟩, _, rfl, u.2.1, _, _, rfl, rfl, hl2, (by rw [List.length_map]; show _ < 2 ^ 24; omega), ?_⟩
          have bt : But u.2.1 H5 (upd H5 u.2.1 (.lst (ps2.map V.ref ++ [V.ref q]))) := (But.of_same (Same.refl _)).upd
          have hl6 : upd H5 u.2.1 (.lst (ps2.map V.ref ++ [V.ref q])) u.2.1 = some (.lst ((ps2 ++ [q]).map V.ref)) := by rw [upd_same, List.map_append]; rfl
          generalize upd H5 u.2.1 (.lst (ps2.map V.ref ++ [V.ref q])) = H6 at bt hl6
          have fr := hfr u hum
          have s6 : Same H H6 := fun b o e => bt _ _ (s5 _ _ (s3 _ _ e)) fun z => by rw [z, fr.1] at e; cases e
          have neD : H5 fd = some (.dT (ts.map trip)) := hf5.dict
          refine ⟨_, ts.map (addR (pickT r (placesM us p.vars)) r), rfl, s6, bt _ _ (s5 _ _ hlp3) fr.2.symm, ⟨?_, by rw [addR_1]; exact hf3.nk, by rw [addR_2]; exact hf3.na, fun x hx => ?_⟩, fun x hx => ?_, by rw [List.length_map]; omega, ?_⟩
          · rw [bt _ _ neD (ne_of neD hl2 (by intro z; cases z)), List.map_map]
            refine congrArg (fun z => some (HO.dT z)) (List.map_congr_left fun x _ => ?_)
            show trip x = trip (addR _ r x)
            unfold addR trip
            split <;> rfl
          · obtain ⟨y, hy, rfl⟩ := List.mem_map.mp hx
            by_cases hyu : y = u
            · subst hyu
              unfold addR
              rw [if_pos huk]
              refine ⟨ps2 ++ [q], hl6, AllAt.snoc (hr2.mono fun _ _ _ e => bt _ _ e (ne_of e hl2 (by intro z; cases z))) ?_⟩
              exact bt _ _ (s5 _ _ hrow3) (ne_of (s5 _ _ hrow3) hl2 (by intro z; cases z))
            · have hyk : ¬ y.1 = pickT r (placesM us p.vars) := fun z => hyu (nd_key hf3.nk hy hum (z.trans huk.symm))
              obtain ⟨ps3, hl3, hr3⟩ := hf5.rows y hy
              unfold addR
              rw [if_neg hyk]
              exact ⟨ps3, bt _ _ hl3 (fun z => hyu (nd_addr hf3.na hy hum z)), hr3.mono fun _ _ _ e => bt _ _ e (ne_of e hl2 (by intro z; cases z))⟩
          · obtain ⟨y, hy, rfl⟩ := List.mem_map.mp hx
            have := hfr y hy
            unfold addR
            split <;> exact this
          · rw [take_snoc hr']
            exact found_old hfound hum huk
      · have hv' := hv
        rw [show ts.map trip = ts.map fun t => (kI t.1, V.ref t.2.1) from rfl, valV_kI (fun t : Trip => t.1) (fun t => V.ref t.2.1), Option.map_eq_none_iff, found_find] at hv'
        rw [putK_new _ hv]
        have hfd5 : fd ≠ L := ne_of hf5.dict hL5 (by intro z; cases z)
        have bt : But fd H5 (upd H5 fd (.dT (ts.map trip ++ [(kI (pickT r (placesM us p.vars)), V.ref L)]))) := (But.of_same (Same.refl _)).upd
        have hfd6 : upd H5 fd (.dT (ts.map trip ++ [(kI (pickT r (placesM us p.vars)), V.ref L)])) fd = some (.dT (ts.map trip ++ [(kI (pickT r (placesM us p.vars)), V.ref L)])) := upd_same
        generalize upd H5 fd (.dT (ts.map trip ++ [(kI (pickT r (placesM us p.vars)), V.ref L)])) = H6 at bt hfd6
        have hL6 : H6 L = some (.lst []) := bt _ _ hL5 hfd5.symm
        refine ⟨.inl ⟨rfl, _, SqL.of hL6⟩, _, rfl, L, _, _, rfl, rfl, hL6, (by show 0 < 2 ^ 24; decide), ?_⟩
        have bt2 : But L H6 (upd H6 L (.lst ([] ++ [V.ref q]))) := (But.of_same (Same.refl _)).upd
        have hL7 : upd H6 L (.lst ([] ++ [V.ref q])) L = some (.lst ([q].map V.ref)) := upd_same
        generalize upd H6 L (.lst ([] ++ [V.ref q])) = H7 at bt2 hL7
        have up : ∀ b o, H5 b = some o → b ≠ fd → b ≠ L → H7 b = some o := fun b o e h1 h2 => bt2 _ _ (bt _ _ e h1) h2
        have nLH : H L = none := s3.free nL3
        have s7 : Same H H7 := fun b o e => up b o (s5 _ _ (s3 _ _ e)) (fun z => by rw [z, nfd] at e; cases e) (fun z => by rw [z, nLH] at e; cases e)
        have tup7 : ∀ b xs, H5 b = some (.tup xs) → H7 b = some (.tup xs) := fun b xs e => up b _ e (ne_of e hf5.dict (by intro z; cases z)) (ne_of e hL5 (by intro z; cases z))
        refine ⟨_, ts ++ [(pickT r (placesM us p.vars), L, [r])], rfl, s7, up _ _ (s5 _ _ hlp3) (ne_of (s5 _ _ hlp3) hf5.dict (by intro z; cases z)) (fun z => by rw [← z, hlp3] at nL3; cases nL3), ⟨?_, ?_, ?_, fun x hx => ?_⟩, fun x hx => ?_, by rw [List.length_append]; exact Nat.succ_le_succ htl, ?_⟩
        · rw [bt2 _ _ hfd6 hfd5, List.map_append]
          rfl
        · rw [List.map_append, List.nodup_append]
          refine ⟨hf3.nk, List.nodup_cons.mpr ⟨List.not_mem_nil, List.nodup_nil⟩, fun x hx y hy z => ?_⟩
          obtain ⟨t', ht', rfl⟩ := List.mem_map.mp hx
          rw [List.map_singleton, List.mem_singleton] at hy
          exact hv' t' ht' (z.trans hy)
        · rw [List.map_append, List.nodup_append]
          refine ⟨hf3.na, List.nodup_cons.mpr ⟨List.not_mem_nil, List.nodup_nil⟩, fun x hx y hy z => ?_⟩
          obtain ⟨t', ht', rfl⟩ := List.mem_map.mp hx
          rw [List.map_singleton, List.mem_singleton] at hy
          obtain ⟨ps3, hl3, _⟩ := hf3.rows t' ht'
          rw [z.trans hy, nL3] at hl3
          cases hl3
        · rcases List.mem_append.mp hx with hx | hx
          · obtain ⟨ps3, hl3, hr3⟩ := hf5.rows x hx
            obtain ⟨ps4, hl4, _⟩ := hf3.rows x hx
            exact ⟨ps3, up _ _ hl3 (ne_of hl3 hf5.dict (by intro z; cases z)) (fun z => by rw [z, nL3] at hl4; cases hl4), hr3.mono fun _ _ _ e => tup7 _ _ e⟩
          · rw [List.mem_singleton.mp hx]
            exact ⟨[q], hL7, AllAt.snoc AllAt.nil (tup7 _ _ (s5 _ _ hrow3))⟩
        · rcases List.mem_append.mp hx with hx | hx
          · exact hfr x hx
          · rw [List.mem_singleton.mp hx]
            exact ⟨nLH, fun z => by
              have z : L = lp := z
              rw [z, hlp3] at nL3
              cases nL3⟩
        · rw [take_snoc hr']
          exact found_new hfound hv'
    · rintro σ H3 ⟨v4, ts, rfl, s3, hlp3, hf3, hfr, htl, hfound⟩
      rw [List.length_map, hps.1, List.take_length] at hfound
      exact ⟨_, rfl, k H3 fd ts s3 nfd hf3 hfound⟩
end
end Jp
namespace Jp
open PySem PySem.Spec PyProof.Rows L2
open JpTally (Tally addT getA putA)
def GroupsAt (CG : Addr) (H : Hp) (a : Addr) (g : GroupsM) : Prop := ∃ lv d, At2 CG "variables" "sizes" H a (.ref lv) (.ref d) ∧ NumsAt H lv g.vars ∧ H d = some (.dT (g.sizes.map sEnt))
theorem GroupsAt.same {CG : Addr} {H H' : Hp} {a : Addr} {g : GroupsM} (h : GroupsAt CG H a g) (s : Same H H') : GroupsAt CG H' a g := by
  obtain ⟨lv, d, h1, h2, h3⟩ := h
  exact ⟨lv, d, h1.same s, s _ _ h2, s _ _ h3⟩
def spStillWanted (K : PySem.W.Frag) (CP : Addr) : Sp := fun vs H Q _ => ∃ (la lb : Addr) (asked : List Nat) (ps : List PartM), vs = [.ref la, .ref lb] ∧ SqL K H la (asked.map nV) ∧ PartsAt CP H lb ps ∧ asked.length + (ps.map (·.vars.length)).sum ≤ 1000 ∧
  ∀ H' p, Same H H' → H p = none → NumsAt H' p (stillM asked ps) → Q (.ref p) H'
theorem vadds_len : ∀ (l ks : List Nat), (l.foldl vadd ks).length ≤ ks.length + l.length
  | [], ks => Nat.le_refl _
  | v :: l, ks => by
    rw [List.foldl_cons, List.length_cons]
    have h := vadds_len l (vadd ks v)
    have : (vadd ks v).length ≤ ks.length + 1 := by
      unfold vadd
      split <;> simp
    omega
def stillK (ks : List Nat) (ps : List PartM) : List Nat := ps.foldl (fun ks p => p.vars.foldl vadd ks) ks
theorem stillK_len : ∀ (ps : List PartM) (ks : List Nat), (stillK ks ps).length ≤ ks.length + (ps.map (·.vars.length)).sum
  | [], ks => Nat.le_refl _
  | p :: ps, ks => by
    unfold stillK
    rw [List.foldl_cons, List.map_cons, List.sum_cons]
    have h := stillK_len ps (p.vars.foldl vadd ks)
    unfold stillK at h
    have := vadds_len p.vars ks
    omega
theorem still_len {asked : List Nat} {ps : List PartM} : (stillM asked ps).length ≤ asked.length + (ps.map (·.vars.length)).sum := by
  have h := stillK_len ps (asked.foldl vadd [])
  have h2 := vadds_len asked []
  unfold stillK at h
  unfold stillM
  simp at h2
  omega
theorem sum_take (l : List Nat) (i : Nat) : (l.take i).sum ≤ l.sum := by
  have h : (l.take i ++ l.drop i).sum = l.sum := by rw [List.take_append_drop]
  rw [List.sum_append] at h
  omega
section
variable {P : Program} {w : World} {K : PySem.W.Frag} {mg : Str → Option Value} {base : Heap} {CP CG : Addr}
theorem sc_sw : FnScope ["asked", "behind", "wanted", "variable", "part"] ["asked", "behind"] (defScope sStillWanted) := ⟨rfl, rfl, rfl, by decide +kernel, rfl, by decide +kernel, by decide +kernel⟩
theorem ok_stillWanted (F : Has K mg "still_wanted" sStillWanted ["asked", "behind"]) (N : Plain mg) (TP : Klass K mg "Part" CP ["variables", "rows"]) : Ok P w K mg base "still_wanted" 1 ["asked", "behind"] (spStillWanted K CP) := by
  obtain ⟨f, fd, F, M, kp, b⟩ := F
  refine ⟨f, fd, F.ok sc_sw (fun vs H Q E h => ?_) (fun cdv A outer s H vs Q E hr h => ?_), M, kp, b⟩
  · obtain ⟨la, lb, asked, ps, rfl, _⟩ := h
    rfl
  · obtain ⟨la, lb, asked, ps, rfl, hla, hlb, hln, k⟩ := h
    have hu := hu_of hr
    refine ⟨_, pss_cons (ps_set (i := 2) sc_sw.nd rfl (Or.inl rfl) pe_dnewK)
      (pss_cons (ps_for PassesOwn.never rfl (pi_list (pv 0)) (pg_name (i := 3) sc_sw.nd rfl (Or.inl rfl)) (pss_one (ps_dput hu (pv 2) (pv 3) pe_bl rfl)))
      (pss_cons (ps_for PassesOwn.never rfl (pi_list (pv 1)) (pg_name (i := 4) sc_sw.nd rfl (Or.inl rfl))
        (pss_one (ps_for PassesOwn.never rfl (pi_list (pe_fld (pv 4) rfl)) (pg_name (i := 3) sc_sw.nd rfl (Or.inl rfl)) (pss_one (ps_dput hu (pv 2) (pv 3) pe_bl rfl)))))
      (pss_one (ps_ret (pe_callTy (call_list_dK rfl) (by rfl) N.list (by decide +kernel) (pa_cons (pv 2) pa_nil)))))), ?_⟩
    intro d hd
    obtain ⟨as, hlb1, hlb2⟩ := hlb
    have s0 : Same H (upd H d (.dK [])) := same_upd hd
    have hd0 : upd H d (.dK []) d = some (.dK (([] : List Nat).map ent)) := upd_same
    generalize upd H d (.dK []) = H0 at s0 hd0
    refine ⟨_, rfl, la, rfl, ⟨_, s0.seq hla⟩, ?_⟩
    refine for_list (K := K) (a := la) (xs := asked.map nV) (fun i σ H' => ∃ v3 : Option V, σ = [some (.ref la), some (.ref lb), some (.ref d), v3, none] ∧ Same H H' ∧ H' d = some (.dK (((asked.take i).foldl vadd []).map ent))) ⟨none, rfl, s0, hd0⟩ (fun i σ H' _ ⟨_, _, s1, _⟩ => s1.seq hla) ?_ ?_
    · rintro i y σ H1 hi ⟨v3, rfl, s1, hd1⟩
      obtain ⟨v, hv, rfl⟩ := get_map hi
      have hl : ((asked.take i).foldl vadd []).length ≤ 1000 := by
        have h1 := vadds_len (asked.take i) []
        rw [List.length_take] at h1
        simp at h1
        omega
      refine ⟨_, rfl, _, rfl, d, _, rfl, DPut.k (k := Sum.inl (v : Int)) hd1 (by rw [List.length_map]; show _ < 2 ^ 24; omega), _, rfl, sameU s1 hd, ?_⟩
      rw [upd_same, putK_ent, take_snoc hv, List.foldl_append]
      rfl
    · rintro σ H1 ⟨v3, rfl, s1, hd1⟩
      rw [List.length_map, List.take_length] at hd1
      refine ⟨_, rfl, lb, rfl, ⟨_, SqL.of (s1 _ _ hlb1)⟩, ?_⟩
      refine for_list (K := K) (a := lb) (xs := as.map V.ref) (fun i σ H' => ∃ v3 v4 : Option V, σ = [some (.ref la), some (.ref lb), some (.ref d), v3, v4] ∧ Same H H' ∧ H' d = some (.dK ((stillK (asked.foldl vadd []) (ps.take i)).map ent))) ⟨_, _, rfl, s1, hd1⟩ (fun i σ H' _ ⟨_, _, _, s2, _⟩ => SqL.of (s2 _ _ hlb1)) ?_ ?_
      · rintro i y σ H2 hi ⟨v3, v4, rfl, s2, hd2⟩
        obtain ⟨a, ha, rfl⟩ := get_map hi
        obtain ⟨p, hp, hpart⟩ := hlb2.get ha
        obtain ⟨lv, lr, rs, ⟨dx, e1⟩, e2, e3, e4⟩ := (hpart.same s2).ex
        refine ⟨_, rfl, a, CP, dx, _, _, rfl, e1, TP.cl, TP.no _ (by simp), fs2_1, lv, rfl, ⟨_, SqL.of e2⟩, ?_⟩
        have hlv : H lv = some (.lst (p.vars.map nV)) := by
          obtain ⟨lv', lr', rs', ⟨dx', e1'⟩, e2', _⟩ := hpart.ex
          have e1'' := s2 _ _ e1'
          rw [e1] at e1''
          have := (HO.ins.inj (Option.some.inj e1'')).2.2
          have h0 : (V.ref lv : V) = V.ref lv' := (Prod.mk.inj (List.cons.inj this).1).2
          have h1 : lv = lv' := V.ref.inj h0
          rw [h1]
          exact e2'
        refine for_list (K := K) (a := lv) (xs := p.vars.map nV) (fun j σ H' => ∃ v3 : Option V, σ = [some (.ref la), some (.ref lb), some (.ref d), v3, some (.ref a)] ∧ Same H H' ∧ H' d = some (.dK (((p.vars.take j).foldl vadd (stillK (asked.foldl vadd []) (ps.take i))).map ent))) ⟨_, rfl, s2, hd2⟩ (fun j σ H' _ ⟨_, _, s3, _⟩ => SqL.of (s3 _ _ hlv)) ?_ ?_
        · rintro j y σ H3 hj ⟨v3', rfl, s3, hd3⟩
          obtain ⟨v, hv, rfl⟩ := get_map hj
          have hl : ((p.vars.take j).foldl vadd (stillK (asked.foldl vadd []) (ps.take i))).length ≤ 1000 := by
            have h1 := vadds_len (p.vars.take j) (stillK (asked.foldl vadd []) (ps.take i))
            have h2 := stillK_len (ps.take i) (asked.foldl vadd [])
            rw [List.map_take] at h2
            have h3 := vadds_len asked []
            have h4 := sum_take (ps.map (·.vars.length)) (i + 1)
            rw [← List.map_take, take_snoc hp, List.map_append, List.sum_append] at h4
            rw [List.length_take] at h1
            simp at h3 h4
            omega
          refine ⟨_, rfl, _, rfl, d, _, rfl, DPut.k (k := Sum.inl (v : Int)) hd3 (by rw [List.length_map]; show _ < 2 ^ 24; omega), _, rfl, sameU s3 hd, ?_⟩
          rw [upd_same, putK_ent, take_snoc hv, List.foldl_append]
          rfl
        · rintro σ H3 ⟨v3', rfl, s3, hd3⟩
          refine ⟨_, _, rfl, s3, ?_⟩
          rw [hd3, List.length_map, List.take_length, take_snoc hp]
          unfold stillK
          rw [List.foldl_append]
          rfl
      · rintro σ H2 ⟨v3, v4, rfl, s2, hd2⟩
        rw [List.length_map, hlb2.1, List.take_length] at hd2
        refine ⟨_, rfl, d, _, rfl, hd2, fun q hq => k _ q (s2.trans (same_upd hq)) (s2.free hq) ?_⟩
        show upd H2 q _ q = _
        rw [upd_same, List.map_map]
        rfl
/-- group + row -/
theorem cat_read {H : Hp} {a b : Addr} {x y : MdBase.Row} {Q : VK} (ha : RowAt H a x) (hb : RowAt H b y) (hl : x.length + y.length ≤ 1000) (k : ∀ H' t, Same H H' → RowAt H' t (x ++ y) → Q (.ref t) H') : rCatA K (.ref a) (.ref b) H Q := by
  refine ⟨a, b, _, _, rfl, rfl, SqT.of ha, SqT.of hb, (by rw [List.length_map, List.length_map]; show _ ≤ 2 ^ 24; omega), fun e => ?_, fun e1 e2 => ?_, fun e1 e2 p hp => ?_⟩
  · have e : x = [] := List.map_eq_nil_iff.mp e
    subst e
    exact k H b (Same.refl _) hb
  · have e : y = [] := List.map_eq_nil_iff.mp e2
    subst e
    refine k H a (Same.refl _) ?_
    rw [List.append_nil]
    exact ha
  · refine k _ p (same_upd hp) ?_
    show upd H p _ p = _
    rw [upd_same, List.map_append]
/-- what is asked of a joining -/
structure JoinOk (g : GroupsM) (p : PartM) (wanted : List Nat) : Prop where
  gv : g.vars.length ≤ 200
  pv : p.vars.length ≤ 100
  wv : wanted.length ≤ 1000
  gk : ∀ e ∈ g.sizes, e.1.length = g.vars.length
  pr : ∀ r ∈ p.rows, r.length = p.vars.length
  few : p.rows.length ≤ 1000
  all : (g.sizes.flatMap (grownOf g p wanted)).length ≤ 1000000
def spJoinedWith (CP CG : Addr) : Sp := fun vs H Q _ => ∃ (ga pa lw : Addr) (g : GroupsM) (p : PartM) (wanted : List Nat), vs = [.ref ga, .ref pa, .ref lw] ∧ GroupsAt CG H ga g ∧ PartAt CP H pa p ∧ NumsAt H lw wanted ∧ JoinOk g p wanted ∧
  ∀ H' q, Same H H' → H q = none → GroupsAt CG H' q (joinM g p wanted) → Q (.ref q) H'
theorem sc_jw : FnScope ["groups", "part", "wanted", "shared", "shared_places", "partners", "names", "kept", "kept_places", "grown", "group", "size", "row", "wider", "variable"] ["groups", "part", "wanted"] (defScope sJoinedWith) := ⟨rfl, rfl, rfl, by decide +kernel, rfl, by decide +kernel, by decide +kernel⟩
theorem addT_len (es : List (List Int × Nat)) : ∀ d : List (List Int × Nat), (es.foldl addT d).length ≤ d.length + es.length := by
  induction es with
  | nil => exact fun d => Nat.le_refl _
  | cons e es ih =>
    intro d
    rw [List.foldl_cons, List.length_cons]
    have h1 := ih (addT d e)
    have h2 : (addT d e).length ≤ d.length + 1 := JpTally.putA_length _ _ _
    omega
theorem ok_joinedWith (F : Has K mg "joined_with" sJoinedWith ["groups", "part", "wanted"]) (TP : Klass K mg "Part" CP ["variables", "rows"]) (TG : Klass K mg "Groups" CG ["variables", "sizes"]) (MG : Made P w K mg base CG 1 ["self", "variables", "sizes"] (spInit2 CG "variables" "sizes"))
    (GL : Ok P w K mg base "places_of" 1 ["variables", "among"] (spPlacesOf K)) (GP : Ok P w K mg base "pick" 1 ["source", "places"] spPick) (GR : Ok P w K mg base "rows_by" 2 ["part", "variables"] (spRowsBy CP)) :
    Ok P w K mg base "joined_with" 3 ["groups", "part", "wanted"] (spJoinedWith CP CG) := by
  obtain ⟨f, fd, F, M, kp, b⟩ := F
  refine ⟨f, fd, F.ok sc_jw (fun vs H Q E h => ?_) (fun cdv A outer s H vs Q E hr h => ?_), M, kp, b⟩
  · obtain ⟨ga, pa, lw, g, p, wanted, rfl, _⟩ := h
    rfl
  · obtain ⟨ga, pa, lw, g, p, wanted, rfl, hg, hp, hw, ok, k⟩ := h
    have hu := hu_of hr
    have hr1 : Room 1 _ := hr.mono (by decide)
    refine ⟨_, pss_cons (ps_setLc (i := 3) (own := [("variable", 14)]) (g := gName 14) rfl sc_jw.nd rfl rfl (sw_true rfl rfl rfl (by decide +kernel)) (pi_list (pe_fld (pv 0) rfl)) (blkOk_by (N := ["groups", "part", "wanted", "shared", "shared_places", "partners", "names", "kept", "kept_places", "grown", "group", "size", "row", "wider", "variable"]) (sc := defScope sJoinedWith) (by decide +kernel))
        (fun _ _ _ _ _ => pg_name (i := 14) sc_jw.nd rfl (Or.inl rfl)) (fun _ _ _ _ _ => pts_one (pt_cmpR (opIn K) (pv 14) (peF K (pv 1)) (by rfl))) (fun _ _ _ _ _ => pv 14))
      (pss_cons (ps_set (i := 4) sc_jw.nd rfl (Or.inl rfl) (pe_ok GL hr1 rfl (pa_cons (pv 3) (pa_cons (pe_fld (pv 0) rfl) pa_nil))))
      (pss_cons (ps_set (i := 5) sc_jw.nd rfl (Or.inl rfl) (pe_ok GR hr rfl (pa_cons (pv 1) (pa_cons (pv 3) pa_nil))))
      (pss_cons (ps_set (i := 6) sc_jw.nd rfl (Or.inr rfl) (pe_op op_cat (pe_fld (pv 0) rfl) (pe_fld (pv 1) rfl)))
      (pss_cons (ps_setLc (i := 7) (own := [("variable", 14)]) (g := gName 14) rfl sc_jw.nd rfl rfl (sw_true rfl rfl rfl (by decide +kernel)) (pi_list (pv 2)) (blkOk_by (N := ["groups", "part", "wanted", "shared", "shared_places", "partners", "names", "kept", "kept_places", "grown", "group", "size", "row", "wider", "variable"]) (sc := defScope sJoinedWith) (by decide +kernel))
        (fun _ _ _ _ _ => pg_name (i := 14) sc_jw.nd rfl (Or.inl rfl)) (fun _ _ _ _ _ => pts_one (pt_cmpR (opIn K) (pv 14) (pv 6) (by rfl))) (fun _ _ _ _ _ => pv 14))
      (pss_cons (ps_set (i := 8) sc_jw.nd rfl (Or.inl rfl) (pe_ok GL hr1 rfl (pa_cons (pv 7) (pa_cons (pv 6) pa_nil))))
      (pss_cons (ps_set (i := 9) sc_jw.nd rfl (Or.inl rfl) pe_dnewT)
      (pss_cons (ps_lock (ps_for PassesOwn.never rfl (pi_itemsT (pe_fld (pv 0) rfl)) (pg_tup rfl (pgs_cons (pg_name (i := 10) sc_jw.nd rfl (.inl rfl)) (pgs_cons (pg_name (i := 11) sc_jw.nd rfl (.inl rfl)) pgs_nil)))
        (pss_one (ps_for PassesOwn.never rfl (pi_list (pe_dget2 hu (pv 5) (pe_ok GP hr1 rfl (pa_cons (pv 10) (pa_cons (pv 4) pa_nil))) (pe_lst pa_nil) ⟨rfl, rfl, rfl, rfl⟩)) (pg_name (i := 12) sc_jw.nd rfl (Or.inl rfl))
          (pss_cons (ps_set (i := 13) sc_jw.nd rfl (Or.inl rfl) (pe_ok GP hr1 rfl (pa_cons (pe_op op_catA (pv 10) (pv 12)) (pa_cons (pv 8) pa_nil))))
          (pss_one (ps_dput hu (pv 9) (pv 13) (pe_op op_add (pe_dget2 hu (pv 9) (pv 13) pe_int ⟨rfl, rfl, rfl, rfl⟩) (pv 11)) rfl)))))))
      (pss_one (ps_ret (pe_new MG hr rfl TG.mgC (pa_cons (pv 7) (pa_cons (pv 9) pa_nil)))))))))))), ?_⟩
    obtain ⟨lgv, ds, ⟨dg, hga⟩, hgv, hds⟩ := hg
    obtain ⟨lpv, lpr, prs, ⟨dp, hpa⟩, hpv, hpr, hprs⟩ := id hp.ex
    have l1 := ok.gv
    have l2 := ok.pv
    have l3 := ok.wv
    -- shared
    refine ⟨_, rfl, ga, CG, dg, _, _, rfl, hga, TG.cl, TG.no _ (by simp), fs2_1, lgv, rfl, ⟨_, SqL.of hgv⟩, fun D hD => lc_filter (as := g.vars) (F := nV) (fun v => decide (v ∈ p.vars)) walk_list (fun i H x H' _ y => y) (by rw [List.length_map]) (fun H' b' => SqL.of (butSame hD b' _ _ hgv)) (by rw [List.length_map]; show _ ≤ 2 ^ 24; omega) (by show 14 < 15; decide) ?_ ?_⟩
    · intro i v H1 acc Nn hi hv b1 hD1 hN
      have s1 := butSame hD b1
      refine ⟨_, rfl, _, rfl, pa, CP, dp, _, _, rfl, s1 _ _ hpa, TP.cl, TP.no _ (by simp), fs2_1, lpv, _, rfl, Or.inl (SqL.of (s1 _ _ hpv)), rfl, flat_nVs _, _, rfl, ?_⟩
      have := hN H1 (Same.refl _)
      rw [← inV_nV] at this
      exact this
    intro H1 b1 hsh
    have s1 := butSame hD b1
    have hsh : NumsAt H1 D (sharedG g p) := hsh
    have nsh : (sharedG g p).length ≤ 200 := Nat.le_trans (List.length_filter_le _ _) l1
    have hsg : ∀ v ∈ sharedG g p, v ∈ g.vars := fun v hv => (List.mem_filter.mp hv).1
    have hsp : ∀ v ∈ sharedG g p, v ∈ p.vars := fun v hv => of_decide_eq_true (List.mem_filter.mp hv).2
    -- shared_places
    refine ⟨_, rfl, _, rfl, ga, CG, dg, _, _, rfl, s1 _ _ hga, TG.cl, TG.no _ (by simp), fs2_1, D, lgv, sharedG g p, g.vars, rfl, SqL.of hsh, s1 _ _ hgv, by omega, hsg, fun H2 lsp s2 nlsp hlsp => ?_⟩
    have s12 := s1.trans s2
    -- partners
    refine ⟨_, rfl, _, rfl, pa, D, p, sharedG g p, rfl, hp.same s12, s2 _ _ hsh, by omega, hsp, ok.few, ok.pr, fun H3 fdp ts s3 nfdp hfdp hfound => ?_⟩
    have s13 := s12.trans s3
    -- names
    refine ⟨_, rfl, ga, CG, dg, _, _, rfl, s13 _ _ hga, TG.cl, TG.no _ (by simp), fs2_1, _, rfl, pa, CP, dp, _, _, rfl, s13 _ _ hpa, TP.cl, TP.no _ (by simp), fs2_1, lgv, lpv, _, _, rfl, rfl, s13 _ _ hgv, s13 _ _ hpv, (by rw [List.length_map, List.length_map]; show _ ≤ 2 ^ 24; omega), fun ln hln => ?_⟩
    have s4 : Same H3 (upd H3 ln (.lst (g.vars.map nV ++ p.vars.map nV))) := same_upd hln
    have hnm : NumsAt (upd H3 ln (.lst (g.vars.map nV ++ p.vars.map nV))) ln (g.vars ++ p.vars) := by show upd _ _ _ _ = _; rw [upd_same, List.map_append]
    generalize upd H3 ln (.lst (g.vars.map nV ++ p.vars.map nV)) = H4 at s4 hnm
    have s14 := s13.trans s4
    -- kept
    refine ⟨_, rfl, lw, rfl, ⟨_, SqL.of (s14 _ _ hw)⟩, fun D5 hD5 => lc_filter (as := wanted) (F := nV) (fun v => decide (v ∈ g.vars ++ p.vars)) walk_list (fun i H x H' _ y => y) (by rw [List.length_map]) (fun H' b' => SqL.of (butSame hD5 b' _ _ (s14 _ _ hw))) (by rw [List.length_map]; show _ ≤ 2 ^ 24; omega) (by show 14 < 15; decide) ?_ ?_⟩
    · intro i v H5 acc Nn hi hv b5 hD5' hN
      have s5 := butSame hD5 b5
      refine ⟨_, rfl, _, rfl, ln, _, rfl, Or.inl (SqL.of (s5 _ _ hnm)), rfl, flat_nVs _, _, rfl, ?_⟩
      have := hN H5 (Same.refl _)
      rw [← inV_nV] at this
      exact this
    intro H5 b5 hkp
    have s5 := butSame hD5 b5
    have s15 := s14.trans s5
    have hkp : NumsAt H5 D5 (keptG g p wanted) := hkp
    have nkp : (keptG g p wanted).length ≤ 1000 := Nat.le_trans (List.length_filter_le _ _) l3
    have hks : ∀ v ∈ keptG g p wanted, v ∈ g.vars ++ p.vars := fun v hv => of_decide_eq_true (List.mem_filter.mp hv).2
    -- kept_places
    refine ⟨_, rfl, _, rfl, D5, ln, keptG g p wanted, g.vars ++ p.vars, rfl, SqL.of hkp, s5 _ _ hnm, nkp, hks, fun H6 lkp s6 nlkp hlkp => ?_⟩
    have s16 := s15.trans s6
    -- grown
    intro gd hgd
    have s7 : Same H6 (upd H6 gd (.dT [])) := same_upd hgd
    have hgd7 : upd H6 gd (.dT []) gd = some (.dT (([] : List (List Int × Nat)).map sEnt)) := upd_same
    have ngdH : H gd = none := s16.free hgd
    generalize upd H6 gd (.dT []) = H7 at s7 hgd7
    have s17 := s16.trans s7
    have hds7 := s17 _ _ hds
    have hgds : gd ≠ ds := fun z => by rw [z, hds] at ngdH; cases ngdH
    have hf7 := hfdp.same (((s4.trans s5).trans s6).trans s7)
    have hlsp7 : NumsAt H7 lsp _ := s7 _ _ (s6 _ _ (s5 _ _ (s4 _ _ (s3 _ _ hlsp))))
    have hlkp7 : NumsAt H7 lkp _ := s7 _ _ hlkp
    refine ⟨ds, _, hds7, trivial, fun od => ?_⟩
    -- what stands while the dict is locked, but for what grows
    have up : ∀ H', But gd (upd H7 ds (.frz od (.dT (g.sizes.map sEnt)))) H' → ∀ b o, H7 b = some o → b ≠ ds → b ≠ gd → H' b = some o := fun H' bt b o e n1 n2 => bt _ _ (by rw [upd_ne n1]; exact e) n2
    have upt : ∀ H', But gd (upd H7 ds (.frz od (.dT (g.sizes.map sEnt)))) H' → ∀ b xs, H7 b = some (.tup xs) → H' b = some (.tup xs) := fun H' bt b xs e => up H' bt b _ e (ne_of e hds7 (by intro z; cases z)) (ne_of e hgd7 (by intro z; cases z))
    have upl : ∀ H', But gd (upd H7 ds (.frz od (.dT (g.sizes.map sEnt)))) H' → ∀ b xs, H7 b = some (.lst xs) → H' b = some (.lst xs) := fun H' bt b xs e => up H' bt b _ e (ne_of e hds7 (by intro z; cases z)) (ne_of e hgd7 (by intro z; cases z))
    have nfd : fdp ≠ ds := fun z => by
      have h := hfdp.dict
      have h2 := s13 _ _ hds
      have hn : H fdp = none := s12.free nfdp
      rw [z, hds] at hn
      cases hn
    have nfg : fdp ≠ gd := fun z => by
      have h := s6 _ _ (s5 _ _ (s4 _ _ hfdp.dict))
      rw [z, hgd] at h
      cases h
    have upf : ∀ H', But gd (upd H7 ds (.frz od (.dT (g.sizes.map sEnt)))) H' → FoundAt H' fdp ts := fun H' bt => ⟨up H' bt _ _ hf7.dict nfd nfg, hf7.nk, hf7.na, fun t ht => let ⟨ps, e1, e2⟩ := hf7.rows t ht; ⟨ps, upl H' bt _ _ e1, e2.mono fun _ _ _ e => upt H' bt _ _ e⟩⟩
    have hdsf : ∀ H', But gd (upd H7 ds (.frz od (.dT (g.sizes.map sEnt)))) H' → H' ds = some (.frz od (.dT (g.sizes.map sEnt))) := fun H' bt => bt _ _ upd_same hgds.symm
    have insf : upd H7 ds (.frz od (.dT (g.sizes.map sEnt))) ga = some (.ins CG dg (fs2 "variables" "sizes" (.ref lgv) (.ref ds))) := by
      have h := s17 _ _ hga
      rw [upd_ne (ne_of h hds7 (by intro z; cases z))]
      exact h
    refine ⟨_, rfl, ga, CG, dg, _, _, rfl, insf, TG.cl, TG.no _ (by simp), fs2_2, ds, od, _, rfl, upd_same, ?_⟩
    refine for_it walk_itemsT (fun i σ H' => ∃ v10 v11 v12 v13 : Option V, σ = [some (.ref ga), some (.ref pa), some (.ref lw), some (.ref D), some (.ref lsp), some (.ref fdp), some (.ref ln), some (.ref D5), some (.ref lkp), some (.ref gd), v10, v11, v12, v13, none] ∧ But gd (upd H7 ds (.frz od (.dT (g.sizes.map sEnt)))) H' ∧ H' gd = some (.dT ((((g.sizes.take i).flatMap (grownOf g p wanted)).foldl addT []).map sEnt)))
      ⟨none, none, none, none, rfl, But.of_same (Same.refl _), by rw [upd_ne hgds]; exact hgd7⟩ (fun i σ H' _ ⟨_, _, _, _, _, bt, _⟩ => hdsf H' bt) ?_ ?_
    · rintro i y σ H8 H9 hi ⟨v10, v11, v12, v13, rfl, bt8, hg8⟩ ⟨T, k0, v0, qk, hkv, rfl, nT, hqk, rfl⟩
      have hi' : i < g.sizes.length := by rw [List.length_map] at hi; exact hi
      have hei : g.sizes[i]? = some g.sizes[i] := List.getElem?_eq_getElem hi'
      generalize g.sizes[i] = e at hei
      rw [List.getElem?_map, hei] at hkv
      obtain ⟨rfl, rfl⟩ : kI e.1 = k0 ∧ V.int (e.2 : Int) = v0 := ⟨congrArg Prod.fst (Option.some.inj hkv), congrArg Prod.snd (Option.some.inj hkv)⟩
      rw [kI_V] at hqk
      have hel : e.1.length = g.vars.length := ok.gk e (List.mem_of_getElem? hei)
      have bt9 : But gd (upd H7 ds (.frz od (.dT (g.sizes.map sEnt)))) (upd H8 T (.tup [V.ref qk, V.int (e.2 : Int)])) := bt8.trans (But.of_same (same_upd nT))
      have hg9 := same_upd (o := .tup [V.ref qk, V.int (e.2 : Int)]) nT _ _ hg8
      have hqk9 : RowAt (upd H8 T (.tup [V.ref qk, V.int (e.2 : Int)])) qk e.1 := same_upd nT _ _ hqk
      refine ⟨T, _, rfl, SqT.of upd_same, rfl, _, _, rfl, _, _, rfl, rfl, ?_⟩
      generalize upd H8 T (.tup [V.ref qk, V.int (e.2 : Int)]) = H9 at bt9 hg9 hqk9
      refine ⟨_, rfl, fdp, rfl, .inr ⟨_, .inl (upf H9 bt9).dict⟩, _, rfl, _, rfl, qk, lsp, placesM (sharedG g p) g.vars, rfl, upl H9 bt9 _ _ hlsp7, (by unfold placesM; rw [List.length_map]; omega), .inr ⟨e.1, hqk9, (fun x hx => by rw [hel]; exact place_lt hsg x hx), fun H10 t s10 nt ht => ?_⟩⟩
      refine ⟨Nat.zero_le _, fun L hL => ?_⟩
      have s11 : Same H9 (upd H10 L (.lst [])) := s10.trans (same_upd hL)
      have hL11 : upd H10 L (.lst []) L = some (.lst (([] : List Addr).map V.ref)) := upd_same
      have ht11 : RowAt (upd H10 L (.lst [])) t (pickT e.1 (placesM (sharedG g p) g.vars)) := same_upd hL _ _ ht
      have nLg : L ≠ gd := fun z => by rw [z, s10 _ _ hg9] at hL; cases hL
      generalize upd H10 L (.lst []) = H11 at s11 hL11 ht11
      have bt11 := bt9.trans (But.of_same s11)
      have hf11 := upf H11 bt11
      refine ⟨_, .inr ⟨_, kI (pickT e.1 (placesM (sharedG g p) g.vars)), t, .inl hf11.dict, rfl, by rw [kI_V]; exact ht11, rfl⟩, ?_⟩
      obtain ⟨la, rps, hval, hla, hrps, nla⟩ : ∃ la rps, (valV (ts.map trip) (kI (pickT e.1 (placesM (sharedG g p) g.vars)))).getD (.ref L) = .ref la ∧ H11 la = some (.lst (rps.map V.ref)) ∧ AllAt (RowAt H11) rps (partnersM p (sharedG g p) (pickT e.1 (placesM (sharedG g p) g.vars))) ∧ la ≠ gd := by
        have hv := valV_kI (fun t : Trip => t.1) (fun t => V.ref t.2.1) (pickT e.1 (placesM (sharedG g p) g.vars)) ts
        rw [show ts.map trip = ts.map fun t => (kI t.1, V.ref t.2.1) from rfl, hv]
        cases hfind : ts.find? fun t => decide (t.1 = pickT e.1 (placesM (sharedG g p) g.vars)) with
        | none =>
          refine ⟨L, [], rfl, hL11, ?_, nLg⟩
          have := (hfound (pickT e.1 (placesM (sharedG g p) g.vars))).2 (found_find.mp hfind)
          unfold partnersM
          rw [this]
          exact AllAt.nil
        | some u =>
          have hum := List.mem_of_find?_eq_some hfind
          have huk : u.1 = pickT e.1 (placesM (sharedG g p) g.vars) := of_decide_eq_true (List.find?_some (p := fun t : Trip => decide (t.1 = pickT e.1 (placesM (sharedG g p) g.vars))) hfind)
          obtain ⟨ps2, e1, e2⟩ := hf11.rows u hum
          refine ⟨u.2.1, ps2, rfl, e1, ?_, fun z => ?_⟩
          · have := (hfound _).1 u hum huk
            unfold partnersM
            rw [← this]
            exact e2
          · rw [z, s11 _ _ hg9] at e1
            cases e1
      rw [hval]
      have hpl : (partnersM p (sharedG g p) (pickT e.1 (placesM (sharedG g p) g.vars))).length ≤ 1000 := Nat.le_trans (List.length_filter_le _ _) ok.few
      have hprl : ∀ r ∈ partnersM p (sharedG g p) (pickT e.1 (placesM (sharedG g p) g.vars)), r.length = p.vars.length := fun r hr => ok.pr r (List.mem_filter.mp hr).1
      have egr : grownOf g p wanted e = (partnersM p (sharedG g p) (pickT e.1 (placesM (sharedG g p) g.vars))).map fun r => (pickT (e.1 ++ r) (placesM (keptG g p wanted) (g.vars ++ p.vars)), e.2) := rfl
      have htot : ((g.sizes.take (i + 1)).flatMap (grownOf g p wanted)) = ((g.sizes.take i).flatMap (grownOf g p wanted)) ++ grownOf g p wanted e := by
        rw [take_snoc hei, List.flatMap_append, List.flatMap_cons, List.flatMap_nil, List.append_nil]
      have hsum : ((g.sizes.take i).flatMap (grownOf g p wanted)).length + (grownOf g p wanted e).length ≤ 1000000 := by
        have h1 := ok.all
        have h2 : (g.sizes.flatMap (grownOf g p wanted)).length = ((g.sizes.take (i + 1)).flatMap (grownOf g p wanted)).length + ((g.sizes.drop (i + 1)).flatMap (grownOf g p wanted)).length := by
          rw [← List.length_append, ← List.flatMap_append, List.take_append_drop]
        rw [htot, List.length_append] at h2
        omega
      refine ⟨la, rfl, ⟨_, SqL.of hla⟩, ?_⟩
      refine for_list (K := K) (a := la) (xs := rps.map V.ref) (fun j σ H' => ∃ v12 v13 : Option V, σ = [some (.ref ga), some (.ref pa), some (.ref lw), some (.ref D), some (.ref lsp), some (.ref fdp), some (.ref ln), some (.ref D5), some (.ref lkp), some (.ref gd), some (.ref qk), some (.int (e.2 : Int)), v12, v13, none] ∧ But gd H11 H' ∧ H' gd = some (.dT (((((g.sizes.take i).flatMap (grownOf g p wanted)) ++ (grownOf g p wanted e).take j).foldl addT []).map sEnt)))
        ⟨_, _, rfl, But.of_same (Same.refl _), by rw [List.take_zero, List.append_nil]; exact s11 _ _ hg9⟩ (fun j σ H' _ ⟨_, _, _, bt, _⟩ => SqL.of (bt _ _ hla nla)) ?_ ?_
      · rintro j y σ H12 hj ⟨v12', v13', rfl, bt12, hg12⟩
        obtain ⟨rp, hrp, rfl⟩ := get_map hj
        obtain ⟨r, hr2, hrow⟩ := hrps.get hrp
        have hrl := hprl r (List.mem_of_getElem? hr2)
        have hj' : j < (grownOf g p wanted e).length := by
          rw [egr, List.length_map]
          exact (List.getElem?_eq_some_iff.mp hr2).1
        have hgj : (grownOf g p wanted e)[j]? = some (pickT (e.1 ++ r) (placesM (keptG g p wanted) (g.vars ++ p.vars)), e.2) := by
          rw [egr, List.getElem?_map, hr2]
          rfl
        have tupn : ∀ b xs, H11 b = some (.tup xs) → H12 b = some (.tup xs) := fun b xs e' => bt12 _ _ e' (ne_of e' (s11 _ _ hg9) (by intro z; cases z))
        have hlkp12 : NumsAt H12 lkp (placesM (keptG g p wanted) (g.vars ++ p.vars)) := bt12 _ _ (upl H11 bt11 _ _ hlkp7) (ne_of hlkp7 hgd7 (by intro z; cases z))
        refine ⟨_, rfl, _, rfl, cat_read (x := e.1) (y := r) (tupn _ _ (s11 _ _ hqk9)) (tupn _ _ hrow) (by omega) fun H13 t2 s13' ht2 => ?_⟩
        refine ⟨_, rfl, t2, lkp, placesM (keptG g p wanted) (g.vars ++ p.vars), rfl, s13' _ _ hlkp12, (by unfold placesM; rw [List.length_map]; exact nkp), .inr ⟨e.1 ++ r, ht2, (fun x hx => by rw [List.length_append, hel, hrl, ← List.length_append]; exact place_lt hks x hx), fun H14 tw s14' ntw htw => ?_⟩⟩
        have s1214 := s13'.trans s14'
        have hg14 := s1214 _ _ hg12
        have hdl : (((((g.sizes.take i).flatMap (grownOf g p wanted)) ++ (grownOf g p wanted e).take j).foldl addT [])).length ≤ 1000000 := by
          have h1 := addT_len (((g.sizes.take i).flatMap (grownOf g p wanted)) ++ (grownOf g p wanted e).take j) []
          rw [List.length_append, List.length_take, List.length_nil, Nat.zero_add] at h1
          omega
        have hg15 : (grownOf g p wanted e).take (j + 1) = (grownOf g p wanted e).take j ++ [(pickT (e.1 ++ r) (placesM (keptG g p wanted) (g.vars ++ p.vars)), e.2)] := take_snoc hgj
        rw [hg15, ← List.append_assoc]
        simp only [List.foldl_append, List.foldl_cons, List.foldl_nil]
        rw [List.foldl_append] at hg14 hdl
        generalize ((grownOf g p wanted e).take j).foldl addT (((g.sizes.take i).flatMap (grownOf g p wanted)).foldl addT []) = dd0 at hg14 hdl
        generalize pickT (e.1 ++ r) (placesM (keptG g p wanted) (g.vars ++ p.vars)) = key at htw
        have hv : (valV (dd0.map sEnt) (kI key)).getD (.int 0) = .int (((getA dd0 key).getD 0 : Nat) : Int) := by
          rw [valV_sEnt]
          cases getA dd0 key <;> rfl
        refine ⟨_, rfl, gd, rfl, .inr ⟨_, .inl hg14⟩, _, rfl, _, .inr ⟨_, kI key, tw, .inl hg14, rfl, by rw [kI_V]; exact htw, rfl⟩, _, rfl, _, _, hv, rfl, _, rfl, _, rfl, gd, _, rfl, DPut.t hg14 (by rw [kI_V]; exact htw) (by rw [List.length_map]; show _ < 2 ^ 24; omega), _, _, rfl, ?_, ?_⟩
        · exact (bt12.trans (But.of_same s1214)).upd
        · rw [upd_same]
          have ev : (V.int ((((getA dd0 key).getD 0 : Nat) : Int) + (e.2 : Int)) : V) = V.int (((getA dd0 key).getD 0 + e.2 : Nat) : Int) := by
            congr 1
          show some (HO.dT (putK (dd0.map sEnt) (kI key) (V.int ((((getA dd0 key).getD 0 : Nat) : Int) + (e.2 : Int))))) = _
          rw [ev, putK_sEnt]
          rfl
      · rintro σ H12 ⟨v12', v13', rfl, bt12, hg12⟩
        refine ⟨_, _, _, _, rfl, bt11.trans bt12, ?_⟩
        rw [List.length_map, hrps.1, ← List.length_map (f := fun r => (pickT (e.1 ++ r) (placesM (keptG g p wanted) (g.vars ++ p.vars)), e.2)), ← egr, List.take_length, ← htot] at hg12
        exact hg12
    · rintro σ H8 ⟨v10, v11, v12, v13, rfl, bt8, hg8⟩
      rw [List.length_map, List.take_length] at hg8
      refine ⟨hdsf H8 bt8, ?_⟩
      have s9 : Same H (upd H8 ds (.dT (g.sizes.map sEnt))) := fun b o e => by
        by_cases hb : b = ds
        · rw [hb, hds] at e
          cases e
          rw [hb]
          exact upd_same
        · rw [upd_ne hb]
          exact up H8 bt8 b o (s17 _ _ e) hb fun z => by rw [z, ngdH] at e; cases e
      have hg9 : upd H8 ds (.dT (g.sizes.map sEnt)) gd = some (.dT (((g.sizes.flatMap (grownOf g p wanted)).foldl addT []).map sEnt)) := by
        rw [upd_ne hgds]
        exact hg8
      have hk9 : NumsAt (upd H8 ds (.dT (g.sizes.map sEnt))) D5 (keptG g p wanted) := by
        have h7 := s7 _ _ (s6 _ _ hkp)
        show upd _ _ _ _ = _
        rw [upd_ne (ne_of h7 hds7 (by intro z; cases z))]
        exact upl H8 bt8 _ _ h7
      generalize upd H8 ds (.dT (g.sizes.map sEnt)) = H9 at s9 hg9 hk9
      refine ⟨_, rfl, _, rfl, fun x dx nx ndx ne => ⟨x, dx, _, _, rfl, upd_same, fun H10 hat k10 => ⟨rfl, ?_⟩⟩⟩
      have s10 : Same H9 H10 := Same.made nx ndx k10
      exact k H10 x (s9.trans s10) (s9.free nx) ⟨D5, gd, hat, s10 _ _ hk9, s10 _ _ hg9⟩
end
end Jp
namespace Jp
open PySem PySem.Spec PyProof.Rows L2
open MdBase (Term Atom varsOf)
open JpTally (Tally addT getA putA)
/-- parts of a question's atoms -/
structure FineP (ps : List PartM) : Prop where
  len : ps.length ≤ 5
  vars : ∀ p ∈ ps, p.vars.length ≤ 4
  rows : ∀ p ∈ ps, p.rows.length ≤ 10
  each : ∀ p ∈ ps, ∀ r ∈ p.rows, r.length = p.vars.length
def groupI (ps : List PartM) (asked : List Nat) : Nat → GroupsM
  | 0 => noneG
  | i + 1 => joinM (groupI ps asked i) (ps.getD i ⟨[], []⟩) (stillM asked (ps.drop (i + 1)))
theorem groupI_drop (ps : List PartM) (asked : List Nat) : ∀ i, i ≤ ps.length → groupL (groupI ps asked i) asked (ps.drop i) = groupM ps asked
  | 0, _ => by
    rw [List.drop_zero]
    rfl
  | i + 1, h => by
    rw [← groupI_drop ps asked i (by omega)]
    have hi : i < ps.length := h
    rw [List.drop_eq_getElem_cons hi, groupL, groupI, List.getD_eq_getElem?_getD, List.getElem?_eq_getElem hi]
    rfl
theorem groupI_all (ps : List PartM) (asked : List Nat) : groupI ps asked ps.length = groupM ps asked := by
  have h := groupI_drop ps asked ps.length (Nat.le_refl _)
  rw [List.drop_length] at h
  exact h
theorem sum_vars {ps : List PartM} (h : ∀ p ∈ ps, p.vars.length ≤ 4) : (ps.map (·.vars.length)).sum ≤ 4 * ps.length := by
  induction ps with
  | nil => exact Nat.le_refl _
  | cons p ps ih =>
    rw [List.map_cons, List.sum_cons, List.length_cons]
    have h1 := h p List.mem_cons_self
    have h2 := ih fun q hq => h q (List.mem_cons_of_mem _ hq)
    omega
theorem grown_len (g : GroupsM) (p : PartM) (wanted : List Nat) {n : Nat} (hp : p.rows.length ≤ n) : ∀ es : List (List Int × Nat), (es.flatMap (grownOf g p wanted)).length ≤ es.length * n
  | [] => Nat.zero_le _
  | e :: es => by
    rw [List.flatMap_cons, List.length_append, List.length_cons, Nat.succ_mul]
    have h1 := grown_len g p wanted hp es
    have h2 : (grownOf g p wanted e).length ≤ n := by
      unfold grownOf partnersM
      rw [List.length_map]
      exact Nat.le_trans (List.length_filter_le _ _) hp
    omega
theorem fold_keys {P : List Int → Prop} : ∀ (es d : List (List Int × Nat)), (∀ e ∈ es, P e.1) → (∀ e ∈ d, P e.1) → ∀ e ∈ es.foldl addT d, P e.1
  | [], d, _, hd => hd
  | x :: es, d, he, hd => by
    rw [List.foldl_cons]
    refine fold_keys es (addT d x) (fun e h => he e (List.mem_cons_of_mem _ h)) fun e h => ?_
    rcases JpTally.mem_putA h with rfl | ⟨h1, _⟩
    · exact he x List.mem_cons_self
    · exact hd e h1
/-- the groups stay small -/
theorem groupI_ok {ps : List PartM} {asked : List Nat} (h : FineP ps) (ha : asked.length ≤ 100) : ∀ i, i ≤ ps.length → (groupI ps asked i).vars.length ≤ 200 ∧ (groupI ps asked i).sizes.length ≤ 10 ^ i ∧ ∀ e ∈ (groupI ps asked i).sizes, e.1.length = (groupI ps asked i).vars.length
  | 0, _ => ⟨Nat.zero_le _, Nat.le_refl _, fun e he => by
      rw [List.mem_singleton.mp he]
      rfl⟩
  | i + 1, hi => by
    obtain ⟨h1, h2, h3⟩ := groupI_ok h ha i (by omega)
    have hi : i < ps.length := hi
    have hm : ps.getD i ⟨[], []⟩ ∈ ps := by
      rw [List.getD_eq_getElem?_getD, List.getElem?_eq_getElem hi]
      exact List.getElem_mem hi
    have hr := h.rows _ hm
    have hs := still_len (asked := asked) (ps := ps.drop (i + 1))
    have hv := sum_vars (ps := ps.drop (i + 1)) fun q hq => h.vars q (List.mem_of_mem_drop hq)
    have hl : (ps.drop (i + 1)).length ≤ 5 := by
      rw [List.length_drop]
      have := h.len
      omega
    refine ⟨?_, ?_, ?_⟩
    · show (keptG _ _ _).length ≤ 200
      refine Nat.le_trans (List.length_filter_le _ _) ?_
      omega
    · show (List.foldl addT [] _).length ≤ _
      have a1 := addT_len ((groupI ps asked i).sizes.flatMap (grownOf (groupI ps asked i) (ps.getD i ⟨[], []⟩) (stillM asked (ps.drop (i + 1))))) []
      have a2 := grown_len (groupI ps asked i) (ps.getD i ⟨[], []⟩) (stillM asked (ps.drop (i + 1))) hr (groupI ps asked i).sizes
      have a3 := Nat.mul_le_mul_right 10 h2
      rw [Nat.pow_succ]
      rw [List.length_nil, Nat.zero_add] at a1
      omega
    · show ∀ e ∈ List.foldl addT [] _, _
      refine fold_keys (P := fun k => k.length = (keptG (groupI ps asked i) (ps.getD i ⟨[], []⟩) (stillM asked (ps.drop (i + 1)))).length) _ [] (fun e he => ?_) fun e he => by cases he
      obtain ⟨x, _, hx⟩ := List.mem_flatMap.mp he
      obtain ⟨r, _, rfl⟩ := List.mem_map.mp hx
      unfold pickT placesM
      rw [List.length_map, List.length_map]
theorem join_okI {ps : List PartM} {asked : List Nat} (h : FineP ps) (ha : asked.length ≤ 100) {i : Nat} {p : PartM} (hp : ps[i]? = some p) : JoinOk (groupI ps asked i) p (stillM asked (ps.drop (i + 1))) := by
  obtain ⟨hi, e⟩ := List.getElem?_eq_some_iff.mp hp
  obtain ⟨h1, h2, h3⟩ := groupI_ok h ha i (Nat.le_of_lt hi)
  have hm := List.mem_of_getElem? hp
  have hv := h.vars p hm
  have hr := h.rows p hm
  have hs := still_len (asked := asked) (ps := ps.drop (i + 1))
  have hsv := sum_vars (ps := ps.drop (i + 1)) fun q hq => h.vars q (List.mem_of_mem_drop hq)
  have hl : (ps.drop (i + 1)).length ≤ 5 := by
    rw [List.length_drop]
    have := h.len
    omega
  refine ⟨h1, by omega, by omega, h3, h.each p hm, by omega, ?_⟩
  have a2 := grown_len (groupI ps asked i) p (stillM asked (ps.drop (i + 1))) hr (groupI ps asked i).sizes
  have a4 : (10 : Nat) ^ i ≤ 10 ^ 4 := Nat.pow_le_pow_right (by decide) (by have := h.len; omega)
  have a5 : (10 : Nat) ^ 4 = 10000 := by decide
  have a3 := Nat.mul_le_mul_right 10 h2
  omega
def spGroupWays (K : PySem.W.Frag) (CP CG : Addr) : Sp := fun vs H Q _ => ∃ (lp la : Addr) (ps : List PartM) (asked : List Nat), vs = [.ref lp, .ref la] ∧ PartsAt CP H lp ps ∧ SqL K H la (asked.map nV) ∧ FineP ps ∧ asked.length ≤ 100 ∧
  ∀ H' q, Same H H' → H q = none → GroupsAt CG H' q (groupM ps asked) → Q (.ref q) H'
def spCountWays (CP : Addr) : Sp := fun vs H Q _ => ∃ (lp : Addr) (ps : List PartM), vs = [.ref lp] ∧ PartsAt CP H lp ps ∧ FineP ps ∧ ∀ H', Same H H' → Q (nV (((groupM ps []).sizes.map (·.2)).sum)) H'
theorem cut_from {xs : List V} {i : Nat} : cutV xs (some (1 + (i : Int))) none = xs.drop (i + 1) := by
  have e : (1 + (i : Int)) = ((i + 1 : Nat) : Int) := by omega
  unfold cutV
  rw [e, HT.sIx_nat, HT.sIx_none, List.take_of_length_le (by rw [List.length_drop]; exact Nat.le_refl _)]
  rcases Nat.le_total (i + 1) xs.length with h | h
  · rw [Nat.min_eq_left h]
  · rw [Nat.min_eq_right h, List.drop_length, List.drop_of_length_le h]
section
variable {P : Program} {w : World} {K : PySem.W.Frag} {mg : Str → Option Value} {base : Heap} {CP CG : Addr}
theorem sc_gw : FnScope ["parts", "asked", "groups", "following", "part"] ["parts", "asked"] (defScope sGroupWays) := ⟨rfl, rfl, rfl, by decide +kernel, rfl, by decide +kernel, by decide +kernel⟩
theorem ok_groupWays (F : Has K mg "group_ways" sGroupWays ["parts", "asked"]) (N : Plain mg) (TG : Klass K mg "Groups" CG ["variables", "sizes"]) (MG : Made P w K mg base CG 1 ["self", "variables", "sizes"] (spInit2 CG "variables" "sizes"))
    (GJ : Ok P w K mg base "joined_with" 3 ["groups", "part", "wanted"] (spJoinedWith CP CG)) (GS : Ok P w K mg base "still_wanted" 1 ["asked", "behind"] (spStillWanted K CP)) : Ok P w K mg base "group_ways" 4 ["parts", "asked"] (spGroupWays K CP CG) := by
  obtain ⟨f, fd, F, M, kp, b⟩ := F
  refine ⟨f, fd, F.ok sc_gw (fun vs H Q E h => ?_) (fun cdv A outer s H vs Q E hr h => ?_), M, kp, b⟩
  · obtain ⟨lp, la, ps, asked, rfl, _⟩ := h
    rfl
  · obtain ⟨lp, la, ps, asked, rfl, hlp, hla, fine, hal, k⟩ := h
    have hu := hu_of hr
    have hr1 : Room 1 _ := hr.mono (by decide)
    have hr2 : Room 2 _ := hr.mono (by decide)
    refine ⟨_, pss_cons (ps_set (i := 2) sc_gw.nd rfl (Or.inl rfl) (pe_new MG hr2 rfl TG.mgC (pa_cons (pe_lst pa_nil) (pa_cons (pe_disp1T (Nat.lt_of_succ_lt hu) (pe_tup pa_nil) pe_int) pa_nil))))
      (pss_cons (ps_for PassesOwn.never rfl (pi_enumS rfl N.enumerate (pv 0) pe_int (by decide) (by decide)) (pg_tup rfl (pgs_cons (pg_name (i := 3) sc_gw.nd rfl (.inl rfl)) (pgs_cons (pg_name (i := 4) sc_gw.nd rfl (.inl rfl)) pgs_nil)))
        (pss_one (ps_set (i := 2) sc_gw.nd rfl (Or.inl rfl) (pe_ok GJ hr rfl (pa_cons (pv 2) (pa_cons (pv 4) (pa_cons (pe_ok GS hr1 rfl (pa_cons (pv 1) (pa_cons (pe_slice sl_list (pv 0) (po_some (pv 3)) po_none) pa_nil))) pa_nil)))))))
      (pss_one (ps_ret (pv 2)))), ?_⟩
    obtain ⟨as, hl1, hl2⟩ := hlp
    refine ⟨Nat.zero_le _, fun lv hlv => ?_⟩
    have s1 : Same H (upd H lv (.lst [])) := same_upd hlv
    have hlv1 : NumsAt (upd H lv (.lst [])) lv [] := upd_same
    generalize upd H lv (.lst []) = H1 at s1 hlv1
    intro d hd
    have s2 : Same H1 (upd H1 d (.dT [])) := same_upd hd
    have hd2 : upd H1 d (.dT []) d = some (.dT []) := upd_same
    generalize upd H1 d (.dT []) = H2 at s2 hd2
    refine ⟨Nat.zero_le _, fun t ht => ⟨same_upd ht _ _ hd2, t, [], rfl, upd_same, ?_⟩⟩
    have ndH : H d = none := s1.free hd
    have s4 : Same H (upd (upd H2 t (.tup [])) d (.dT [([], V.int 1)])) := fun b o e => by
      rw [upd_ne (fun z => by rw [z, ndH] at e; cases e)]
      exact same_upd ht _ _ (s2 _ _ (s1 _ _ e))
    have hd4 : upd (upd H2 t (.tup [])) d (.dT [([], V.int 1)]) d = some (.dT (noneG.sizes.map sEnt)) := upd_same
    have hlv4 : NumsAt (upd (upd H2 t (.tup [])) d (.dT [([], V.int 1)])) lv noneG.vars := by
      show upd _ _ _ _ = _
      rw [upd_ne (ne_of (s2 _ _ hlv1) hd2 (by intro z; cases z))]
      exact same_upd ht _ _ (s2 _ _ hlv1)
    generalize upd (upd H2 t (.tup [])) d (.dT [([], V.int 1)]) = H4 at s4 hd4 hlv4
    intro gq dx nx ndx ne
    refine ⟨gq, dx, _, _, rfl, upd_same, fun H5 hat k5 => ⟨rfl, ?_⟩⟩
    have s5 : Same H4 H5 := Same.made nx ndx k5
    have s15 := s4.trans s5
    have hg5 : GroupsAt CG H5 gq noneG := ⟨lv, d, hat, s5 _ _ hlv4, s5 _ _ hd4⟩
    have ngq : H gq = none := s4.free nx
    refine ⟨_, rfl, lp, as.map V.ref, rfl, SqL.of (s15 _ _ hl1), ?_⟩
    refine for_it walk_enumS (fun i σ H' => ∃ (gq : Addr) (v3 v4 : Option V), σ = [some (.ref lp), some (.ref la), some (.ref gq), v3, v4] ∧ Same H H' ∧ H gq = none ∧ GroupsAt CG H' gq (groupI ps asked i))
      ⟨gq, none, none, rfl, s15, ngq, hg5⟩ (fun i σ H' _ ⟨_, _, _, _, s', _⟩ => SqL.of (s' _ _ hl1)) ?_ ?_
    · rintro i y σ H6 H7 hi ⟨gq', v3, v4, rfl, s6, ngq', hg6⟩ ⟨T, x, z, rfl, nT, rfl, ex, ez⟩
      cases ex
      obtain ⟨ap, hap, rfl⟩ := get_map ez
      obtain ⟨p, hp, hpart⟩ := hl2.get hap
      have s7 : Same H6 (upd H6 T (.tup [V.int (1 + (i : Int)), V.ref ap])) := same_upd nT
      refine ⟨T, _, rfl, SqT.of upd_same, rfl, _, _, rfl, _, _, rfl, rfl, ?_⟩
      generalize upd H6 T (.tup [V.int (1 + (i : Int)), V.ref ap]) = H7 at s7
      have s17 := s6.trans s7
      refine ⟨_, rfl, _, rfl, _, rfl, _, rfl, _, rfl, (1 + (i : Int)), rfl, lp, _, rfl, SqL.of (s17 _ _ hl1), fun lb hlb => ?_⟩
      have s8 : Same H7 (upd H7 lb (.lst (cutV (as.map V.ref) (some (1 + (i : Int))) none))) := same_upd hlb
      have hlb8 : upd H7 lb (.lst (cutV (as.map V.ref) (some (1 + (i : Int))) none)) lb = some (.lst ((as.drop (i + 1)).map V.ref)) := by
        rw [upd_same, cut_from, List.map_drop]
      generalize upd H7 lb (.lst (cutV (as.map V.ref) (some (1 + (i : Int))) none)) = H8 at s8 hlb8
      have s18 := s17.trans s8
      have hdrop : AllAt (PartAt CP H8) (as.drop (i + 1)) (ps.drop (i + 1)) := ⟨by rw [List.length_drop, List.length_drop, hl2.1], fun j q z h1 h2 => by
        rw [List.getElem?_drop] at h1 h2
        exact (hl2.2 _ q z h1 h2).same s18⟩
      have hsv := sum_vars (ps := ps.drop (i + 1)) fun q hq => fine.vars q (List.mem_of_mem_drop hq)
      have hl : (ps.drop (i + 1)).length ≤ 5 := by
        rw [List.length_drop]
        have := fine.len
        omega
      refine ⟨la, lb, asked, ps.drop (i + 1), rfl, s18.seq hla, ⟨_, hlb8, hdrop⟩, by omega, fun H9 lw s9 nlw hlw => ?_⟩
      have s19 := s18.trans s9
      refine ⟨gq', ap, lw, groupI ps asked i, p, stillM asked (ps.drop (i + 1)), rfl, hg6.same ((s7.trans s8).trans s9), hpart.same s19, hlw, join_okI fine hal hp, fun H10 q s10 nq hq => ?_⟩
      refine ⟨q, _, _, rfl, s19.trans s10, s19.free nq, ?_⟩
      show GroupsAt CG H10 q (joinM _ (ps.getD i ⟨[], []⟩) _)
      rw [List.getD_eq_getElem?_getD, hp]
      exact hq
    · rintro σ H6 ⟨gq', v3, v4, rfl, s6, ngq', hg6⟩
      rw [List.length_map, hl2.1, groupI_all] at hg6
      exact ⟨_, rfl, k H6 gq' s6 ngq' hg6⟩
theorem sc_cw : FnScope ["parts"] ["parts"] (defScope sCountWays) := ⟨rfl, rfl, rfl, by decide +kernel, rfl, by decide +kernel, by decide +kernel⟩
theorem ok_countWays (F : Has K mg "count_ways" sCountWays ["parts"]) (N : Plain mg) (TG : Klass K mg "Groups" CG ["variables", "sizes"]) (GG : Ok P w K mg base "group_ways" 4 ["parts", "asked"] (spGroupWays K CP CG)) : Ok P w K mg base "count_ways" 5 ["parts"] (spCountWays CP) := by
  obtain ⟨f, fd, F, M, kp, b⟩ := F
  refine ⟨f, fd, F.ok sc_cw (fun vs H Q E h => ?_) (fun cdv A outer s H vs Q E hr h => ?_), M, kp, b⟩
  · obtain ⟨lp, ps, rfl, _⟩ := h
    rfl
  · obtain ⟨lp, ps, rfl, hlp, fine, k⟩ := h
    refine ⟨_, pss_one (ps_ret (pe_callB (cr_sumV rfl) (by rfl) N.sum (by decide +kernel) (pa_cons (pe_bm0 PySem.F.plainAttrs_dict PySem.F.slot_dict_values PySem.F.type_dict_values mt_valuesT (pe_fld (pe_ok GG hr rfl (pa_cons (pv 0) (pa_cons (pe_lst pa_nil) pa_nil))) rfl)) pa_nil))), ?_⟩
    refine ⟨_, rfl, Nat.zero_le _, fun la hla => ⟨lp, la, ps, [], rfl, hlp.same (same_upd hla), SqL.of upd_same, fine, Nat.zero_le _, fun H2 q s2 nq ⟨lv, d, ⟨dx, hat⟩, hv, hd⟩ => ?_⟩⟩
    refine ⟨q, CG, dx, _, _, rfl, hat, TG.cl, TG.no _ (by simp), fs2_2, .inr (.inr (.inl ⟨rfl, .inr ⟨_, hd⟩⟩)), d, _, rfl, rfl, hd, fun vw hvw => ?_⟩
    refine ⟨vw, d, _, ((groupM ps []).sizes.map fun e => (e.2 : Int)), rfl, upd_same, same_upd hvw _ _ hd, ?_, ?_⟩
    · rw [List.map_map, List.map_map]
      rfl
    · have e : ((groupM ps []).sizes.map fun e => (e.2 : Int)).sum = ((((groupM ps []).sizes.map (·.2)).sum : Nat) : Int) := by
        rw [← sum_cast, List.map_map]
        rfl
      rw [e]
      exact k _ (((same_upd hla).trans s2).trans (same_upd hvw))
end
end Jp
/-! The state: a mirror of it, how it lies in the heap, what leaves it as it is. -/
namespace Jp
open PySem PySem.Spec PyProof.Rows L2
open MdBase (Term Atom varsOf)
/-- tables by their columns, their rows as they came; the question -/
structure Mir where
  cols : List Nat
  tabs : List (List MdBase.Row)
  asked : List Atom
def Mir.toS (M : Mir) : Md49.St := ⟨M.cols, M.tabs.map MdBase.sorted, M.asked⟩
structure Wf (M : Mir) : Prop where
  len : M.tabs.length = M.cols.length
  c4 : ∀ c ∈ M.cols, c ≤ 4
  t6 : M.cols.length ≤ 6
  nd : ∀ r ∈ M.tabs, r.Nodup
  few : ∀ r ∈ M.tabs, r.length ≤ 10
  rl : ∀ (i c : Nat) (r : List MdBase.Row), M.cols[i]? = some c → M.tabs[i]? = some r → ∀ x ∈ r, x.length = c
  good : ∀ a ∈ M.asked, JpRead.Good M.cols a
  a5 : M.asked.length ≤ 5
theorem Wf.small {M : Mir} (h : Wf M) : Small M.asked := fun a ha => (h.good a ha).var
theorem Wf.tab {M : Mir} (h : Wf M) {a : Atom} (ha : a ∈ M.asked) : ∃ r, M.tabs[a.rel]? = some r ∧ M.tabs.getD a.rel [] = r ∧ r ∈ M.tabs := by
  have hl : a.rel < M.tabs.length := by rw [h.len]; exact (h.good a ha).rel
  refine ⟨M.tabs[a.rel], List.getElem?_eq_getElem hl, ?_, List.getElem_mem hl⟩
  rw [List.getD_eq_getElem?_getD, List.getElem?_eq_getElem hl]
  rfl
theorem Wf.fair {M : Mir} (h : Wf M) : Fair M.tabs M.asked := by
  refine ⟨fun a ha => ?_, fun a ha x hx => ?_, fun a ha => ?_, fun a ha => ?_, h.a5⟩
  · obtain ⟨r, _, e, m⟩ := h.tab ha
    rw [e]
    exact h.nd r m
  · obtain ⟨r, g, e, m⟩ := h.tab ha
    rw [e] at hx
    exact h.rl a.rel _ r (h.good a ha).len g x hx
  · obtain ⟨r, _, e, m⟩ := h.tab ha
    rw [e]
    exact h.few r m
  · exact h.c4 _ (List.mem_of_getElem? (h.good a ha).len)
def Mir.start : Mir := ⟨[], [], []⟩
theorem wf_start : Wf Mir.start := ⟨rfl, fun c h => by simp [Mir.start] at h, Nat.zero_le _, fun r h => by simp [Mir.start] at h, fun r h => by simp [Mir.start] at h, fun i c r h => by simp [Mir.start] at h, fun a h => by simp [Mir.start] at h, Nat.zero_le _⟩
/-- where the lists, tables and atoms stand -/
structure Lay where
  lt : Addr
  lq : Addr
  tas : List Addr
  lrs : List Addr
  as : List Addr
  als : List Addr
/-- the lists -/
def Lay.own (L : Lay) : List Addr := L.lt :: L.lq :: (L.lrs ++ L.als)
theorem Lay.own_lt {L : Lay} : L.lt ∈ L.own := by simp [Lay.own]
theorem Lay.own_lq {L : Lay} : L.lq ∈ L.own := by simp [Lay.own]
theorem Lay.own_lr {L : Lay} {l : Addr} (h : l ∈ L.lrs) : l ∈ L.own := by simp [Lay.own, h]
theorem Lay.own_al {L : Lay} {l : Addr} (h : l ∈ L.als) : l ∈ L.own := by simp [Lay.own, h]
/-- a table's rows at their list -/
def RowsL (H : Hp) (lr : Addr) (rows : List MdBase.Row) : Prop := ∃ rps, H lr = some (.lst (rps.map V.ref)) ∧ AllAt (RowAt H) rps rows
structure StAt (CS CT CA : Addr) (H : Hp) (st : Addr) (L : Lay) (M : Mir) : Prop where
  store : At2 CS "tables" "question" H st (.ref L.lt) (.ref L.lq)
  lt : H L.lt = some (.lst (L.tas.map V.ref))
  lq : H L.lq = some (.lst (L.as.map V.ref))
  n1 : L.tas.length = M.cols.length
  n2 : L.lrs.length = M.cols.length
  tab : ∀ (i : Nat) (ta lr : Addr) (c : Nat), L.tas[i]? = some ta → L.lrs[i]? = some lr → M.cols[i]? = some c → TableAt CT H ta lr c
  rows : AllAt (RowsL H) L.lrs M.tabs
  q1 : L.as.length = M.asked.length
  q2 : L.als.length = M.asked.length
  atm : ∀ (i : Nat) (a l : Addr) (x : Atom), L.as[i]? = some a → L.als[i]? = some l → M.asked[i]? = some x → ∃ ta, L.tas[x.rel]? = some ta ∧ AtomAt CA H a ta l x.args
  nd : (L.lt :: L.lrs).Nodup
  nq : L.lq ∉ L.lt :: L.lrs
  na : ∀ l ∈ L.als, l ∉ L.lt :: L.lrs
  wf : Wf M
/-- the state stands where all its parts do -/
theorem StAt.keep {CS CT CA : Addr} {H H' : Hp} {st : Addr} {L : Lay} {M : Mir} (h : StAt CS CT CA H st L M) (hi : ∀ a C dx f g x y, H a = some (.ins C dx (fs2 f g x y)) → (f = "tables" ∨ f = "columns" ∨ f = "table") → H' a = some (.ins C dx (fs2 f g x y)))
    (hl : ∀ a xs, H a = some (.lst xs) → a ∈ L.own → H' a = some (.lst xs)) (ht : ∀ a xs, H a = some (.tup xs) → H' a = some (.tup xs)) : StAt CS CT CA H' st L M := by
  refine ⟨?_, hl _ _ h.lt Lay.own_lt, hl _ _ h.lq Lay.own_lq, h.n1, h.n2, ?_, ?_, h.q1, h.q2, ?_, h.nd, h.nq, h.na, h.wf⟩
  · obtain ⟨dx, e⟩ := h.store
    exact ⟨dx, hi _ _ _ _ _ _ _ e (Or.inl rfl)⟩
  · intro i ta lr c h1 h2 h3
    obtain ⟨dx, e⟩ := h.tab i ta lr c h1 h2 h3
    exact ⟨dx, hi _ _ _ _ _ _ _ e (Or.inr (Or.inl rfl))⟩
  · exact h.rows.mono fun p x hp ⟨rps, e1, e2⟩ => ⟨rps, hl _ _ e1 (Lay.own_lr hp), e2.mono fun _ _ _ e => ht _ _ e⟩
  · intro i a l x h1 h2 h3
    obtain ⟨ta, e1, ⟨⟨dx, e2⟩, ps, e3, e4⟩⟩ := h.atm i a l x h1 h2 h3
    exact ⟨ta, e1, ⟨dx, hi _ _ _ _ _ _ _ e2 (Or.inr (Or.inr rfl))⟩, ps, hl _ _ e3 (Lay.own_al (List.mem_of_getElem? h2)), e4.mono fun _ _ _ e => ht _ _ e⟩
theorem StAt.same {CS CT CA : Addr} {H H' : Hp} {st : Addr} {L : Lay} {M : Mir} (h : StAt CS CT CA H st L M) (s : Same H H') : StAt CS CT CA H' st L M := h.keep (fun _ _ _ _ _ _ _ e _ => s _ _ e) (fun _ _ e _ => s _ _ e) (fun _ _ e => s _ _ e)
theorem StAt.but {CS CT CA D : Addr} {H H' : Hp} {st : Addr} {L : Lay} {M : Mir} {xs : List V} (h : StAt CS CT CA H st L M) (hD : H D = some (.lst xs)) (hn : D ∉ L.own) (b : But D H H') : StAt CS CT CA H' st L M :=
  h.keep (fun _ _ _ _ _ _ _ e _ => b _ _ e (ne_of e hD (by intro q; cases q))) (fun _ _ e m => b _ _ e fun q => hn (q ▸ m)) (fun _ _ e => b _ _ e (ne_of e hD (by intro q; cases q)))
theorem fs2_inj {f g f' g' : Str} {x y x' y' : V} (h : fs2 f g x y = fs2 f' g' x' y') : f = f' := (Prod.mk.inj (List.cons.inj h).1).1
/-- an object of another kind is changed -/
theorem StAt.reader {CS CT CA D : Addr} {H H' : Hp} {st : Addr} {L : Lay} {M : Mir} {C dx : Addr} {x y : V} (h : StAt CS CT CA H st L M) (hD : H D = some (.ins C dx (fs2 "numbers" "place" x y))) (b : But D H H') : StAt CS CT CA H' st L M := by
  refine h.keep (fun a C' dx' f g x' y' e hf => b _ _ e (ne_of e hD (fun q => ?_))) (fun _ _ e _ => b _ _ e (ne_of e hD (by intro q; cases q))) (fun _ _ e => b _ _ e (ne_of e hD (by intro q; cases q)))
  have e1 := fs2_inj (HO.ins.inj q).2.2
  subst e1
  rcases hf with q | q | q <;> exact absurd q (by decide +kernel)
/-- what a call leaves: the state, the answer's list; all else stands -/
def Post (CS CT CA : Addr) (H : Hp) (st : Addr) (L : Lay) (H' : Hp) (p : Addr) (M' : Mir) (ans : List Int) : Prop :=
  ∃ L', StAt CS CT CA H' st L' M' ∧ (∀ b o, H b = some o → b ∉ st :: L.own → H' b = some o) ∧ (∀ l ∈ L'.own, l ∈ L.own ∨ H l = none) ∧ H p = none ∧ p ∉ L'.own ∧ H' p = some (.lst (ans.map V.int))
/-- .. where nothing of the state was changed -/
theorem post_same {CS CT CA : Addr} {H H' : Hp} {st p : Addr} {L : Lay} {M : Mir} {ans : List Int} (h : StAt CS CT CA H st L M) (own : ∀ l ∈ L.own, H l ≠ none) (s : Same H H') (np : H p = none) (hp : H' p = some (.lst (ans.map V.int))) : Post CS CT CA H st L H' p M ans :=
  ⟨L, h.same s, fun b o e _ => s b o e, fun l hl => Or.inl hl, np, fun q => own p q np, hp⟩
theorem StAt.owned {CS CT CA : Addr} {H : Hp} {st : Addr} {L : Lay} {M : Mir} (h : StAt CS CT CA H st L M) : ∀ l ∈ L.own, ∃ xs, H l = some (.lst xs) := by
  intro l hl
  simp only [Lay.own, List.mem_cons, List.mem_append] at hl
  rcases hl with rfl | rfl | hl | hl
  · exact ⟨_, h.lt⟩
  · exact ⟨_, h.lq⟩
  · obtain ⟨i, hi⟩ := List.mem_iff_getElem?.mp hl
    obtain ⟨x, _, rps, e, _⟩ := h.rows.get hi
    exact ⟨_, e⟩
  · obtain ⟨i, hi⟩ := List.mem_iff_getElem?.mp hl
    have hlt : i < M.asked.length := by rw [← h.q2]; exact (List.getElem?_eq_some_iff.mp hi).1
    have hlt2 : i < L.as.length := by rw [h.q1]; exact hlt
    obtain ⟨ta, _, _, ps, e, _⟩ := h.atm i _ l _ (List.getElem?_eq_getElem hlt2) hi (List.getElem?_eq_getElem hlt)
    exact ⟨_, e⟩
theorem post_pure {CS CT CA : Addr} {H H' : Hp} {st p : Addr} {L : Lay} {M : Mir} {ans : List Int} (h : StAt CS CT CA H st L M) (s : Same H H') (np : H p = none) (hp : H' p = some (.lst (ans.map V.int))) : Post CS CT CA H st L H' p M ans :=
  post_same h (fun l hl q => by obtain ⟨xs, e⟩ := h.owned l hl; rw [e] at q; cases q) s np hp
end Jp
namespace Jp
open PySem PySem.Spec PyProof.Rows L2
/-- a method of the text; one that keeps its promise -/
def HasM (K : PySem.W.Frag) (C : Addr) (m qual : Str) (st : Stmt) (ps : List Str) : Prop := ∃ f fd, Fun K m qual st f fd ∧ Meth K C m f ∧ Binds K fd ps []
def OkM (P : Program) (w : World) (K : PySem.W.Frag) (mg : Str → Option Value) (base : Heap) (C : Addr) (m : Str) (k : Nat) (ps : List Str) (sp : Sp) : Prop :=
  ∃ f fd, FnOk P w K mg base CX0 k f fd ps sp ∧ Meth K C m f ∧ Binds K fd ps []
theorem pe_okM0 {X : Cx} {C : Addr} {m : Str} {k : Nat} {ps : List Str} {sp : Sp} {o : Expr} {apos pos : Pos} {ta : TE} {pl : Sem Bool} (h : OkM X.prog X.w X.K X.mg X.base C m k ps sp) (c : Cls X.K C) (hr : Room k X.A) (he : PE X o ta)
    (ht : eval (.Call (.Attribute o m apos) [] [] pos) X.env = (do
      let ov ← eval o X.env
      standAt apos.atName
      let (f, first) ← holding [ov] (getMethod ov m pl)
      callWith pos f first (backTo pos (starEach [] X.env)) (backToKw pos (keywordEach [] X.env))) := by rfl) : PE X (.Call (.Attribute o m apos) [] [] pos) (tMeth C m sp [] E0 ta tNil) := by
  obtain ⟨f, fd, F, M, b⟩ := h
  exact pe_meth0 he c M F hr b .nil pass0 ht
def ReadAt (C : Addr) (H : Hp) (rd ln : Addr) (pl : Nat) : Prop := At2 C "numbers" "place" H rd (.ref ln) (nV pl)
def spReaderInit (C : Addr) : Sp := fun vs H Q _ => ∃ (p dx : Addr) (x : V), vs = [.ref p, x] ∧ H p = some (.ins C dx []) ∧ ∀ H' : Hp, At2 C "numbers" "place" H' p x (nV 0) → (∀ b o, H b = some o → b ≠ p → H' b = some o) → Q .non H'
def spHasMore (K : PySem.W.Frag) (C : Addr) : Sp := fun vs H Q _ => ∃ (rd ln : Addr) (pl : Nat) (ns : List Int), vs = [.ref rd] ∧ ReadAt C H rd ln pl ∧ SqL K H ln (ns.map V.int) ∧ Q (.bl (decide (pl < ns.length))) H
def spTakeNumber (K : PySem.W.Frag) (C : Addr) : Sp := fun vs H Q _ => ∃ (rd ln : Addr) (pl : Nat) (ns : List Int) (z : Int), vs = [.ref rd] ∧ ReadAt C H rd ln pl ∧ SqL K H ln (ns.map V.int) ∧ ns[pl]? = some z ∧ ∀ H', ReadAt C H' rd ln (pl + 1) → But rd H H' → Q (.int z) H'
/-- the list's own count stands ahead of it -/
def spTakeList (K : PySem.W.Frag) (C : Addr) : Sp := fun vs H Q _ => ∃ (rd ln : Addr) (pl n : Nat) (ns : List Int), vs = [.ref rd] ∧ ReadAt C H rd ln pl ∧ SqL K H ln (ns.map V.int) ∧ ns[pl]? = some (n : Int) ∧ pl + 1 + n ≤ ns.length ∧
  ∀ H' p, ReadAt C H' rd ln (pl + 1 + n) → But rd H H' → H p = none → H' p = some (.lst (((ns.drop (pl + 1)).take n).map V.int)) → Q (.ref p) H'
theorem sqL_but {K : PySem.W.Frag} {D : Addr} {H H' : Hp} {a : Addr} {xs : List V} (h : SqL K H a xs) (hD : ∀ u, H D = some u → u ≠ .lst xs ∧ ∀ o, u ≠ .frz o (.lst xs)) (b : But D H H') : SqL K H' a xs := by
  rcases h with (h | ⟨o, h⟩) | h
  · exact .inl (.inl (b _ _ h fun q => by rw [q] at h; exact (hD _ h).1 rfl))
  · exact .inl (.inr ⟨o, b _ _ h fun q => by rw [q] at h; exact (hD _ h).2 o rfl⟩)
  · exact .inr h
theorem sqL_ins {K : PySem.W.Frag} {D C dx : Addr} {fs : List (Str × V)} {H H' : Hp} {a : Addr} {xs : List V} (h : SqL K H a xs) (hD : H D = some (.ins C dx fs)) (b : But D H H') : SqL K H' a xs :=
  sqL_but h (fun u e => by rw [hD] at e; cases e; exact ⟨(by intro q; cases q), (by intro o q; cases q)⟩) b
theorem cut_mid {xs : List V} {i n : Nat} (h : i + n ≤ xs.length) : cutV xs (some (i : Int)) (some ((i : Int) + (n : Int))) = (xs.drop i).take n := by
  have e : (i : Int) + (n : Int) = ((i + n : Nat) : Int) := by omega
  unfold cutV
  rw [e, HT.sIx_nat, HT.sIx_nat, Nat.min_eq_left h, Nat.min_eq_left (by omega : i ≤ xs.length), Nat.add_sub_cancel_left]
section
variable {P : Program} {w : World} {K : PySem.W.Frag} {mg : Str → Option Value} {base : Heap} {C : Addr}
theorem sc_ri : FnScope ["self", "numbers"] ["self", "numbers"] (defScope sReaderInit) := ⟨rfl, rfl, rfl, by decide +kernel, rfl, by decide +kernel, by decide +kernel⟩
theorem ok_readerInit (F : HasInit K "Reader.__init__" C sReaderInit ["self", "numbers"]) (T : Klass K mg "Reader" C ["numbers", "place"]) : Made P w K mg base C 1 ["self", "numbers"] (spReaderInit C) := by
  obtain ⟨f, fd, F, M, b⟩ := F
  refine ⟨f, fd, F.ok sc_ri (fun vs H Q E h => ?_) (fun cdv A outer s H vs Q E hr h => ?_), M, b⟩
  · obtain ⟨p, dx, x, rfl, _⟩ := h
    rfl
  · obtain ⟨p, dx, x, rfl, hp, k⟩ := h
    refine ⟨_, pss_cons (ps_fld (pv 0) (pv 1) rfl) (pss_one (ps_fld (pv 0) pe_int rfl)), ?_⟩
    refine ⟨_, rfl, _, rfl, p, C, dx, [], rfl, hp, T.cl, T.no _ (by simp), (by show 0 < 1000; decide), ?_⟩
    refine ⟨_, rfl, p, C, dx, _, rfl, upd_same, T.cl, T.no _ (by simp), (by show 1 < 1000; decide), ?_⟩
    exact k _ ⟨dx, upd_same.trans (congrArg (fun q => some (HO.ins C dx q)) fs2_new)⟩ fun b o e hb => by rw [upd_ne hb, upd_ne hb]; exact e
theorem sc_hs : FnScope ["self"] ["self"] (defScope sHasMore) := ⟨rfl, rfl, rfl, by decide +kernel, rfl, by decide +kernel, by decide +kernel⟩
theorem ok_hasMore (F : HasM K C "has_more" "Reader.has_more" sHasMore ["self"]) (N : Plain mg) (T : Klass K mg "Reader" C ["numbers", "place"]) : OkM P w K mg base C "has_more" 1 ["self"] (spHasMore K C) := by
  obtain ⟨f, fd, F, M, b⟩ := F
  refine ⟨f, fd, F.ok sc_hs (fun vs H Q E h => ?_) (fun cdv A outer s H vs Q E hr h => ?_), M, b⟩
  · obtain ⟨rd, ln, pl, ns, rfl, _⟩ := h
    rfl
  · obtain ⟨rd, ln, pl, ns, rfl, ⟨dx, hd⟩, hs, k⟩ := h
    refine ⟨_, pss_one (ps_ret (pe_cmpR op_lt (pe_fld (pv 0) rfl) (pe_callB call_len_seq (by rfl) N.len PySem.boot_len (pa_cons (pe_fld (pv 0) rfl) pa_nil)) (nomark _))), ?_⟩
    refine ⟨_, rfl, rd, C, dx, _, _, rfl, hd, T.cl, T.no _ (by simp), fs2_2, _, rfl, rd, C, dx, _, _, rfl, hd, T.cl, T.no _ (by simp), fs2_1, ln, _, rfl, Or.inl hs, _, _, rfl, rfl, ?_⟩
    rw [List.length_map]
    have e : decide ((pl : Int) < (ns.length : Int)) = decide (pl < ns.length) := by
      by_cases h : pl < ns.length
      · rw [decide_eq_true h, decide_eq_true (by omega)]
      · rw [decide_eq_false h, decide_eq_false (by omega)]
    rw [← e] at k
    exact k
theorem sc_tn : FnScope ["self", "number"] ["self"] (defScope sTakeNumber) := ⟨rfl, rfl, rfl, by decide +kernel, rfl, by decide +kernel, by decide +kernel⟩
theorem ok_takeNumber (F : HasM K C "take_number" "Reader.take_number" sTakeNumber ["self"]) (T : Klass K mg "Reader" C ["numbers", "place"]) : OkM P w K mg base C "take_number" 1 ["self"] (spTakeNumber K C) := by
  obtain ⟨f, fd, F, M, b⟩ := F
  refine ⟨f, fd, F.ok sc_tn (fun vs H Q E h => ?_) (fun cdv A outer s H vs Q E hr h => ?_), M, b⟩
  · obtain ⟨rd, ln, pl, ns, z, rfl, _⟩ := h
    rfl
  · obtain ⟨rd, ln, pl, ns, z, rfl, ⟨dx, hd⟩, hs, hz, k⟩ := h
    refine ⟨_, pss_cons (ps_set (i := 1) sc_tn.nd rfl (Or.inl rfl) (pe_ix (ixL K) (pe_fld (pv 0) rfl) (pe_fld (pv 0) rfl) (fun _ _ => rfl)))
      (pss_cons (ps_fldaug (pv 0) pe_int in_add) (pss_one (ps_ret (pv 1)))), ?_⟩
    refine ⟨_, rfl, rd, C, dx, _, _, rfl, hd, T.cl, T.no _ (by simp), fs2_1, _, rfl, rd, C, dx, _, _, rfl, hd, T.cl, T.no _ (by simp), fs2_2, ln, _, _, _, rfl, rfl, hs, atI_nat (v := V.int z) (by rw [List.getElem?_map, hz]; rfl), ?_⟩
    refine ⟨_, rfl, rd, C, dx, _, _, rfl, hd, T.cl, T.no _ (by simp), fs2_2, _, _, rfl, rfl, dx, _, hd, (by show 2 < 1000; decide), ?_⟩
    refine ⟨_, rfl, k _ ⟨dx, upd_same.trans (congrArg (fun q => some (HO.ins C dx q)) fs2_put2)⟩ ((But.of_same (Same.refl _)).upd)⟩
theorem sc_tl : FnScope ["self", "length", "start"] ["self"] (defScope sTakeList) := ⟨rfl, rfl, rfl, by decide +kernel, rfl, by decide +kernel, by decide +kernel⟩
theorem ok_takeList (F : HasM K C "take_list" "Reader.take_list" sTakeList ["self"]) (T : Klass K mg "Reader" C ["numbers", "place"]) (G : OkM P w K mg base C "take_number" 1 ["self"] (spTakeNumber K C)) : OkM P w K mg base C "take_list" 2 ["self"] (spTakeList K C) := by
  obtain ⟨f, fd, F, M, b⟩ := F
  refine ⟨f, fd, F.ok sc_tl (fun vs H Q E h => ?_) (fun cdv A outer s H vs Q E hr h => ?_), M, b⟩
  · obtain ⟨rd, ln, pl, n, ns, rfl, _⟩ := h
    rfl
  · obtain ⟨rd, ln, pl, n, ns, rfl, ⟨dx, hd⟩, hs, hz, hle, k⟩ := h
    refine ⟨_, pss_cons (ps_set (i := 1) sc_tl.nd rfl (Or.inl rfl) (pe_okM0 G T.cl hr (pv 0)))
      (pss_cons (ps_set (i := 2) sc_tl.nd rfl (Or.inl rfl) (pe_fld (pv 0) rfl))
      (pss_cons (ps_fldaug (pv 0) (pv 1) in_add)
      (pss_one (ps_ret (pe_slice sl_list (pe_fld (pv 0) rfl) (po_some (pv 2)) (po_some (pe_fld (pv 0) rfl))))))), ?_⟩
    refine ⟨_, rfl, rd, dx, _, rfl, hd, fs2_no, rd, ln, pl, ns, (n : Int), rfl, ⟨dx, hd⟩, hs, hz, fun H1 ⟨d1, h1⟩ b1 => ?_⟩
    refine ⟨_, rfl, rd, C, d1, _, _, rfl, h1, T.cl, T.no _ (by simp), fs2_2, ?_⟩
    refine ⟨_, rfl, rd, C, d1, _, _, rfl, h1, T.cl, T.no _ (by simp), fs2_2, _, rfl, _, _, rfl, rfl, d1, _, h1, (by show 2 < 1000; decide), ?_⟩
    have h2 : upd H1 rd (.ins C d1 (putF "place" (.int (((pl + 1 : Nat) : Int) + (n : Int))) (fs2 "numbers" "place" (.ref ln) (nV (pl + 1))))) rd = some (.ins C d1 (fs2 "numbers" "place" (.ref ln) (.int (((pl + 1 : Nat) : Int) + (n : Int))))) := upd_same.trans (congrArg (fun q => some (HO.ins C d1 q)) fs2_put2)
    have b2 : But rd H1 (upd H1 rd (.ins C d1 (putF "place" (.int (((pl + 1 : Nat) : Int) + (n : Int))) (fs2 "numbers" "place" (.ref ln) (nV (pl + 1)))))) := (But.of_same (Same.refl _)).upd
    have s1 := sqL_ins hs hd b1
    have s2 := sqL_ins s1 h1 b2
    refine ⟨_, rfl, rd, C, d1, _, _, rfl, h2, T.cl, T.no _ (by simp), fs2_1, _, rfl, _, rfl, _, rfl, rd, C, d1, _, _, rfl, h2, T.cl, T.no _ (by simp), fs2_2, _, rfl, ln, _, rfl, s2, fun p hp => ?_⟩
    have hpr : rd ≠ p := ne_of_none h2 hp
    have e0 : ((pl + 1 : Nat) : Int) + (n : Int) = ((pl + 1 + n : Nat) : Int) := by omega
    have e1 : cutV (ns.map V.int) (some ((pl + 1 : Nat) : Int)) (some (((pl + 1 : Nat) : Int) + (n : Int))) = ((ns.drop (pl + 1)).take n).map V.int := by
      rw [cut_mid (by rw [List.length_map]; exact hle), List.map_take, List.map_drop]
    have hp1 : H1 p = none := by rw [upd_ne hpr.symm] at hp; exact hp
    have hp0 : H p = none := by
      cases q : H p with
      | none => rfl
      | some o => rw [b1 p o q hpr.symm] at hp1; cases hp1
    rw [e1]
    refine k _ p ⟨d1, ?_⟩ ((b1.trans b2).trans fun c o q hc => ?_) hp0 upd_same
    · rw [upd_ne hpr, h2, e0]
      rfl
    · rw [upd_ne (ne_of_none q hp)]
      exact q
end
end Jp
namespace Jp
open PySem PySem.Spec PyProof.Rows L2
open MdBase (Term Atom varsOf)
/-! ### a row among rows -/
def dRow (x : MdBase.Row) : PyData := .tuple (x.map PyData.int)
theorem lay_ints : ∀ x : List Int, PyData.canLayAll0 (x.map PyData.int) = true ∧ PyData.depthAll (x.map PyData.int) = 0
  | [] => ⟨rfl, rfl⟩
  | a :: x => by
    obtain ⟨h1, h2⟩ := lay_ints x
    refine ⟨?_, ?_⟩
    · rw [List.map_cons, PyData.canLayAll0, h1]
      rfl
    · rw [List.map_cons, PyData.depthAll, h2]
      rfl
theorem lay_row (x : MdBase.Row) : PyData.canLay0 (dRow x) = true ∧ PyData.depth (dRow x) = 1 := by
  obtain ⟨h1, h2⟩ := lay_ints x
  refine ⟨?_, ?_⟩
  · unfold dRow
    rw [PyData.canLay0, h1]
  · unfold dRow
    rw [PyData.depth, h2]
theorem lay_rows : ∀ xs : List MdBase.Row, PyData.canLayAll0 (xs.map dRow) = true ∧ PyData.depthAll (xs.map dRow) ≤ 1
  | [] => ⟨rfl, Nat.zero_le _⟩
  | a :: xs => by
    obtain ⟨h1, h2⟩ := lay_rows xs
    obtain ⟨h3, h4⟩ := lay_row a
    refine ⟨?_, ?_⟩
    · rw [List.map_cons, PyData.canLayAll0, h1, h3]
      rfl
    · rw [List.map_cons, PyData.depthAll, h4]
      omega
theorem shaped_row (x : MdBase.Row) : SeqAt.shaped (dRow x) = true := by
  obtain ⟨h1, h2⟩ := lay_row x
  unfold SeqAt.shaped
  rw [h1, h2]
  decide
theorem shaped_rows (xs : List MdBase.Row) : SeqAt.shaped (.list (xs.map dRow)) = true := by
  obtain ⟨h1, h2⟩ := lay_rows xs
  unfold SeqAt.shaped
  rw [PyData.canLay0, h1, PyData.depth, decide_eq_true (by omega)]
  rfl
theorem eqv_ints : ∀ x y : List Int, PyData.eqvAll (x.map PyData.int) (y.map PyData.int) = decide (x = y)
  | [], [] => rfl
  | [], _ :: _ => rfl
  | _ :: _, [] => rfl
  | a :: x, b :: y => by
    rw [List.map_cons, List.map_cons, PyData.eqvAll, eqv_ints x y, PyData.eqv]
    by_cases h1 : a = b <;> by_cases h2 : x = y <;> simp [h1, h2]
theorem eqv_row (x y : MdBase.Row) : PyData.eqv (dRow x) (dRow y) = decide (x = y) := by
  unfold dRow
  rw [PyData.eqv]
  exact eqv_ints x y
theorem any_rows (x : MdBase.Row) : ∀ xs : List MdBase.Row, ((xs.map dRow).any fun z => PyData.eqv z (dRow x)) = decide (x ∈ xs)
  | [] => rfl
  | y :: xs => by
    rw [List.map_cons, List.any_cons, eqv_row, any_rows x xs]
    by_cases h1 : y = x
    · subst h1
      simp
    · have h2 : ¬ x = y := fun q => h1 q.symm
      simp [h1, h2]
theorem dp_ints {K : PySem.W.Frag} {H : Hp} : ∀ x : List Int, DpAll K H (x.map V.int) (x.map PyData.int)
  | [] => .nil
  | a :: x => .cons (.int a) (dp_ints x)
theorem dp_row {K : PySem.W.Frag} {H : Hp} {p : Addr} {x : MdBase.Row} (h : RowAt H p x) : Dp K H (.ref p) (dRow x) := .tup (SqT.of h) (dp_ints x)
theorem dp_rows {K : PySem.W.Frag} {H : Hp} : ∀ {ps : List Addr} {xs : List MdBase.Row}, AllAt (RowAt H) ps xs → DpAll K H (ps.map V.ref) (xs.map dRow)
  | [], [], _ => .nil
  | [], _ :: _, h => by cases h.1
  | _ :: _, [], h => by cases h.1
  | p :: ps, x :: xs, h => .cons (dp_row (h.2 0 p x rfl rfl)) (dp_rows ⟨Nat.succ.inj h.1, fun i q y a b => h.2 (i + 1) q y a b⟩)
/-! ### what the calls do with the mirror -/
def mTable (M : Mir) (n : Int) : Mir × List Int := if 0 ≤ n ∧ n ≤ 4 then (if M.cols.length = 6 then (M, [-6]) else (⟨M.cols ++ [n.toNat], M.tabs ++ [[]], M.asked⟩, [(M.cols.length : Int)])) else (M, [-1])
def mRow (M : Mir) (t : Int) (x : MdBase.Row) : Mir × List Int := if 0 ≤ t ∧ t < (M.cols.length : Int) then (if isRow ((M.cols.getD t.toNat 0 : Nat) : Int) x = true then
  (if x ∈ M.tabs.getD t.toNat [] then (M, [0]) else if (M.tabs.getD t.toNat []).length = 10 then (M, [-6]) else (⟨M.cols, M.tabs.set t.toNat (M.tabs.getD t.toNat [] ++ [x]), M.asked⟩, [1])) else (M, [-1])) else (M, [-1])
def mAsk (M : Mir) (l : List Int) : Mir × List Int := match Md49.atoms? M.cols 5 l with
  | none => (M, [-1])
  | some as => (⟨M.cols, M.tabs, as⟩, [(as.length : Int)])
section
variable (K : PySem.W.Frag) (CS CT CA : Addr)
def spBegin : Sp := fun vs H Q _ => ∃ (st : Addr) (L : Lay) (M : Mir), vs = [.ref st] ∧ StAt CS CT CA H st L M ∧ ∀ H' p, Post CS CT CA H st L H' p Mir.start [0] → Q (.ref p) H'
def spAddTable : Sp := fun vs H Q _ => ∃ (st : Addr) (n : Int) (L : Lay) (M : Mir), vs = [.ref st, .int n] ∧ StAt CS CT CA H st L M ∧ ∀ H' p, Post CS CT CA H st L H' p (mTable M n).1 (mTable M n).2 → Q (.ref p) H'
def spAddRow : Sp := fun vs H Q _ => ∃ (st lv : Addr) (t : Int) (x : List Int) (L : Lay) (M : Mir), vs = [.ref st, .int t, .ref lv] ∧ StAt CS CT CA H st L M ∧ H lv = some (.lst (x.map V.int)) ∧ lv ∉ L.own ∧ x.length ≤ 1000 ∧ ∀ H' p, Post CS CT CA H st L H' p (mRow M t x).1 (mRow M t x).2 → Q (.ref p) H'
def spAsk : Sp := fun vs H Q _ => ∃ (st lv : Addr) (l : List Int) (L : Lay) (M : Mir), vs = [.ref st, .ref lv] ∧ StAt CS CT CA H st L M ∧ H lv = some (.lst (l.map V.int)) ∧ l.length ≤ 1000 ∧ ∀ H' p, Post CS CT CA H st L H' p (mAsk M l).1 (mAsk M l).2 → Q (.ref p) H'
end
section
variable {P : Program} {w : World} {K : PySem.W.Frag} {mg : Str → Option Value} {base : Heap} {CS CT CA : Addr}
theorem sc_be : FnScope ["store"] ["store"] (defScope sBegin) := ⟨rfl, rfl, rfl, by decide +kernel, rfl, by decide +kernel, by decide +kernel⟩
theorem ok_begin (F : Has K mg "begin" sBegin ["store"]) (T : Klass K mg "Store" CS ["tables", "question"]) : Ok P w K mg base "begin" 1 ["store"] (spBegin CS CT CA) := by
  obtain ⟨f, fd, F, M, kp, b⟩ := F
  refine ⟨f, fd, F.ok sc_be (fun vs H Q E h => ?_) (fun cdv A outer s H vs Q E hr h => ?_), M, kp, b⟩
  · obtain ⟨st, L, M, rfl, _⟩ := h
    rfl
  · obtain ⟨st, L, M, rfl, hS, k⟩ := h
    obtain ⟨dx, hst⟩ := hS.store
    refine ⟨_, pss_cons (ps_fld (pv 0) (pe_lst pa_nil) rfl) (pss_cons (ps_fld (pv 0) (pe_lst pa_nil) rfl) (pss_one (ps_ret (pe_lst (pa_cons pe_int pa_nil))))), ?_⟩
    refine ⟨Nat.zero_le _, fun l hl => ?_⟩
    have n1 : st ≠ l := ne_of_none hst hl
    refine ⟨_, rfl, st, CS, dx, _, rfl, (by rw [upd_ne n1]; exact hst), T.cl, T.no _ (by simp), (by show 2 < 1000; decide), ?_⟩
    rw [fs2_put1]
    refine ⟨Nat.zero_le _, fun m hm => ?_⟩
    have n2 : st ≠ m := ne_of_none upd_same hm
    rw [upd_ne n2.symm] at hm
    have n3 : l ≠ m := ne_of_none upd_same hm
    rw [upd_ne n3.symm] at hm
    refine ⟨_, rfl, st, CS, dx, _, rfl, (by rw [upd_ne n2]; exact upd_same), T.cl, T.no _ (by simp), (by show 2 < 1000; decide), ?_⟩
    rw [fs2_put2]
    refine ⟨(by show 1 ≤ sizeLine; decide), fun p hp => ?_⟩
    have n4 : st ≠ p := ne_of_none upd_same hp
    rw [upd_ne n4.symm] at hp
    have n5 : m ≠ p := ne_of_none upd_same hp
    rw [upd_ne n5.symm, upd_ne n4.symm] at hp
    have n6 : l ≠ p := ne_of_none upd_same hp
    rw [upd_ne n6.symm] at hp
    refine k _ p ⟨⟨l, m, [], [], [], []⟩, ⟨⟨dx, ?_⟩, ?_, ?_, rfl, rfl, ?_, AllAt.nil, rfl, rfl, ?_, ?_, ?_, ?_, wf_start⟩, ?_, ?_, hp, ?_, upd_same⟩
    · rw [upd_ne n4]
      exact upd_same
    · rw [upd_ne n6, upd_ne n1.symm, upd_ne n3, upd_ne n1.symm]
      exact upd_same
    · rw [upd_ne n5, upd_ne n2.symm]
      exact upd_same
    · intro i ta lr c h
      simp at h
    · intro i ta lr c h
      simp at h
    · simp
    · simpa using n3.symm
    · intro l h
      simp at h
    · intro b o e hb
      have hb1 : b ≠ st := fun q => hb (by rw [q]; simp)
      rw [upd_ne (ne_of_none e hp), upd_ne hb1, upd_ne (ne_of_none e hm), upd_ne hb1, upd_ne (ne_of_none e hl)]
      exact e
    · intro x hx
      simp [Lay.own] at hx
      rcases hx with rfl | rfl
      · exact Or.inr hl
      · exact Or.inr hm
    · simp [Lay.own, n6.symm, n5.symm]
theorem sc_at : FnScope ["store", "columns"] ["store", "columns"] (defScope sAddTable) := ⟨rfl, rfl, rfl, by decide +kernel, rfl, by decide +kernel, by decide +kernel⟩
theorem pure1 {CS CT CA : Addr} {H : Hp} {st p : Addr} {L : Lay} {M : Mir} {z : Int} (h : StAt CS CT CA H st L M) (hp : H p = none) : Post CS CT CA H st L (upd H p (.lst [V.int z])) p M [z] := post_pure h (same_upd hp) hp upd_same
theorem ok_addTable (F : Has K mg "add_table" sAddTable ["store", "columns"]) (N : Plain mg) (T : Klass K mg "Store" CS ["tables", "question"]) (TT : Klass K mg "Table" CT ["columns", "rows"]) (MT : Made P w K mg base CT 1 ["self", "columns"] (spTableInit CT))
    (cw : IntC mg "WRONG" (-1)) (cf : IntC mg "FULL" (-6)) (c4 : IntC mg "MOST_COLUMNS" 4) (c6 : IntC mg "MOST_TABLES" 6) : Ok P w K mg base "add_table" 3 ["store", "columns"] (spAddTable CS CT CA) := by
  obtain ⟨f, fd, F, M, kp, b⟩ := F
  refine ⟨f, fd, F.ok sc_at (fun vs H Q E h => ?_) (fun cdv A outer s H vs Q E hr h => ?_), M, kp, b⟩
  · obtain ⟨st, n, L, M, rfl, _⟩ := h
    rfl
  · obtain ⟨st, n, L, M, rfl, hS, k⟩ := h
    obtain ⟨dx, hst⟩ := hS.store
    refine ⟨_, pss_cons (ps_if (pt_not (pt_chain op_le op_le pe_int (pv 1) (pe_const c4 rfl))) (pss_one (ps_ret (pe_lst (pa_cons (pe_const cw rfl) pa_nil)))) pss_nil)
      (pss_cons (ps_if (pt_cmpR op_eq (pe_callB call_len_seq (by rfl) N.len PySem.boot_len (pa_cons (pe_fld (pv 0) rfl) pa_nil)) (pe_const c6 rfl) (nomark _)) (pss_one (ps_ret (pe_lst (pa_cons (pe_const cf rfl) pa_nil)))) pss_nil)
      (pss_cons (ps_expr (pe_bm PySem.F.plainAttrs_list PySem.F.slot_list_append PySem.F.type_list_append mt_append (pe_fld (pv 0) rfl) (pa_cons (pe_new MT hr rfl TT.mgC (pa_cons (pv 1) pa_nil)) pa_nil)))
      (pss_one (ps_ret (pe_lst (pa_cons (pe_op op_sub (pe_callB call_len_seq (by rfl) N.len PySem.boot_len (pa_cons (pe_fld (pv 0) rfl) pa_nil)) pe_int) pa_nil)))))), ?_⟩
    refine ⟨_, rfl, _, _, rfl, rfl, _, rfl, ?_⟩
    unfold mTable at k
    by_cases h0 : (0 : Int) ≤ n
    rotate_left
    · rw [if_neg (by omega)] at k
      refine ifF (decide_eq_false h0) ⟨_, rfl, iteT ⟨(by show 1 ≤ sizeLine; decide), fun p hp => k _ p (pure1 hS hp)⟩⟩
    refine ifT (decide_eq_true h0) ⟨_, _, rfl, rfl, _, rfl, ?_⟩
    by_cases h4 : n ≤ 4
    rotate_left
    · rw [if_neg (by omega)] at k
      refine ifT (by rw [decide_eq_false h4]; rfl) ⟨(by show 1 ≤ sizeLine; decide), fun p hp => k _ p (pure1 hS hp)⟩
    rw [if_pos ⟨h0, h4⟩] at k
    refine ifF (by rw [decide_eq_true h4]; rfl) ?_
    refine ⟨_, rfl, st, CS, dx, _, _, rfl, hst, T.cl, T.no _ (by simp), fs2_1, L.lt, _, rfl, Or.inl (SqL.of hS.lt), rfl, _, rfl, ?_⟩
    rw [List.length_map, hS.n1]
    have ht6 := hS.wf.t6
    by_cases h6 : M.cols.length = 6
    · rw [if_pos h6] at k
      exact ifT (decide_eq_true (by rw [h6]; rfl)) ⟨(by show 1 ≤ sizeLine; decide), fun p hp => k _ p (pure1 hS hp)⟩
    rw [if_neg h6] at k
    refine ifF (decide_eq_false fun q => h6 (by have := V.int.inj q; omega)) ?_
    -- store.tables.append(Table(columns))
    refine ⟨_, rfl, st, CS, dx, _, _, rfl, hst, T.cl, T.no _ (by simp), fs2_1, .inl ⟨rfl, _, SqL.of hS.lt⟩, _, rfl, fun x dy nx ndy ne => ⟨x, dy, n, rfl, upd_same, fun H1 lr hat nlr hlr k1 => ⟨rfl, ?_⟩⟩⟩
    have s1 : Same H H1 := Same.made nx ndy k1
    have hlr0 : H lr = none := by
      cases q : H lr with
      | none => rfl
      | some o =>
        have := same_upd (o := .own x) ndy _ _ q
        rw [upd_ne (ne_of_none q nx), this] at nlr
        cases nlr
    have hS1 := hS.same s1
    have hlt1 := hS1.lt
    refine ⟨L.lt, _, _, rfl, rfl, hlt1, (by rw [List.length_map, hS.n1]; show _ < 2 ^ 24; omega), ?_⟩
    have bt : But L.lt H1 (upd H1 L.lt (.lst (L.tas.map V.ref ++ [V.ref x]))) := (But.of_same (Same.refl _)).upd
    have hlt2 : upd H1 L.lt (.lst (L.tas.map V.ref ++ [V.ref x])) L.lt = some (.lst ((L.tas ++ [x]).map V.ref)) := by rw [upd_same, List.map_append]; rfl
    generalize upd H1 L.lt (.lst (L.tas.map V.ref ++ [V.ref x])) = H2 at bt hlt2
    have fi : ∀ a C dx fs, H1 a = some (.ins C dx fs) → H2 a = some (.ins C dx fs) := fun a C dx fs e => bt _ _ e (ne_of e hlt1 (by intro q; cases q))
    have ft : ∀ a xs, H1 a = some (.tup xs) → H2 a = some (.tup xs) := fun a xs e => bt _ _ e (ne_of e hlt1 (by intro q; cases q))
    have hlrlt : lr ≠ L.lt := fun q => by rw [q, hS.lt] at hlr0; cases hlr0
    have hndl := List.nodup_cons.mp hS.nd
    have nolr : ∀ l, l ∈ L.own → l ≠ lr := fun l hl q => by
      obtain ⟨xs, e⟩ := hS.owned l hl
      rw [q, hlr0] at e
      cases e
    refine ⟨_, rfl, st, CS, dx, _, _, rfl, fi _ _ _ _ (s1 _ _ hst), T.cl, T.no _ (by simp), fs2_1, L.lt, _, rfl, Or.inl (SqL.of hlt2), _, _, rfl, rfl, (by show 1 ≤ sizeLine; decide), fun p hp => ?_⟩
    have hp1 : H1 p = none := by
      cases q : H1 p with
      | none => rfl
      | some o => rw [bt p o q (fun e => by rw [e, hlt2] at hp; cases hp)] at hp; cases hp
    have s2 : Same H2 (upd H2 p (.lst [V.int (((L.tas ++ [x]).map V.ref).length - 1 : Int)])) := same_upd hp
    have hpp : upd H2 p (.lst [V.int (((L.tas ++ [x]).map V.ref).length - 1 : Int)]) p = some (.lst (([(M.cols.length : Int)] : List Int).map V.int)) := by
      rw [upd_same, List.length_map, List.length_append, hS.n1]
      simp
    generalize upd H2 p (.lst [V.int (((L.tas ++ [x]).map V.ref).length - 1 : Int)]) = H3 at s2 hpp
    have hS2 : StAt CS CT CA H2 st ⟨L.lt, L.lq, L.tas ++ [x], L.lrs ++ [lr], L.as, L.als⟩ ⟨M.cols ++ [n.toNat], M.tabs ++ [[]], M.asked⟩ := by
      refine ⟨⟨dx, fi _ _ _ _ (s1 _ _ hst)⟩, hlt2, bt _ _ hS1.lq (fun q => hS.nq (q ▸ List.mem_cons_self)), by simp [hS.n1], by simp [hS.n2], ?_, ?_, hS.q1, hS.q2, ?_, ?_, ?_, ?_, ?_⟩
      · intro i ta l c h1 h2 h3
        by_cases hi : i < M.cols.length
        · rw [List.getElem?_append_left (by rw [hS.n1]; exact hi)] at h1
          rw [List.getElem?_append_left (by rw [hS.n2]; exact hi)] at h2
          rw [List.getElem?_append_left hi] at h3
          obtain ⟨d, e⟩ := hS1.tab i ta l c h1 h2 h3
          exact ⟨d, fi _ _ _ _ e⟩
        · have hi2 := (List.getElem?_eq_some_iff.mp h3).1
          simp at hi2
          have ei : i = M.cols.length := by omega
          rw [List.getElem?_append_right (by rw [hS.n1]; omega), hS.n1, ei, Nat.sub_self] at h1
          rw [List.getElem?_append_right (by rw [hS.n2]; omega), hS.n2, ei, Nat.sub_self] at h2
          rw [List.getElem?_append_right (by omega), ei, Nat.sub_self] at h3
          cases h1
          cases h2
          cases h3
          obtain ⟨d, e⟩ := hat
          have en : ((n.toNat : Nat) : Int) = n := by omega
          refine ⟨d, ?_⟩
          rw [en]
          exact fi _ _ _ _ e
      · refine AllAt.snoc (hS1.rows.mono fun l rows hl ⟨rps, e1, e2⟩ => ⟨rps, bt _ _ e1 (fun q => hndl.1 (q ▸ hl)), e2.mono fun _ _ _ e => ft _ _ e⟩) ⟨[], bt _ _ hlr hlrlt, AllAt.nil⟩
      · intro i a l y h1 h2 h3
        obtain ⟨ta, e1, ⟨⟨d, e2⟩, ps, e3, e4⟩⟩ := hS1.atm i a l y h1 h2 h3
        have hl := List.mem_of_getElem? h2
        refine ⟨ta, ?_, ⟨d, fi _ _ _ _ e2⟩, ps, bt _ _ e3 (fun q => hS.na l hl (by simp [q])), e4.mono fun _ _ _ e => ft _ _ e⟩
        rw [List.getElem?_append_left (List.getElem?_eq_some_iff.mp e1).1]
        exact e1
      · show (L.lt :: (L.lrs ++ [lr])).Nodup
        rw [← List.cons_append, List.nodup_append]
        refine ⟨hS.nd, by simp, fun a ha c hc => ?_⟩
        simp at hc
        rw [hc]
        rcases List.mem_cons.mp ha with rfl | ha
        · exact nolr _ Lay.own_lt
        · exact nolr _ (Lay.own_lr ha)
      · show L.lq ∉ L.lt :: (L.lrs ++ [lr])
        intro q
        rw [← List.cons_append] at q
        rcases List.mem_append.mp q with q | q
        · exact hS.nq q
        · exact nolr _ Lay.own_lq (by simpa using q)
      · intro l hl q
        have q : l ∈ L.lt :: (L.lrs ++ [lr]) := q
        rw [← List.cons_append] at q
        rcases List.mem_append.mp q with q | q
        · exact hS.na l hl q
        · exact nolr _ (Lay.own_al hl) (by simpa using q)
      · have wf := hS.wf
        refine ⟨by simp [wf.len], ?_, by simp; omega, ?_, ?_, ?_, ?_, wf.a5⟩
        · intro c hc
          rcases List.mem_append.mp hc with hc | hc
          · exact wf.c4 c hc
          · simp at hc
            omega
        · intro r hr
          rcases List.mem_append.mp hr with hr | hr
          · exact wf.nd r hr
          · simp at hr
            rw [hr]
            exact List.nodup_nil
        · intro r hr
          rcases List.mem_append.mp hr with hr | hr
          · exact wf.few r hr
          · simp at hr
            rw [hr]
            exact Nat.zero_le _
        · intro i c r h1 h2 y hy
          by_cases hi : i < M.cols.length
          · rw [List.getElem?_append_left hi] at h1
            rw [List.getElem?_append_left (by rw [wf.len]; exact hi)] at h2
            exact wf.rl i c r h1 h2 y hy
          · have hi2 := (List.getElem?_eq_some_iff.mp h1).1
            simp at hi2
            have ei : i = M.cols.length := by omega
            rw [List.getElem?_append_right (by rw [wf.len]; omega), wf.len, ei, Nat.sub_self] at h2
            cases h2
            cases hy
        · intro a ha
          have g := wf.good a ha
          refine ⟨by simp; have := g.rel; omega, ?_, g.var⟩
          rw [List.getElem?_append_left g.rel]
          exact g.len
    refine k H3 p ⟨_, hS2.same s2, fun b o e hb => ?_, ?_, s1.free hp1, ?_, hpp⟩
    · exact s2 _ _ (bt _ _ (s1 _ _ e) fun q => hb (by rw [q]; simp [Lay.own]))
    · intro l hl
      simp only [Lay.own, List.mem_cons, List.mem_append, List.not_mem_nil, or_false] at hl
      rcases hl with rfl | rfl | (hl | rfl) | hl
      · exact Or.inl Lay.own_lt
      · exact Or.inl Lay.own_lq
      · exact Or.inl (Lay.own_lr hl)
      · exact Or.inr hlr0
      · exact Or.inl (Lay.own_al hl)
    · intro q
      obtain ⟨xs, e⟩ := hS2.owned p q
      rw [hp] at e
      cases e
end
end Jp
namespace Jp
open PySem PySem.Spec PyProof.Rows L2
open MdBase (Term Atom varsOf)
section
variable {P : Program} {w : World} {K : PySem.W.Frag} {mg : Str → Option Value} {base : Heap} {CS CT CA : Addr}
theorem sc_ar : FnScope ["store", "number", "values", "table", "row"] ["store", "number", "values"] (defScope sAddRow) := ⟨rfl, rfl, rfl, by decide +kernel, rfl, by decide +kernel, by decide +kernel⟩
theorem wf_row {M : Mir} (wf : Wf M) {t : Nat} {c : Nat} {r : List MdBase.Row} {x : MdBase.Row} (hc : M.cols[t]? = some c) (hr : M.tabs[t]? = some r) (hx : x.length = c) (hn : x ∉ r) (hl : r.length < 10) : Wf ⟨M.cols, M.tabs.set t (r ++ [x]), M.asked⟩ := by
  have ht : t < M.tabs.length := (List.getElem?_eq_some_iff.mp hr).1
  have hm : r ∈ M.tabs := List.mem_of_getElem? hr
  refine ⟨by simp [wf.len], wf.c4, wf.t6, ?_, ?_, ?_, wf.good, wf.a5⟩
  · intro q hq
    rcases List.mem_or_eq_of_mem_set hq with hq | rfl
    · exact wf.nd q hq
    · rw [List.nodup_append]
      exact ⟨wf.nd r hm, by simp, fun a ha b hb => by simp at hb; rw [hb]; exact fun e => hn (e ▸ ha)⟩
  · intro q hq
    rcases List.mem_or_eq_of_mem_set hq with hq | rfl
    · exact wf.few q hq
    · simp
      omega
  · intro i c' r' h1 h2 y hy
    rw [List.getElem?_set] at h2
    by_cases e : t = i
    · subst e
      rw [if_pos rfl, if_pos ht] at h2
      cases h2
      rw [hc] at h1
      cases h1
      rcases List.mem_append.mp hy with hy | hy
      · exact wf.rl t c r hc hr y hy
      · simp at hy
        rw [hy]
        exact hx
    · rw [if_neg e] at h2
      exact wf.rl i c' r' h1 h2 y hy
theorem isRow_len {c : Int} {x : List Int} (h : isRow c x = true) : (x.length : Int) = c := by
  unfold isRow at h
  rw [Bool.and_eq_true, decide_eq_true_eq] at h
  exact h.1
theorem ok_addRow (F : Has K mg "add_row" sAddRow ["store", "number", "values"]) (N : Plain mg) (T : Klass K mg "Store" CS ["tables", "question"]) (TT : Klass K mg "Table" CT ["columns", "rows"]) (G : Ok P w K mg base "is_row_of" 2 ["table", "numbers"] (spIsRowOf K CT))
    (cw : IntC mg "WRONG" (-1)) (cf : IntC mg "FULL" (-6)) (c10 : IntC mg "MOST_ROWS" 10) : Ok P w K mg base "add_row" 3 ["store", "number", "values"] (spAddRow CS CT CA) := by
  obtain ⟨f, fd, F, M, kp, b⟩ := F
  refine ⟨f, fd, F.ok sc_ar (fun vs H Q E h => ?_) (fun cdv A outer s H vs Q E hr h => ?_), M, kp, b⟩
  · obtain ⟨st, lv, t, x, L, M, rfl, _⟩ := h
    rfl
  · obtain ⟨st, lv, t, x, L, M, rfl, hS, hlv, hlvo, hxl, k⟩ := h
    obtain ⟨dx, hst⟩ := hS.store
    have hu65 : (A.deeper (envOfC "add_row" (defScope sAddRow) s.heap.objs.size f cdv)).units + 65 < cLine := by have := hr.un; omega
    refine ⟨_, pss_cons (ps_if (pt_not (pt_chain op_le op_lt pe_int (pv 1) (pe_callB call_len_seq (by rfl) N.len PySem.boot_len (pa_cons (pe_fld (pv 0) rfl) pa_nil)))) (pss_one (ps_ret (pe_lst (pa_cons (pe_const cw rfl) pa_nil)))) pss_nil)
      (pss_cons (ps_set (i := 3) sc_ar.nd rfl (Or.inl rfl) (pe_ix (ixL K) (pe_fld (pv 0) rfl) (pv 1) (fun _ _ => rfl)))
      (pss_cons (ps_if (pt_not (pt_val (pe_ok G hr rfl (pa_cons (pv 3) (pa_cons (pv 2) pa_nil))))) (pss_one (ps_ret (pe_lst (pa_cons (pe_const cw rfl) pa_nil)))) pss_nil)
      (pss_cons (ps_set (i := 4) sc_ar.nd rfl (Or.inl rfl) (pe_callTy call_tuple_of (by rfl) N.tuple (by decide +kernel) (pa_cons (pv 2) pa_nil)))
      (pss_cons (ps_if (pt_cmpR (op_inD hu65) (pv 4) (pe_fld (pv 3) rfl) (by rfl)) (pss_one (ps_ret (pe_lst (pa_cons pe_int pa_nil)))) pss_nil)
      (pss_cons (ps_if (pt_cmpR op_eq (pe_callB call_len_seq (by rfl) N.len PySem.boot_len (pa_cons (pe_fld (pv 3) rfl) pa_nil)) (pe_const c10 rfl) (nomark _)) (pss_one (ps_ret (pe_lst (pa_cons (pe_const cf rfl) pa_nil)))) pss_nil)
      (pss_cons (ps_expr (pe_bm PySem.F.plainAttrs_list PySem.F.slot_list_append PySem.F.type_list_append mt_append (pe_fld (pv 3) rfl) (pa_cons (pv 4) pa_nil)))
      (pss_one (ps_ret (pe_lst (pa_cons pe_int pa_nil)))))))))), ?_⟩
    unfold mRow at k
    refine ⟨_, rfl, _, _, rfl, rfl, _, rfl, ?_⟩
    by_cases h0 : (0 : Int) ≤ t
    rotate_left
    · rw [if_neg (by omega)] at k
      exact ifF (decide_eq_false h0) ⟨_, rfl, iteT ⟨(by show 1 ≤ sizeLine; decide), fun p hp => k _ p (pure1 hS hp)⟩⟩
    refine ifT (decide_eq_true h0) ⟨_, rfl, st, CS, dx, _, _, rfl, hst, T.cl, T.no _ (by simp), fs2_1, L.lt, _, rfl, Or.inl (SqL.of hS.lt), _, _, rfl, rfl, _, rfl, ?_⟩
    rw [List.length_map, hS.n1]
    by_cases h1 : t < (M.cols.length : Int)
    rotate_left
    · rw [if_neg (by omega)] at k
      exact ifT (by rw [decide_eq_false h1]; rfl) ⟨(by show 1 ≤ sizeLine; decide), fun p hp => k _ p (pure1 hS hp)⟩
    rw [if_pos ⟨h0, h1⟩] at k
    refine ifF (by rw [decide_eq_true h1]; rfl) ?_
    obtain ⟨j, rfl⟩ : ∃ j : Nat, t = (j : Int) := ⟨t.toNat, by omega⟩
    have hj : j < M.cols.length := by omega
    rw [Int.toNat_natCast] at k
    have hc : M.cols[j]? = some M.cols[j] := List.getElem?_eq_getElem hj
    have hjt : j < L.tas.length := by rw [hS.n1]; exact hj
    have hta : L.tas[j]? = some L.tas[j] := List.getElem?_eq_getElem hjt
    have hjr : j < L.lrs.length := by rw [hS.n2]; exact hj
    have hlr : L.lrs[j]? = some L.lrs[j] := List.getElem?_eq_getElem hjr
    have ec : M.cols.getD j 0 = M.cols[j] := by rw [List.getD_eq_getElem?_getD, hc]; rfl
    rw [ec] at k
    generalize M.cols[j] = c at hc k
    generalize L.tas[j] = ta at hta
    generalize L.lrs[j] = lr at hlr
    obtain ⟨rows, hrw, rps, hlr1, hrps⟩ := hS.rows.get hlr
    have er : M.tabs.getD j [] = rows := by rw [List.getD_eq_getElem?_getD, hrw]; rfl
    rw [er] at k
    have hTab := hS.tab j ta lr c hta hlr hc
    obtain ⟨dt, htab⟩ := id hTab
    have hrm : rows ∈ M.tabs := List.mem_of_getElem? hrw
    have hr10 := hS.wf.few rows hrm
    -- table = store.tables[number]
    refine ⟨_, rfl, st, CS, dx, _, _, rfl, hst, T.cl, T.no _ (by simp), fs2_1, _, rfl, L.lt, _, _, _, rfl, rfl, SqL.of hS.lt, atI_nat (v := V.ref ta) (by rw [List.getElem?_map, hta]; rfl), ?_⟩
    -- if not is_row_of(table, values)
    refine ⟨_, rfl, _, rfl, ta, lv, lr, (c : Int), x, rfl, hTab, SqL.of hlv, (by show x.length ≤ 2 ^ 24 - 1; omega), fun H1 s1 => ⟨_, rfl, ?_⟩⟩
    have hS1 := hS.same s1
    cases hir : isRow (c : Int) x with
    | false =>
      rw [hir, if_neg (by decide)] at k
      refine iteT ⟨(by show 1 ≤ sizeLine; decide), fun p hp => k _ p (post_pure hS (s1.trans (same_upd hp)) (s1.free hp) upd_same)⟩
    | true =>
      rw [hir, if_pos rfl] at k
      refine iteF ?_
      -- row = tuple(values)
      refine ⟨_, rfl, lv, _, rfl, .inl ⟨SqL.of (s1 _ _ hlv), fun r hr0 => ?_⟩⟩
      have s2 : Same H1 (upd H1 r (.tup (x.map V.int))) := same_upd hr0
      have hr2 : RowAt (upd H1 r (.tup (x.map V.int))) r x := upd_same
      generalize upd H1 r (.tup (x.map V.int)) = H2 at s2 hr2
      have s12 : Same H H2 := s1.trans s2
      have hS2 := hS.same s12
      have hrps2 : AllAt (RowAt H2) rps rows := hrps.mono fun _ _ _ e => s12 _ _ e
      -- if row in table.rows
      refine ⟨_, rfl, _, rfl, ta, CT, dt, _, _, rfl, s12 _ _ htab, TT.cl, TT.no _ (by simp), fs2_2, dRow x, rows.map dRow, dp_row hr2, .lst (SqL.of (s12 _ _ hlr1)) (dp_rows hrps2), shaped_row x, shaped_rows rows, _, rfl, ?_⟩
      rw [any_rows]
      by_cases hin : x ∈ rows
      · rw [if_pos hin] at k
        exact ifT (decide_eq_true hin) ⟨(by show 1 ≤ sizeLine; decide), fun p hp => k _ p (post_pure hS (s12.trans (same_upd hp)) (s12.free hp) upd_same)⟩
      rw [if_neg hin] at k
      refine ifF (decide_eq_false hin) ?_
      -- if len(table.rows) == MOST_ROWS
      refine ⟨_, rfl, ta, CT, dt, _, _, rfl, s12 _ _ htab, TT.cl, TT.no _ (by simp), fs2_2, lr, _, rfl, Or.inl (SqL.of (s12 _ _ hlr1)), rfl, _, rfl, ?_⟩
      rw [List.length_map, hrps.1]
      by_cases h10 : rows.length = 10
      · rw [if_pos h10] at k
        exact ifT (decide_eq_true (by rw [h10]; rfl)) ⟨(by show 1 ≤ sizeLine; decide), fun p hp => k _ p (post_pure hS (s12.trans (same_upd hp)) (s12.free hp) upd_same)⟩
      rw [if_neg h10] at k
      refine ifF (decide_eq_false fun q => h10 (by have := V.int.inj q; omega)) ?_
      -- table.rows.append(row)
      have hlr2 := s12 _ _ hlr1
      refine ⟨_, rfl, ta, CT, dt, _, _, rfl, s12 _ _ htab, TT.cl, TT.no _ (by simp), fs2_2, .inl ⟨rfl, _, SqL.of hlr2⟩, _, rfl, lr, _, _, rfl, rfl, hlr2, (by rw [List.length_map, hrps.1]; show _ < 2 ^ 24; omega), ?_⟩
      have bt : But lr H2 (upd H2 lr (.lst (rps.map V.ref ++ [V.ref r]))) := (But.of_same (Same.refl _)).upd
      have hlr3 : upd H2 lr (.lst (rps.map V.ref ++ [V.ref r])) lr = some (.lst ((rps ++ [r]).map V.ref)) := by rw [upd_same, List.map_append]; rfl
      generalize upd H2 lr (.lst (rps.map V.ref ++ [V.ref r])) = H3 at bt hlr3
      refine ⟨(by show 1 ≤ sizeLine; decide), fun p hp => ?_⟩
      have fi : ∀ a C dx fs, H2 a = some (.ins C dx fs) → H3 a = some (.ins C dx fs) := fun a C dx fs e => bt _ _ e (ne_of e hlr2 (by intro q; cases q))
      have ft : ∀ a xs, H2 a = some (.tup xs) → H3 a = some (.tup xs) := fun a xs e => bt _ _ e (ne_of e hlr2 (by intro q; cases q))
      have hlm : lr ∈ L.lrs := List.mem_of_getElem? hlr
      have hndl := List.nodup_cons.mp hS.nd
      have hS3 : StAt CS CT CA H3 st L ⟨M.cols, M.tabs.set j (rows ++ [x]), M.asked⟩ := by
        refine ⟨⟨dx, fi _ _ _ _ (s12 _ _ hst)⟩, bt _ _ hS2.lt (fun q => hndl.1 (q ▸ hlm)), bt _ _ hS2.lq (fun q => hS.nq (q ▸ List.mem_cons_of_mem _ hlm)), hS.n1, hS.n2, ?_, ?_, hS.q1, hS.q2, ?_, hS.nd, hS.nq, hS.na, ?_⟩
        · intro i ta' l c' h1 h2 h3
          obtain ⟨d, e⟩ := hS2.tab i ta' l c' h1 h2 h3
          exact ⟨d, fi _ _ _ _ e⟩
        · refine ⟨by rw [List.length_set]; exact hS.rows.1, fun i l rr h1 h2 => ?_⟩
          rw [List.getElem?_set] at h2
          by_cases e : j = i
          · subst e
            rw [hlr] at h1
            cases h1
            rw [if_pos rfl, if_pos (List.getElem?_eq_some_iff.mp hrw).1] at h2
            cases h2
            exact ⟨rps ++ [r], hlr3, AllAt.snoc (hrps2.mono fun _ _ _ e => ft _ _ e) (ft _ _ hr2)⟩
          · rw [if_neg e] at h2
            obtain ⟨rps', e1, e2⟩ := hS2.rows.2 i l rr h1 h2
            exact ⟨rps', bt _ _ e1 (fun q => e (nd_ix hndl.2 (q ▸ hlr) h1)), e2.mono fun _ _ _ e => ft _ _ e⟩
        · intro i a l y h1 h2 h3
          obtain ⟨ta', e1, ⟨⟨d, e2⟩, ps, e3, e4⟩⟩ := hS2.atm i a l y h1 h2 h3
          have hl := List.mem_of_getElem? h2
          exact ⟨ta', e1, ⟨d, fi _ _ _ _ e2⟩, ps, bt _ _ e3 (fun q => hS.na l hl (q ▸ List.mem_cons_of_mem _ hlm)), e4.mono fun _ _ _ e => ft _ _ e⟩
        · exact wf_row hS.wf hc hrw (by have := isRow_len hir; omega) hin (by omega)
      have hp2 : H2 p = none := by
        cases q : H2 p with
        | none => rfl
        | some o => rw [bt p o q (fun e => by rw [e, hlr3] at hp; cases hp)] at hp; cases hp
      refine k _ p ⟨L, hS3.same (same_upd hp), fun b o e hb => ?_, fun l hl => Or.inl hl, s12.free hp2, ?_, upd_same⟩
      · exact same_upd hp _ _ (bt _ _ (s12 _ _ e) fun q => hb (by rw [q]; exact List.mem_cons_of_mem _ (Lay.own_lr hlm)))
      · intro q
        obtain ⟨xs, e⟩ := hS3.owned p q
        rw [hp] at e
        cases e
theorem sc_ak : FnScope ["store", "numbers", "atoms"] ["store", "numbers"] (defScope sAsk) := ⟨rfl, rfl, rfl, by decide +kernel, rfl, by decide +kernel, by decide +kernel⟩
theorem ok_ask (F : Has K mg "ask" sAsk ["store", "numbers"]) (N : Plain mg) (T : Klass K mg "Store" CS ["tables", "question"]) (G : Ok P w K mg base "read_atoms" 4 ["tables", "numbers"] (spReadAtoms K CT CA)) (cw : IntC mg "WRONG" (-1)) : Ok P w K mg base "ask" 5 ["store", "numbers"] (spAsk CS CT CA) := by
  obtain ⟨f, fd, F, M, kp, b⟩ := F
  refine ⟨f, fd, F.ok sc_ak (fun vs H Q E h => ?_) (fun cdv A outer s H vs Q E hr h => ?_), M, kp, b⟩
  · obtain ⟨st, lv, l, L, M, rfl, _⟩ := h
    rfl
  · obtain ⟨st, lv, l, L, M, rfl, hS, hlv, hll, k⟩ := h
    obtain ⟨dx, hst⟩ := hS.store
    refine ⟨_, pss_cons (ps_set (i := 2) sc_ak.nd rfl (Or.inl rfl) (pe_ok G hr rfl (pa_cons (pe_fld (pv 0) rfl) (pa_cons (pv 1) pa_nil))))
      (pss_cons (ps_if (pt_cmpR op_isN (pv 2) pe_non (nomark _)) (pss_one (ps_ret (pe_lst (pa_cons (pe_const cw rfl) pa_nil)))) pss_nil)
      (pss_cons (ps_fld (pv 0) (pv 2) rfl)
      (pss_one (ps_ret (pe_lst (pa_cons (pe_callB call_len_seq (by rfl) N.len PySem.boot_len (pa_cons (pv 2) pa_nil)) pa_nil)))))), ?_⟩
    unfold mAsk at k
    have htabs : AllAt (fun a c => ∃ r, TableAt CT H a r c) L.tas M.cols := ⟨hS.n1, fun i ta c h1 h2 => by
      have hi : i < L.lrs.length := by rw [hS.n2]; exact (List.getElem?_eq_some_iff.mp h2).1
      exact ⟨_, hS.tab i ta _ c h1 (List.getElem?_eq_getElem hi) h2⟩⟩
    refine ⟨_, rfl, st, CS, dx, _, _, rfl, hst, T.cl, T.no _ (by simp), fs2_1, _, rfl, L.lt, lv, L.tas, M.cols, l, rfl, SqL.of hS.lt, htabs, SqL.of hlv, hll, hS.wf.c4, fun hn H1 s1 => ?_, fun ats hats hgd h5 H1 q as s1 nq hq hat => ?_⟩
    · rw [hn] at k
      refine ⟨_, rfl, rfl, _, rfl, ifT (decide_eq_true rfl) ⟨(by show 1 ≤ sizeLine; decide), fun p hp => k _ p (post_pure hS (s1.trans (same_upd hp)) (s1.free hp) upd_same)⟩⟩
    · rw [hats] at k
      refine ⟨_, rfl, rfl, _, rfl, ifF (decide_eq_false (by intro e; cases e)) ?_⟩
      have hst1 := s1 _ _ hst
      refine ⟨_, rfl, _, rfl, st, CS, dx, _, rfl, hst1, T.cl, T.no _ (by simp), (by show 2 < 1000; decide), ?_⟩
      rw [fs2_put2]
      have bt : But st H1 (upd H1 st (.ins CS dx (fs2 "tables" "question" (.ref L.lt) (.ref q)))) := (But.of_same (Same.refl _)).upd
      have hst2 : upd H1 st (.ins CS dx (fs2 "tables" "question" (.ref L.lt) (.ref q))) st = some (.ins CS dx (fs2 "tables" "question" (.ref L.lt) (.ref q))) := upd_same
      generalize upd H1 st (.ins CS dx (fs2 "tables" "question" (.ref L.lt) (.ref q))) = H2 at bt hst2
      have fl : ∀ a xs, H1 a = some (.lst xs) → H2 a = some (.lst xs) := fun a xs e => bt _ _ e (ne_of e hst1 (by intro q; cases q))
      have ft : ∀ a xs, H1 a = some (.tup xs) → H2 a = some (.tup xs) := fun a xs e => bt _ _ e (ne_of e hst1 (by intro q; cases q))
      have fo : ∀ a C dy f g x y, H1 a = some (.ins C dy (fs2 f g x y)) → ¬ f = "tables" → H2 a = some (.ins C dy (fs2 f g x y)) := fun a C dy f g x y e hf => bt _ _ e (ne_of e hst1 (fun z => hf (fs2_inj (HO.ins.inj z).2.2)))
      have hS1 := hS.same s1
      -- where the atoms' terms stand
      have hals : ∃ als : List Addr, als.length = ats.length ∧ ∀ (i : Nat) (a l : Addr) (x : Atom), as[i]? = some a → als[i]? = some l → ats[i]? = some x → ∃ ta, H l = none ∧ l ≠ q ∧ L.tas[x.rel]? = some ta ∧ AtomAt CA H1 a ta l x.args := by
        have e0 : ∀ (as : List Addr) (ats : List Atom), AllAt (AtomIn CA H L.tas q H1) as ats → ∃ als : List Addr, als.length = ats.length ∧ ∀ (i : Nat) (a l : Addr) (x : Atom), as[i]? = some a → als[i]? = some l → ats[i]? = some x → ∃ ta, H l = none ∧ l ≠ q ∧ L.tas[x.rel]? = some ta ∧ AtomAt CA H1 a ta l x.args := by
          intro as
          induction as with
          | nil =>
            intro ats h
            match ats, h with
            | [], _ => exact ⟨[], rfl, fun i a l x h1 => by simp at h1⟩
            | _ :: _, h => cases h.1
          | cons a as ih =>
            intro ats h
            match ats, h with
            | [], h => cases h.1
            | x :: ats, h =>
              obtain ⟨als, e1, e2⟩ := ih ats ⟨Nat.succ.inj h.1, fun i p y h1 h2 => h.2 (i + 1) p y h1 h2⟩
              obtain ⟨ta, l, f1, f2, f3, f4⟩ := h.2 0 a x rfl rfl
              refine ⟨l :: als, congrArg (· + 1) e1, fun i a' l' x' h1 h2 h3 => ?_⟩
              cases i with
              | zero =>
                cases h1
                cases h2
                cases h3
                exact ⟨ta, f1, f2, f3, f4⟩
              | succ i => exact e2 i a' l' x' h1 h2 h3
        exact e0 as ats hat
      obtain ⟨als, hal1, hal2⟩ := hals
      have halm : ∀ l ∈ als, H l = none ∧ l ≠ q := fun l hl => by
        obtain ⟨i, hi⟩ := List.mem_iff_getElem?.mp hl
        have hlt : i < ats.length := by rw [← hal1]; exact (List.getElem?_eq_some_iff.mp hi).1
        have hlt2 : i < as.length := by rw [hat.1]; exact hlt
        obtain ⟨ta, f1, f2, _⟩ := hal2 i _ l _ (List.getElem?_eq_getElem hlt2) hi (List.getElem?_eq_getElem hlt)
        exact ⟨f1, f2⟩
      have old : ∀ l, l ∈ L.lt :: L.lrs → H l ≠ none := fun l hl => by
        have hm : l ∈ L.own := by
          rcases List.mem_cons.mp hl with rfl | hl
          · exact Lay.own_lt
          · exact Lay.own_lr hl
        obtain ⟨xs, e⟩ := hS.owned l hm
        rw [e]
        intro z
        cases z
      have hS2 : StAt CS CT CA H2 st ⟨L.lt, q, L.tas, L.lrs, as, als⟩ ⟨M.cols, M.tabs, ats⟩ := by
        refine ⟨⟨dx, hst2⟩, fl _ _ hS1.lt, fl _ _ hq, hS.n1, hS.n2, ?_, ?_, hat.1, hal1, ?_, hS.nd, ?_, ?_, ?_⟩
        · intro i ta lr c h1 h2 h3
          obtain ⟨d, e⟩ := hS1.tab i ta lr c h1 h2 h3
          exact ⟨d, fo _ _ _ _ _ _ _ e (by decide +kernel)⟩
        · exact hS1.rows.mono fun p y _ ⟨rps, e1, e2⟩ => ⟨rps, fl _ _ e1, e2.mono fun _ _ _ e => ft _ _ e⟩
        · intro i a l y h1 h2 h3
          obtain ⟨ta, _, _, f3, ⟨⟨d, e1⟩, ps, e2, e3⟩⟩ := hal2 i a l y h1 h2 h3
          exact ⟨ta, f3, ⟨d, fo _ _ _ _ _ _ _ e1 (by decide +kernel)⟩, ps, fl _ _ e2, e3.mono fun _ _ _ e => ft _ _ e⟩
        · exact fun z => old q z nq
        · exact fun l hl z => old l z (halm l hl).1
        · have wf := hS.wf
          exact ⟨wf.len, wf.c4, wf.t6, wf.nd, wf.few, wf.rl, hgd, h5⟩
      refine ⟨_, rfl, q, _, rfl, Or.inl (SqL.of (fl _ _ hq)), (by show 1 ≤ sizeLine; decide), fun p hp => ?_⟩
      have hp1 : H1 p = none := by
        cases z : H1 p with
        | none => rfl
        | some o => rw [bt p o z (fun e => by rw [e, hst2] at hp; cases hp)] at hp; cases hp
      refine k _ p ⟨_, hS2.same (same_upd hp), fun c o e hc => ?_, ?_, s1.free hp1, ?_, ?_⟩
      · exact same_upd hp _ _ (bt _ _ (s1 _ _ e) fun z => hc (by rw [z]; exact List.mem_cons_self))
      · intro y hy
        simp only [Lay.own, List.mem_cons, List.mem_append] at hy
        rcases hy with rfl | rfl | hy | hy
        · exact Or.inl Lay.own_lt
        · exact Or.inr nq
        · exact Or.inl (Lay.own_lr hy)
        · exact Or.inr (halm y hy).1
      · intro z
        obtain ⟨xs, e⟩ := hS2.owned p z
        rw [hp] at e
        cases e
      · rw [upd_same, List.length_map, hat.1]
        rfl
end
end Jp
/-! xs.extend(t), t a tuple. -/
namespace Jp
open PySem PySem.Spec PyProof.Rows L2
theorem extend_tup (l : Addr) (items : Array Value) (n : Nat) (b : Addr) (items2 : Array Value) (hs0 : ¬(!items.isEmpty && Builtin.List.listTooLong (items.size + items2.size)) = true) (hs1 : items.size ≤ sizeLine) (hs2 : items.size + items2.size ≤ sizeLine + 1) :
    Meets (Builtin.«list.extend» ⟨[.ref l, .ref b], []⟩) (fun _ R s => s.heap.get? l = some { cls := .type "list", dict := none, data := .seq items n, slots := #[] } ∧ IsTup s.heap b items2 ∧
      R (.ok (.ret Value.none)) { s with heap := s.heap.update l (Obj.mapSeq fun x => x ++ items2), toks := s.toks }) :=
  .of_wp fun prog w A R s h => by
    obtain ⟨hp, g, d, tk, os⟩ := s
    obtain ⟨hl, ⟨o, ho, hc, m, hd⟩, h⟩ := h
    have f2 := AutoSeq1.sub_tuple_tuple
    have f3 := AutoSeq1.sub_list_list
    have f4 := AutoSeq1.sub_tuple_list
    have f5 := AutoSeq1.sub_list_tuple
    have hT : Shared.TypeIs ⟨hp, g, d, tk, os⟩ (.ref b) "tuple" := ⟨o, ho, hc⟩
    have hz' : (items ++ items2).size ≤ sizeLine + 1 := by rw [Array.size_append]; exact hs2
    have hI : ∀ {Q : Array Value → Shared → Prop} {M : Model} {A : Around} {E : Value → Shared → Prop}, Q items2 ⟨hp, g, d, tk, os⟩ → wpAny M A (Builtin.List.listItems (.ref b)) Q E ⟨hp, g, d, tk, os⟩ := fun q => listItems_at ho hd q
    wp_walk using wpAny_typeOf hT, hI, (wpAny_updateSeq hl rfl (hz := hs1) (_hz' := hz')), AutoSeq1.wpAny_loadPart' hl
    exact ⟨_, rfl, h⟩
def rExtendT (K : PySem.W.Frag) : V → List V → Hp → VK → Prop := fun x vs H Q => ∃ l b xs zs, x = .ref l ∧ vs = [.ref b] ∧ H l = some (.lst xs) ∧ SqT K H b zs ∧ xs.length + zs.length ≤ sizeLine ∧ Q .non (upd H l (.lst (xs ++ zs)))
theorem mt_extendT {X : Cx} : MtM X "list.extend" (rExtendT X.K) := by
  intro pins s σ H x vs v us Q I rx rv h
  obtain ⟨l, b, xs, zs, rfl, rfl, hl, hb, hz, q⟩ := h
  cases rx
  obtain ⟨u, rfl, ru⟩ := rv.one
  cases ru
  obtain ⟨_, its, n, r, _, e⟩ := I.lstM hl
  obtain ⟨ws, r2, pt, _⟩ := I.tuple hb
  have a1 := r.length
  have a2 := r2.length
  have hlong : ¬ (!its.toArray.isEmpty && Builtin.List.listTooLong (its.toArray.size + ws.toArray.size)) = true := by
    rw [notLongL (by simp; omega), Bool.and_false]
    decide
  refine call_meets F.slot_list_extend ⟨_, e, rfl⟩ F.entry_list_extend (F.args_list_extend_2 _ _) (extend_tup l its.toArray n b ws.toArray hlong (by simp; omega) (by simp; omega)) ⟨e, pt, ?_⟩
  exact ⟨.non, _, I.lset (its' := its ++ ws) hl e (by simp) (r.append r2) (by rw [List.length_append]; omega), rfl, q⟩
end Jp
namespace Jp
open PySem PySem.Spec PyProof.Rows L2
open MdBase (Term Atom varsOf)
/-- the question's list, its atoms with their tables -/
structure AskAt (CT CA : Addr) (H : Hp) (lq : Addr) (M : Mir) : Prop where
  ex : ∃ as, H lq = some (.lst (as.map V.ref)) ∧ AllAt (AtomFull CT CA H M.tabs) as M.asked
  wf : Wf M
theorem StAt.ask {CS CT CA : Addr} {H : Hp} {st : Addr} {L : Lay} {M : Mir} (h : StAt CS CT CA H st L M) : AskAt CT CA H L.lq M := by
  refine ⟨⟨L.as, h.lq, h.q1, fun i a x h1 h2 => ?_⟩, h.wf⟩
  have hi : i < M.asked.length := (List.getElem?_eq_some_iff.mp h2).1
  have hil : i < L.als.length := by rw [h.q2]; exact hi
  obtain ⟨ta, e1, e2⟩ := h.atm i a _ x h1 (List.getElem?_eq_getElem hil) h2
  have hx := List.mem_of_getElem? h2
  have g := h.wf.good x hx
  have hr : x.rel < L.lrs.length := by rw [h.n2]; exact g.rel
  obtain ⟨rows, f1, rps, f2, f3⟩ := h.rows.get (List.getElem?_eq_getElem hr)
  refine ⟨ta, _, _, _, rps, e2, h.tab x.rel ta _ _ e1 (List.getElem?_eq_getElem hr) g.len, f2, ?_⟩
  rw [List.getD_eq_getElem?_getD, f1]
  exact f3
theorem AskAt.same {CT CA : Addr} {H H' : Hp} {lq : Addr} {M : Mir} (h : AskAt CT CA H lq M) (s : Same H H') : AskAt CT CA H' lq M := by
  obtain ⟨as, h1, h2⟩ := h.ex
  exact ⟨⟨as, s _ _ h1, h2.mono fun _ _ _ e => e.same s⟩, h.wf⟩
def treeAns (S : Md49.St) : List Int := (if Md49.hangs S = true then 1 else 0) :: Md49.num (Md49.tree S).1.length :: ((Md49.tree S).1.flatMap fun e => [Md49.num e.1, Md49.num e.2]) ++ Md49.num (Md49.tree S).2.length :: Md49.nums (Md49.tree S).2
theorem takenOff_left {s : Md49.St} (hs : Small s.asked) : ∀ (n : Nat) (l : List Nat), l ≠ [] → (Md49.takenOff s n l).2 ≠ []
  | 0, l, h => h
  | n + 1, l, h => by
    cases e : Md49.ear s l with
    | none =>
      rw [takenOff_none _ e]
      exact h
    | some p =>
      rw [takenOff_some _ hs e]
      refine takenOff_left hs n _ fun q => ?_
      rw [← pair_eq hs] at e
      obtain ⟨m1, m2, m3⟩ := pair_mem e
      have : p.2 ∈ l.filter fun i => i != p.1 := List.mem_filter.mpr ⟨m2, by simpa using m3⟩
      rw [q] at this
      cases this
theorem takenOff_len {s : Md49.St} (hs : Small s.asked) : ∀ (n : Nat) (l : List Nat), l.Nodup → (Md49.takenOff s n l).1.length + (Md49.takenOff s n l).2.length = l.length
  | 0, l, _ => by simp [Md49.takenOff]
  | n + 1, l, h => by
    cases e : Md49.ear s l with
    | none =>
      rw [takenOff_none _ e]
      simp
    | some p =>
      rw [takenOff_some _ hs e]
      rw [← pair_eq hs] at e
      obtain ⟨m1, m2, m3⟩ := pair_mem e
      have ih := takenOff_len hs n (l.filter fun i => i != p.1) (h.filter _)
      rw [filter_erase h] at ih ⊢
      have := List.length_erase_of_mem m1
      have := List.length_pos_of_mem m1
      simp only [List.length_cons]
      omega
theorem tree_len {S : Md49.St} (hs : Small S.asked) : (Md49.tree S).1.length + (Md49.tree S).2.length = S.asked.length := by
  have := takenOff_len hs S.asked.length (Md49.places S) (by unfold Md49.places; exact List.nodup_range)
  unfold Md49.tree
  rw [this]
  unfold Md49.places
  exact List.length_range
theorem if_val {c : Bool} {a b : V} {σ : L2.St} {H : Hp} {R : VK} (h : R (if c = true then a else b) H) : if c = true then tC a σ H R else tC b σ H R := by
  cases c with
  | true => exact h
  | false => exact h
theorem nums_V (l : List Nat) : (Md49.nums l).map V.int = l.map nV := by
  unfold Md49.nums
  rw [List.map_map]
  rfl
def spTellTree (CT CA : Addr) : Sp := fun vs H Q _ => ∃ (lq : Addr) (M : Mir), vs = [.ref lq] ∧ AskAt CT CA H lq M ∧ M.asked ≠ [] ∧ ∀ H' p, Same H H' → H p = none → H' p = some (.lst ((treeAns M.toS).map V.int)) → Q (.ref p) H'
def leftAns (M : Mir) (i : Int) : List Int := if 0 ≤ i ∧ i < (M.asked.length : Int) then Md49.toldRows ((Md49.left M.toS).getD i.toNat []) else [-1]
def spTellLeft (CT CA : Addr) : Sp := fun vs H Q _ => ∃ (lq : Addr) (i : Int) (M : Mir), vs = [.ref lq, .int i] ∧ AskAt CT CA H lq M ∧ ∀ H' p, Same H H' → H p = none → H' p = some (.lst ((leftAns M i).map V.int)) → Q (.ref p) H'
section
variable {P : Program} {w : World} {K : PySem.W.Frag} {mg : Str → Option Value} {base : Heap} {CS CT CA CH CF : Addr}
theorem sc_tt : FnScope ["question", "hanging", "told", "pair"] ["question"] (defScope sTellTree) := ⟨rfl, rfl, rfl, by decide +kernel, rfl, by decide +kernel, by decide +kernel⟩
theorem ok_tellTree (F : Has K mg "tell_tree" sTellTree ["question"]) (N : Plain mg) (TH : Klass K mg "Hanging" CH ["taken", "standing"]) (G : Ok P w K mg base "take_off" 4 ["atoms"] (spTakeOff CA CH)) : Ok P w K mg base "tell_tree" 5 ["question"] (spTellTree CT CA) := by
  obtain ⟨f, fd, F, M, kp, b⟩ := F
  refine ⟨f, fd, F.ok sc_tt (fun vs H Q E h => ?_) (fun cdv A outer s H vs Q E hr h => ?_), M, kp, b⟩
  · obtain ⟨lq, M, rfl, _⟩ := h
    rfl
  · obtain ⟨lq, M, rfl, hA, hne, k⟩ := h
    obtain ⟨as, hlq, hats⟩ := hA.ex
    have wf := hA.wf
    refine ⟨_, pss_cons (ps_set (i := 1) sc_tt.nd rfl (Or.inl rfl) (pe_ok G hr rfl (pa_cons (pv 0) pa_nil)))
      (pss_cons (ps_set (i := 2) sc_tt.nd rfl (Or.inl rfl) (pe_lst (pa_cons (pe_ifExp (pt_cmpR op_eq (pe_callB call_len_seq (by rfl) N.len PySem.boot_len (pa_cons (pe_fld (pv 1) rfl) pa_nil)) pe_int (nomark _)) pe_int pe_int)
        (pa_cons (pe_callB call_len_seq (by rfl) N.len PySem.boot_len (pa_cons (pe_fld (pv 1) rfl) pa_nil)) pa_nil))))
      (pss_cons (ps_for PassesOwn.never rfl (pi_list (pe_fld (pv 1) rfl)) (pg_name (i := 3) sc_tt.nd rfl (Or.inl rfl))
        (pss_one (ps_expr (pe_bm PySem.F.plainAttrs_list PySem.F.slot_list_extend PySem.F.type_list_extend mt_extendT (pv 2) (pa_cons (pv 3) pa_nil)))))
      (pss_cons (ps_expr (pe_bm PySem.F.plainAttrs_list PySem.F.slot_list_append PySem.F.type_list_append mt_append (pv 2) (pa_cons (pe_callB call_len_seq (by rfl) N.len PySem.boot_len (pa_cons (pe_fld (pv 1) rfl) pa_nil)) pa_nil)))
      (pss_cons (ps_expr (pe_bm PySem.F.plainAttrs_list PySem.F.slot_list_extend PySem.F.type_list_extend mt_extend (pv 2) (pa_cons (pe_fld (pv 1) rfl) pa_nil)))
      (pss_one (ps_ret (pv 2))))))), ?_⟩
    have h5 := wf.a5
    have hts : (Md49.tree M.toS).1.length + (Md49.tree M.toS).2.length = M.asked.length := tree_len (S := M.toS) wf.small
    have hpos : (Md49.tree M.toS).2 ≠ [] := by
      refine takenOff_left (s := M.toS) wf.small _ _ ?_
      unfold Md49.places
      intro q
      have := congrArg List.length q
      rw [List.length_range] at this
      exact hne (List.eq_nil_of_length_eq_zero this)
    have hpos2 : 1 ≤ (Md49.tree M.toS).2.length := by
      rcases Nat.eq_zero_or_pos (Md49.tree M.toS).2.length with q | q
      · exact absurd (List.eq_nil_of_length_eq_zero q) hpos
      · exact q
    refine ⟨_, rfl, lq, as, M.toS, rfl, hlq, hats.mono (fun _ _ _ ⟨ta, l, _, _, _, e, _⟩ => ⟨ta, l, e⟩), wf.small, (by show M.asked.length ≤ 1000; omega), (fun a ha => Nat.le_trans (wf.fair.args a ha) (by decide)), fun H1 hg lt ls tps s1 nh ⟨dh, hh⟩ hlt htps hls => ?_⟩
    unfold treeAns Md49.hangs at k
    generalize Md49.tree M.toS = T at hts hpos2 htps hls k
    obtain ⟨tk, st⟩ := T
    -- told = [.., ..]
    refine ⟨_, rfl, hg, CH, dh, _, _, rfl, hh, TH.cl, TH.no _ (by simp), fs2_2, ls, _, rfl, Or.inl (SqL.of hls), rfl, _, rfl, ?_⟩
    rw [List.length_map]
    refine if_val ⟨_, rfl, hg, CH, dh, _, _, rfl, hh, TH.cl, TH.no _ (by simp), fs2_1, lt, _, rfl, Or.inl (SqL.of hlt), (by show 2 ≤ sizeLine; decide), fun p hp => ?_⟩
    rw [List.length_map, htps.1]
    have ez : (if decide (V.int (st.length : Int) = V.int 1) = true then V.int 1 else V.int 0) = V.int (if decide (st.length ≤ 1) = true then 1 else 0) := by
      by_cases h1 : st.length = 1
      · rw [decide_eq_true (by rw [h1]; rfl), decide_eq_true (by omega), if_pos rfl, if_pos rfl]
      · rw [decide_eq_false (fun q => h1 (by have := V.int.inj q; omega)), decide_eq_false (by simp only at hpos2; omega), if_neg (by decide), if_neg (by decide)]
    rw [ez]
    generalize (if decide (st.length ≤ 1) = true then (1 : Int) else 0) = z at k
    have s2 : Same H1 (upd H1 p (.lst [V.int z, V.int (tk.length : Int)])) := same_upd hp
    have hp2 : upd H1 p (.lst [V.int z, V.int (tk.length : Int)]) p = some (.lst [V.int z, V.int (tk.length : Int)]) := upd_same
    generalize upd H1 p (.lst [V.int z, V.int (tk.length : Int)]) = H2 at s2 hp2
    have hp0 : H p = none := s1.free hp
    have nlt : lt ≠ p := ne_of_none hlt hp
    have nls : ls ≠ p := ne_of_none hls hp
    have ttl : tps.length = tk.length := htps.1
    simp only at hts
    -- for pair in hanging.taken
    refine ⟨_, rfl, hg, CH, dh, _, _, rfl, s2 _ _ hh, TH.cl, TH.no _ (by simp), fs2_1, lt, rfl, ⟨_, SqL.of (s2 _ _ hlt)⟩, ?_⟩
    refine for_list (K := K) (a := lt) (xs := tps.map V.ref) (fun i σ H' => ∃ v3 : Option V, σ = [some (.ref lq), some (.ref hg), some (.ref p), v3] ∧ But p H2 H' ∧ H' p = some (.lst ((z :: (tk.length : Int) :: ((tk.take i).flatMap fun e => [Md49.num e.1, Md49.num e.2])).map V.int)))
      ⟨none, rfl, But.of_same (Same.refl _), by rw [hp2]; rfl⟩ (fun i σ H' _ ⟨_, _, b3, _⟩ => SqL.of (b3 _ _ (s2 _ _ hlt) nlt)) ?_ ?_
    · rintro i y σ H3 hi ⟨v3, rfl, b3, hp3⟩
      obtain ⟨q, hq, rfl⟩ := get_map hi
      obtain ⟨e, he, hpair⟩ := htps.get hq
      have hpair3 : H3 q = some (.tup [nV e.1, nV e.2]) := b3 _ _ (s2 _ _ hpair) (ne_of (s2 _ _ hpair) hp2 (by intro w; cases w))
      have hil : i < tk.length := (List.getElem?_eq_some_iff.mp he).1
      have hfl : ∀ l : List (Nat × Nat), (l.flatMap fun e => [Md49.num e.1, Md49.num e.2]).length = 2 * l.length := by
        intro l
        induction l with
        | nil => rfl
        | cons a l ih => rw [List.flatMap_cons, List.length_append, ih, List.length_cons]; simp; omega
      refine ⟨_, rfl, .inl ⟨rfl, _, SqL.of hp3⟩, _, rfl, p, q, _, _, rfl, rfl, hp3, SqT.of hpair3, ?_, ⟨_, rfl, b3.upd, ?_⟩⟩
      · rw [List.length_map, List.length_cons, List.length_cons, hfl, List.length_take]
        show _ + 2 ≤ 2 ^ 24
        omega
      · rw [upd_same, take_snoc he, List.flatMap_append]
        simp [nV, Md49.num]
    · rintro σ H3 ⟨v3, rfl, b3, hp3⟩
      rw [List.length_map, ttl, List.take_length] at hp3
      have hh3 := b3 _ _ (s2 _ _ hh) (ne_of (s2 _ _ hh) hp2 (by intro w; cases w))
      have hls3 := b3 _ _ (s2 _ _ hls) nls
      have hfl : (tk.flatMap fun e => [Md49.num e.1, Md49.num e.2]).length = 2 * tk.length := by
        have : ∀ l : List (Nat × Nat), (l.flatMap fun e => [Md49.num e.1, Md49.num e.2]).length = 2 * l.length := by
          intro l
          induction l with
          | nil => rfl
          | cons a l ih => rw [List.flatMap_cons, List.length_append, ih, List.length_cons]; simp; omega
        exact this tk
      -- told.append(len(hanging.standing))
      refine ⟨_, rfl, .inl ⟨rfl, _, SqL.of hp3⟩, _, rfl, hg, CH, dh, _, _, rfl, hh3, TH.cl, TH.no _ (by simp), fs2_2, ls, _, rfl, Or.inl (SqL.of hls3), p, _, _, rfl, rfl, hp3, ?_, ?_⟩
      · rw [List.length_map, List.length_cons, List.length_cons, hfl]
        show _ < 2 ^ 24
        omega
      rw [List.length_map]
      have b4 : But p H3 (upd H3 p (.lst ((z :: (tk.length : Int) :: (tk.flatMap fun e => [Md49.num e.1, Md49.num e.2])).map V.int ++ [V.int (st.length : Int)]))) := (But.of_same (Same.refl _)).upd
      have hp4 : upd H3 p (.lst ((z :: (tk.length : Int) :: (tk.flatMap fun e => [Md49.num e.1, Md49.num e.2])).map V.int ++ [V.int (st.length : Int)])) p = some (.lst ((z :: (tk.length : Int) :: (tk.flatMap fun e => [Md49.num e.1, Md49.num e.2])).map V.int ++ [V.int (st.length : Int)])) := upd_same
      generalize upd H3 p (.lst ((z :: (tk.length : Int) :: (tk.flatMap fun e => [Md49.num e.1, Md49.num e.2])).map V.int ++ [V.int (st.length : Int)])) = H4 at b4 hp4
      have hh4 := b4 _ _ hh3 (ne_of hh3 hp3 (by intro w; cases w))
      have hls4 := b4 _ _ hls3 nls
      refine ⟨_, rfl, .inl ⟨rfl, _, SqL.of hp4⟩, _, rfl, hg, CH, dh, _, _, rfl, hh4, TH.cl, TH.no _ (by simp), fs2_2, p, ls, _, _, rfl, rfl, hp4, hls4, ?_, _, rfl, ?_⟩
      · rw [List.length_append, List.length_map, List.length_cons, List.length_cons, hfl, List.length_map]
        simp only [List.length_singleton]
        show _ ≤ 2 ^ 24
        omega
      · refine k _ p (fun c o e => ?_) hp0 ?_
        · rw [upd_ne (ne_of_none e hp0)]
          exact b4 _ _ (b3 _ _ (s2 _ _ (s1 _ _ e)) (ne_of_none e hp0)) (ne_of_none e hp0)
        · rw [upd_same]
          simp [nums_V, Md49.num]
theorem sc_tlf : FnScope ["question", "atom", "left", "told", "fitting"] ["question", "atom"] (defScope sTellLeft) := ⟨rfl, rfl, rfl, by decide +kernel, rfl, by decide +kernel, by decide +kernel⟩
theorem ok_tellLeft (F : Has K mg "tell_left" sTellLeft ["question", "atom"]) (N : Plain mg) (TF : Klass K mg "FittingRow" CF ["row", "bound"]) (G : Ok P w K mg base "rows_left" 6 ["atoms"] (spRowsLeft CT CA CF)) (cw : IntC mg "WRONG" (-1)) : Ok P w K mg base "tell_left" 7 ["question", "atom"] (spTellLeft CT CA) := by
  obtain ⟨f, fd, F, M, kp, b⟩ := F
  refine ⟨f, fd, F.ok sc_tlf (fun vs H Q E h => ?_) (fun cdv A outer s H vs Q E hr h => ?_), M, kp, b⟩
  · obtain ⟨lq, i, M, rfl, _⟩ := h
    rfl
  · obtain ⟨lq, i, M, rfl, hA, k⟩ := h
    obtain ⟨as, hlq, hats⟩ := hA.ex
    have wf := hA.wf
    refine ⟨_, pss_cons (ps_if (pt_not (pt_chain op_le op_lt pe_int (pv 1) (pe_callB call_len_seq (by rfl) N.len PySem.boot_len (pa_cons (pv 0) pa_nil)))) (pss_one (ps_ret (pe_lst (pa_cons (pe_const cw rfl) pa_nil)))) pss_nil)
      (pss_cons (ps_set (i := 2) sc_tlf.nd rfl (Or.inl rfl) (pe_ix (ixL K) (pe_ok G hr rfl (pa_cons (pv 0) pa_nil)) (pv 1) (fun _ _ => rfl)))
      (pss_cons (ps_set (i := 3) sc_tlf.nd rfl (Or.inl rfl) (pe_lst (pa_cons (pe_callB call_len_seq (by rfl) N.len PySem.boot_len (pa_cons (pv 2) pa_nil)) pa_nil)))
      (pss_cons (ps_for PassesOwn.never rfl (pi_list (pv 2)) (pg_name (i := 4) sc_tlf.nd rfl (Or.inl rfl))
        (pss_one (ps_expr (pe_bm PySem.F.plainAttrs_list PySem.F.slot_list_extend PySem.F.type_list_extend mt_extendT (pv 3) (pa_cons (pe_fld (pv 4) rfl) pa_nil)))))
      (pss_one (ps_ret (pv 3)))))), ?_⟩
    unfold leftAns at k
    have h5 := wf.a5
    refine ⟨_, rfl, _, _, rfl, rfl, _, rfl, ?_⟩
    by_cases h0 : (0 : Int) ≤ i
    rotate_left
    · rw [if_neg (by omega)] at k
      exact ifF (decide_eq_false h0) ⟨_, rfl, iteT ⟨(by show 1 ≤ sizeLine; decide), fun p hp => k _ p (same_upd hp) hp upd_same⟩⟩
    refine ifT (decide_eq_true h0) ⟨_, rfl, lq, _, rfl, Or.inl (SqL.of hlq), _, _, rfl, rfl, _, rfl, ?_⟩
    rw [List.length_map, hats.1]
    by_cases h1 : i < (M.asked.length : Int)
    rotate_left
    · rw [if_neg (by omega)] at k
      exact ifT (by rw [decide_eq_false h1]; rfl) ⟨(by show 1 ≤ sizeLine; decide), fun p hp => k _ p (same_upd hp) hp upd_same⟩
    rw [if_pos ⟨h0, h1⟩] at k
    refine ifF (by rw [decide_eq_true h1]; rfl) ?_
    obtain ⟨j, rfl⟩ : ∃ j : Nat, i = (j : Int) := ⟨i.toNat, by omega⟩
    rw [Int.toNat_natCast] at k
    refine ⟨_, rfl, lq, as, M.asked, M.tabs, rfl, hlq, hats, wf.fair, fun H1 lk fam s1 ⟨ls, hlk, hls⟩ hsub hfine hmax => ?_⟩
    have hleft : Md49.left M.toS = proj fam := left_eq (S := M.toS) rfl wf.fair wf.small hsub hfine hmax
    rw [hleft, proj_getD] at k
    have hsh := (short_fam wf.fair).sub hsub
    have hfl : fam.length = M.asked.length := by rw [hsub.1]; unfold famOf; rw [List.length_map]
    have hj : j < fam.length := by omega
    have hfj : fam[j]? = some fam[j] := List.getElem?_eq_getElem hj
    have egd : fam.getD j [] = fam[j] := by rw [List.getD_eq_getElem?_getD, hfj]; rfl
    rw [egd] at k
    have hql : fam[j].length ≤ 1000 := hsh.2 _ (List.getElem_mem hj)
    have hql2 : ∀ q ∈ fam[j], q.1.length ≤ 4 := by
      intro q hq
      have hq2 := (hsub.2 j).subset (by rw [egd]; exact hq)
      have hj2 : j < M.asked.length := by omega
      rw [fam_get hj2] at hq2
      have hm := (mem_fits.mp hq2).1
      have ha := List.getElem_mem hj2
      rw [wf.fair.len _ ha _ (JpSort.mem_sorted.mp hm)]
      exact wf.fair.args _ ha
    obtain ⟨l, hl, fs, hl1, hfs⟩ := hls.at hfj
    generalize fam[j] = qs at k hql hql2 hfs
    refine ⟨_, rfl, lk, _, _, _, rfl, rfl, SqL.of hlk, atI_nat (v := V.ref l) (by rw [List.getElem?_map, hl]; rfl), ?_⟩
    refine ⟨_, rfl, l, _, rfl, Or.inl (SqL.of hl1), (by show 1 ≤ sizeLine; decide), fun p hp => ?_⟩
    rw [List.length_map, hfs.1]
    have s2 : Same H1 (upd H1 p (.lst [V.int (qs.length : Int)])) := same_upd hp
    have hp2 : upd H1 p (.lst [V.int (qs.length : Int)]) p = some (.lst [V.int (qs.length : Int)]) := upd_same
    generalize upd H1 p (.lst [V.int (qs.length : Int)]) = H2 at s2 hp2
    have hp0 : H p = none := s1.free hp
    have nl : l ≠ p := ne_of_none hl1 hp
    refine ⟨_, rfl, l, rfl, ⟨_, SqL.of (s2 _ _ hl1)⟩, ?_⟩
    have hflen : ∀ (n : Nat) (rs : List Fit), (∀ q ∈ rs, q.1.length ≤ 4) → ((rs.take n).map (·.1)).flatten.length ≤ 4 * rs.length := by
      intro n rs
      induction rs generalizing n with
      | nil => intro _; simp
      | cons a rs ih =>
        intro h
        cases n with
        | zero => simp
        | succ n =>
          have := ih n fun q hq => h q (List.mem_cons_of_mem _ hq)
          have := h a List.mem_cons_self
          simp only [List.take_succ_cons, List.map_cons, List.flatten_cons, List.length_append, List.length_cons]
          omega
    refine for_list (K := K) (a := l) (xs := fs.map V.ref) (fun n σ H' => ∃ v4 : Option V, σ = [some (.ref lq), some (.int (j : Int)), some (.ref l), some (.ref p), v4] ∧ But p H2 H' ∧ H' p = some (.lst (((qs.length : Int) :: ((qs.take n).map (·.1)).flatten).map V.int)))
      ⟨none, rfl, But.of_same (Same.refl _), by rw [hp2]; rfl⟩ (fun n σ H' _ ⟨_, _, b3, _⟩ => SqL.of (b3 _ _ (s2 _ _ hl1) nl)) ?_ ?_
    · rintro n y σ H3 hn ⟨v4, rfl, b3, hp3⟩
      obtain ⟨g, hg, rfl⟩ := get_map hn
      obtain ⟨q, hq, r, bd, ⟨dg, hg1⟩, hrow, hbd⟩ := hfs.get hg
      have hg3 := b3 _ _ (s2 _ _ hg1) (ne_of (s2 _ _ hg1) hp2 (by intro w; cases w))
      have hrow3 := b3 _ _ (s2 _ _ hrow) (ne_of (s2 _ _ hrow) hp2 (by intro w; cases w))
      refine ⟨_, rfl, .inl ⟨rfl, _, SqL.of hp3⟩, _, rfl, g, CF, dg, _, _, rfl, hg3, TF.cl, TF.no _ (by simp), fs2_1, p, r, _, _, rfl, rfl, hp3, SqT.of hrow3, ?_, ⟨_, rfl, b3.upd, ?_⟩⟩
      · have := hflen n qs hql2
        have := hql2 q (List.mem_of_getElem? hq)
        rw [List.length_map, List.length_cons, List.length_map]
        show _ ≤ 2 ^ 24
        omega
      · rw [upd_same, take_snoc hq, List.map_append, List.flatten_append]
        simp
    · rintro σ H3 ⟨v4, rfl, b3, hp3⟩
      rw [List.length_map, hfs.1, List.take_length] at hp3
      refine ⟨_, rfl, k H3 p (fun c o e => b3 _ _ (s2 _ _ (s1 _ _ e)) (ne_of_none e hp0)) hp0 ?_⟩
      rw [hp3]
      unfold Md49.toldRows
      rw [List.length_map]
      rfl
end
end Jp
/-! The cheapest order, the plan: what tells them. -/
namespace Jp
open Md49 (orders inserted earlier orderCost bestOrder places)
def lessO (c b : Nat × List Nat) : Prop := c.1 < b.1 ∨ (c.1 = b.1 ∧ earlier c.2 b.2 = true)
theorem earlier_total {a b : List Nat} (h1 : earlier a b = false) (h2 : earlier b a = false) : a = b := by
  have h := JpSort.before_total h1 h2
  have inj : ∀ {a b : List Nat}, a.map (fun n : Nat => (n : Int)) = b.map (fun n : Nat => (n : Int)) → a = b := by
    intro a
    induction a with
    | nil => intro b h; cases b with | nil => rfl | cons _ _ => cases h
    | cons x a ih =>
      intro b h
      cases b with
      | nil => cases h
      | cons y b =>
        have h1 : (x : Int) = (y : Int) := (List.cons.inj h).1
        have h2 : x = y := by omega
        rw [ih (List.cons.inj h).2, h2]
  exact inj h
theorem earlier_trans {a b c : List Nat} (h1 : earlier a b = true) (h2 : earlier b c = true) : earlier a c = true := JpSort.before_trans h1 h2
theorem earlier_asymm {a b : List Nat} (h1 : earlier a b = true) : earlier b a = false := JpSort.before_asymm h1
theorem lessO_trans {a b c : Nat × List Nat} (h1 : lessO a b) (h2 : lessO b c) : lessO a c := by
  rcases h1 with h1 | ⟨h1, g1⟩
  · rcases h2 with h2 | ⟨h2, g2⟩
    · exact Or.inl (by omega)
    · exact Or.inl (by omega)
  · rcases h2 with h2 | ⟨h2, g2⟩
    · exact Or.inl (by omega)
    · exact Or.inr ⟨by omega, earlier_trans g1 g2⟩
theorem lessO_total {a b : Nat × List Nat} (h1 : ¬ lessO a b) (h2 : ¬ lessO b a) : a = b := by
  have e : a.1 = b.1 := by
    rcases Nat.lt_trichotomy a.1 b.1 with q | q | q
    · exact absurd (Or.inl q) h1
    · exact q
    · exact absurd (Or.inl q) h2
  refine Prod.ext e (earlier_total ?_ ?_)
  · cases q : earlier a.2 b.2 with
    | false => rfl
    | true => exact absurd (Or.inr ⟨e, q⟩) h1
  · cases q : earlier b.2 a.2 with
    | false => rfl
    | true => exact absurd (Or.inr ⟨e.symm, q⟩) h2
instance (c b : Nat × List Nat) : Decidable (lessO c b) := inferInstanceAs (Decidable (_ ∨ _))
def pick (b c : Nat × List Nat) : Nat × List Nat := if lessO c b then c else b
theorem pick_min : ∀ (l : List (Nat × List Nat)) (b : Nat × List Nat), (l.foldl pick b = b ∨ l.foldl pick b ∈ l) ∧ ¬ lessO b (l.foldl pick b) ∧ ∀ c ∈ l, ¬ lessO c (l.foldl pick b)
  | [], b => by
    refine ⟨Or.inl rfl, fun h => ?_, fun c hc => by cases hc⟩
    rcases h with h | ⟨_, h⟩
    · exact absurd h (Nat.lt_irrefl _)
    · have e : earlier b.2 b.2 = false := JpSort.before_irrefl _
      have h' : earlier b.2 b.2 = true := h
      rw [e] at h'
      cases h'
  | x :: l, b => by
    obtain ⟨h1, h2, h3⟩ := pick_min l (pick b x)
    have key : ¬ lessO b (l.foldl pick (pick b x)) ∧ ¬ lessO x (l.foldl pick (pick b x)) := by
      by_cases q : lessO x b
      · have e : pick b x = x := if_pos q
        rw [e] at h2 ⊢
        exact ⟨fun z => h2 (lessO_trans q z), h2⟩
      · have e : pick b x = b := if_neg q
        rw [e] at h2 ⊢
        refine ⟨h2, fun z => ?_⟩
        by_cases w : lessO b x
        · exact h2 (lessO_trans w z)
        · rw [lessO_total q w] at z
          exact h2 z
    refine ⟨?_, key.1, fun c hc => ?_⟩
    · rw [List.foldl_cons]
      rcases h1 with h1 | h1
      · by_cases q : lessO x b
        · have e : pick b x = x := if_pos q
          rw [h1, e]
          exact Or.inr List.mem_cons_self
        · have e : pick b x = b := if_neg q
          rw [h1, e]
          exact Or.inl rfl
      · exact Or.inr (List.mem_cons_of_mem _ h1)
    · rcases List.mem_cons.mp hc with rfl | hc
      · exact key.2
      · exact h3 c hc
theorem inserted_perm {x : Nat} : ∀ {l q : List Nat}, q ∈ inserted x l → q.Perm (x :: l)
  | [], q, h => by
    simp [inserted] at h
    rw [h]
  | y :: l, q, h => by
    rw [inserted, List.mem_cons] at h
    rcases h with rfl | h
    · exact List.Perm.refl _
    · obtain ⟨r, hr, rfl⟩ := List.mem_map.mp h
      exact ((inserted_perm hr).cons y).trans (List.Perm.swap x y l)
theorem mem_inserted {x : Nat} : ∀ (a b : List Nat), (a ++ x :: b) ∈ inserted x (a ++ b)
  | [], [] => by simp [inserted]
  | [], y :: b => by simp [inserted]
  | y :: a, b => by
    rw [List.cons_append, List.cons_append, inserted, List.mem_cons]
    exact Or.inr (List.mem_map.mpr ⟨_, mem_inserted a b, rfl⟩)
theorem mem_orders : ∀ {l q : List Nat}, q ∈ orders l ↔ q.Perm l
  | [], q => by
    rw [orders, List.mem_singleton]
    exact ⟨fun e => e ▸ List.Perm.refl _, fun h => h.eq_nil⟩
  | x :: l, q => by
    rw [orders, List.mem_flatMap]
    constructor
    · rintro ⟨r, hr, hq⟩
      exact (inserted_perm hq).trans ((mem_orders.mp hr).cons x)
    · intro h
      obtain ⟨a, b, rfl⟩ := List.append_of_mem (h.mem_iff.mpr List.mem_cons_self)
      refine ⟨a ++ b, mem_orders.mpr ?_, mem_inserted a b⟩
      exact (List.perm_middle.symm.trans h).cons_inv
theorem bestOrder_is {s : Md49.St} {p : List Nat} (hp : p.Perm (places s)) (hm : ∀ q, q.Perm (places s) → ¬ lessO (orderCost s q, q) (orderCost s p, p)) : bestOrder s = p := by
  have e : bestOrder s = (((orders (places s)).map fun p => (orderCost s p, p)).foldl pick (orderCost s (places s), places s)).2 := rfl
  obtain ⟨h1, h2, h3⟩ := pick_min ((orders (places s)).map fun p => (orderCost s p, p)) (orderCost s (places s), places s)
  have hx : ∃ q, q.Perm (places s) ∧ ((orders (places s)).map fun p => (orderCost s p, p)).foldl pick (orderCost s (places s), places s) = (orderCost s q, q) := by
    rcases h1 with h1 | h1
    · exact ⟨places s, List.Perm.refl _, h1⟩
    · obtain ⟨q, hq, e⟩ := List.mem_map.mp h1
      exact ⟨q, mem_orders.mp hq, e.symm⟩
  obtain ⟨q, hq, eq⟩ := hx
  rw [e, eq]
  rw [eq] at h3
  have := lessO_total (hm q hq) (h3 _ (List.mem_map.mpr ⟨p, mem_orders.mpr hp, rfl⟩))
  exact (Prod.mk.inj this).2
/-! ### partings and plans -/
open Md49 (choose partings Plan leaves planCost bestPlan)
theorem choose_sub : ∀ {k : Nat} {l a : List Nat}, a ∈ choose k l → a.Sublist l ∧ a.length = k
  | 0, l, a, h => by
    have e : a = [] := by cases l <;> simpa [choose] using h
    rw [e]
    exact ⟨List.nil_sublist _, rfl⟩
  | k + 1, [], a, h => by simp [choose] at h
  | k + 1, x :: l, a, h => by
    rw [choose, List.mem_append] at h
    rcases h with h | h
    · obtain ⟨b, hb, rfl⟩ := List.mem_map.mp h
      obtain ⟨h1, h2⟩ := choose_sub hb
      exact ⟨h1.cons_cons x, congrArg (· + 1) h2⟩
    · obtain ⟨h1, h2⟩ := choose_sub h
      exact ⟨h1.cons x, h2⟩
/-- a side and the other one are the whole -/
theorem side_perm : ∀ {l a : List Nat}, l.Nodup → a.Sublist l → (a ++ l.filter fun i => !a.contains i).Perm l := by
  intro l a hn hs
  have ha : a.Nodup := hs.nodup hn
  have hn2 : (a ++ l.filter fun i => !a.contains i).Nodup := by
    rw [List.nodup_append]
    refine ⟨ha, hn.filter _, fun x hx y hy e => ?_⟩
    subst e
    have := (List.mem_filter.mp hy).2
    rw [Bool.not_eq_true', Bool.eq_false_iff] at this
    exact this (List.contains_iff_mem.mpr hx)
  refine (List.perm_ext_iff_of_nodup hn2 hn).mpr fun x => ?_
  rw [List.mem_append, List.mem_filter]
  constructor
  · rintro (h | h)
    · exact hs.subset h
    · exact h.1
  · intro h
    by_cases q : x ∈ a
    · exact Or.inl q
    · refine Or.inr ⟨h, ?_⟩
      rw [Bool.not_eq_true', Bool.eq_false_iff]
      exact fun w => q (List.contains_iff_mem.mp w)
theorem partings_perm {l : List Nat} (hn : l.Nodup) {p : List Nat × List Nat} (h : p ∈ partings l) : (p.1 ++ p.2).Perm l ∧ 1 ≤ p.1.length ∧ 1 ≤ p.2.length ∧ p.1.Sublist l ∧ p.2.Sublist l := by
  cases l with
  | nil => simp [partings] at h
  | cons x r =>
    rw [partings, List.mem_flatten] at h
    obtain ⟨ps, hps, hp⟩ := h
    obtain ⟨k, hk, rfl⟩ := List.mem_map.mp hps
    obtain ⟨a, ha, rfl⟩ := List.mem_map.mp hp
    obtain ⟨h1, h2⟩ := choose_sub ha
    have hn' := (List.nodup_cons.mp hn).2
    have hsp := side_perm hn' h1
    have hk' := List.mem_range.mp hk
    refine ⟨hsp.cons x, by simp, ?_, h1.cons_cons x, (List.filter_sublist).cons x⟩
    have := hsp.length_eq
    rw [List.length_append] at this
    show 1 ≤ (r.filter fun i => !a.contains i).length
    omega
theorem bestPlan_one (s : Md49.St) {n : Nat} {l : List Nat} (h : l.length ≤ 1) : bestPlan s n l = .atom (l.headD 0) := by
  cases n with
  | zero => rfl
  | succ n => rw [bestPlan, if_pos h]
def pickP (b : Option (Nat × Plan)) (c : Nat × Plan) : Option (Nat × Plan) := match b with
  | none => some c
  | some x => if c.1 < x.1 then some c else b
theorem bestPlan_more (s : Md49.St) {n : Nat} {l : List Nat} (h : ¬ l.length ≤ 1) : bestPlan s (n + 1) l = ((((partings l).map fun p => (planCost s (.both (bestPlan s n p.1) (bestPlan s n p.2)), Plan.both (bestPlan s n p.1) (bestPlan s n p.2))).foldl pickP none).map Prod.snd).getD (.atom (l.headD 0)) := by
  rw [bestPlan, if_neg h]
  rfl
theorem pickP_mem : ∀ (l : List (Nat × Plan)) (b : Option (Nat × Plan)), (∃ x, l.foldl pickP b = some x ∧ (b = some x ∨ x ∈ l)) ∨ (l = [] ∧ l.foldl pickP b = b)
  | [], b => Or.inr ⟨rfl, rfl⟩
  | c :: l, b => by
    refine Or.inl ?_
    have hb : ∃ y, pickP b c = some y ∧ (b = some y ∨ y = c) := by
      unfold pickP
      cases b with
      | none => exact ⟨c, rfl, Or.inr rfl⟩
      | some x =>
        by_cases q : c.1 < x.1
        · exact ⟨c, if_pos q, Or.inr rfl⟩
        · exact ⟨x, if_neg q, Or.inl rfl⟩
    obtain ⟨y, hy, hy2⟩ := hb
    rw [List.foldl_cons]
    rcases pickP_mem l (pickP b c) with ⟨x, h1, h2⟩ | ⟨h1, h2⟩
    · refine ⟨x, h1, ?_⟩
      rcases h2 with h2 | h2
      · rw [hy] at h2
        cases h2
        rcases hy2 with q | q
        · exact Or.inl q
        · rw [q]
          exact Or.inr List.mem_cons_self
      · exact Or.inr (List.mem_cons_of_mem _ h2)
    · refine ⟨y, h2.trans hy, ?_⟩
      rcases hy2 with q | q
      · exact Or.inl q
      · rw [q]
        exact Or.inr List.mem_cons_self
theorem partings_some {l : List Nat} (h : ¬ l.length ≤ 1) : partings l ≠ [] := by
  cases l with
  | nil => exact absurd (Nat.zero_le _) h
  | cons x r =>
    cases r with
    | nil => exact absurd (Nat.le_refl _) h
    | cons y r =>
      intro q
      have : (x :: [], (y :: r).filter fun i => !([] : List Nat).contains i) ∈ partings (x :: y :: r) := by
        rw [partings, List.mem_flatten]
        exact ⟨_, List.mem_map.mpr ⟨0, List.mem_range.mpr (by simp), rfl⟩, List.mem_map.mpr ⟨[], by simp [choose], rfl⟩⟩
      rw [q] at this
      cases this
/-- a plan's atoms are just those that it is of -/
theorem leaves_perm (s : Md49.St) : ∀ (n : Nat) (l : List Nat), l.Nodup → l ≠ [] → l.length ≤ n → (leaves (bestPlan s n l)).Perm l
  | 0, l, _, h, hl => absurd (List.eq_nil_of_length_eq_zero (Nat.le_zero.mp hl)) h
  | n + 1, l, hn, hne, hl => by
    by_cases h1 : l.length ≤ 1
    · rw [bestPlan_one s h1]
      cases l with
      | nil => exact absurd rfl hne
      | cons x r =>
        have : r = [] := List.eq_nil_of_length_eq_zero (by rw [List.length_cons] at h1; omega)
        rw [this]
        exact List.Perm.refl _
    · rw [bestPlan_more s h1]
      rcases pickP_mem ((partings l).map fun p => (planCost s (.both (bestPlan s n p.1) (bestPlan s n p.2)), Plan.both (bestPlan s n p.1) (bestPlan s n p.2))) none with ⟨x, e, h2⟩ | ⟨e, _⟩
      · rw [e]
        rcases h2 with h2 | h2
        · cases h2
        · obtain ⟨p, hp, rfl⟩ := List.mem_map.mp h2
          obtain ⟨a, b, c, d1, d2⟩ := partings_perm hn hp
          have hlen := a.length_eq
          rw [List.length_append] at hlen
          show (leaves (bestPlan s n p.1) ++ leaves (bestPlan s n p.2)).Perm l
          have n1 : p.1 ≠ [] := fun q => by rw [q] at b; exact absurd b (by decide)
          have n2 : p.2 ≠ [] := fun q => by rw [q] at c; exact absurd c (by decide)
          exact ((leaves_perm s n p.1 (d1.nodup hn) n1 (by omega)).append (leaves_perm s n p.2 (d2.nodup hn) n2 (by omega))).trans a
      · exact absurd (List.map_eq_nil_iff.mp e) (partings_some h1)
end Jp
/-! min(xs, key=lambda x: e): the lambda may read names of the def around it, and what it calls may change the heap. -/
namespace Jp
open PySem PySem.Spec PyProof.Rows L2 LamX NdefX
abbrev lamF (q : Str) (params : Arguments) (scope : Scope) (cl : List (Str × Addr)) (c : Addr) : NF := ⟨"<lambda>", q, params, [], scope, cl, c⟩
section
variable {P : Program} {w : World} {K : PySem.W.Frag} {mg : Str → Option Value} {base : Heap} {A : Around} {outer : List Env} {s : Shared} {H : Hp} {N fr : List Str} {x q : Str} {f c' : Addr} {params : Arguments} {body : Expr} {scope : Scope} {cl : List (Str × Addr)} {pm ctv : Value} {ws : List (Option V)} {v : V} {u : Value} {tb : TE} {Q : VK} {k : Nat}
/-- the lambda called with one argument -/
theorem lam_call1 (e0 : Env0 P w K mg base A outer s H) (hr : Room (k + 1) A) (hf : s.heap.get? f = some (PySem.W.kla_obj "<lambda>" q params body scope cl pm c' ctv)) (hc : H c' = some (CodeO c' q))
    (S : NScope N [x] fr scope) (C : CellsAt cl fr ws s.heap H) (hbind : bindArgs (PySem.W.kla_fn "<lambda>" q params body scope cl pm (.ref c') ctv) ⟨[u], []⟩ = pure [(x, u)]) (r : RelV v u)
    (hbody : Room k (A.deeper (envF (lamF q params scope cl c') f s.heap.objs.size)) → PE (ncx L2.CX0 P w K mg base N (lamF q params scope cl c') f A outer s H L2.E0) body tb) (ht : tb (startF N [v] ws) H Q) :
    codeAny (model P w) A (.call (.ref f) ⟨[u], []⟩) (CR L2.CX0 outer P w H s Q L2.E0) s := by
  have lim : s.heap.NoLimit := e0.mod.nolimit.keeps fun b o e => (e0.bs b o e).1
  refine PySem.W.kla_callFunE hr.depth hf rfl S.co S.gen rfl (codeO_at e0.hok hc) ?_
  rw [hbind]
  refine wpAny_pure (wpAny_newFunctionEnv S.nocell (fun ⟨n, z⟩ hy => S.par n (by
    have e := List.mem_singleton.mp hy
    cases e
    exact List.mem_singleton.mpr rfl)) (fun h₁ hns hsb => ⟨lim.fresh _ hsb, ?_⟩) S.kind)
  show codeAny _ _ (.expr body (envF (lamF q params scope cl c') f s.heap.objs.size)) _ _
  have kp : ∀ b o, s.heap.get? b = some o → h₁.get? b = some o := fun b o e => hsb.extBut b o (Nat.ne_of_lt (Heap.lt_size e)) (Heap.get?_push_of_some _ e)
  have I : Inv (ncx L2.CX0 P w K mg base N (lamF q params scope cl c') f A outer s H L2.E0) [] (startF N [v] ws) H { s with heap := h₁, toks := s.toks + ([(x, u)] : List (Str × Value)).length } := inv_startN (us := [u]) S hr.hd e0 rfl (.cons r .nil) C hns kp
  refine PySem.W.kla_codeExpr (wpAny_mono ((hbody (hr.deeper _)).run [] _ _ H Q I ht) (fun v s' hq => ?_) fun e s' hq => hq)
  obtain ⟨w', H', J', rv, q⟩ := hq
  exact ⟨w', H', J'.os, J'.bare, J'.base, J'.hok, rv, q⟩
end
section
variable {X : Cx} {pins p1 p2 : List (Addr × Obj)} {σ : L2.St} {H : Hp} {s : Shared}
/-- a pinned record of ours has turned -/
theorem repin {b : Addr} {o o' : Obj} {h' : Heap} {tk : Nat} (I : Inv X (p1 ++ (b, o) :: p2) σ H s) (hb : ∀ p ∈ X.pn ++ (p1 ++ p2), p.1 ≠ b) (lo : X.s_0.heap.objs.size ≤ b) (ce : ∀ x c, X.env.cells.lookup x = some c → c ≠ b)
    (k : ∀ c u, c ≠ b → s.heap.get? c = some u → h'.get? c = some u) (e : h'.get? b = some o') (nd : ∀ v, o'.data ≠ .cell v) : Inv X (p1 ++ (b, o') :: p2) σ H { s with heap := h', toks := tk } := by
  obtain ⟨_, n, ne, nf, _⟩ := I.pin (b, o) (List.mem_append_right _ (List.mem_append_right _ List.mem_cons_self))
  have I0 : Inv X (p1 ++ p2) σ H s := I.pins_of fun p hp => I.pin p (List.mem_append_right _ ((List.mem_append.mp hp).elim (fun z => List.mem_append_left _ z) fun z => List.mem_append_right _ (List.mem_cons_of_mem _ z)))
  have I1 : Inv X (p1 ++ p2) σ H { s with heap := h', toks := tk } := I0.turned (it := b) (fun c u hc q => k c u hc q) n ne (.inr lo) ce hb
  refine I1.pins_of fun p hp => ?_
  rcases List.mem_append.mp hp with z | z
  · exact I1.pin p (List.mem_append_right _ (List.mem_append_left _ z))
  · rcases List.mem_cons.mp z with rfl | z
    · exact ⟨e, n, ne, nf, nd⟩
    · exact I1.pin p (List.mem_append_right _ (List.mem_append_right _ z))
/-- whose key is least, the first of them -/
def Least (kf : Nat → Int) (n i : Nat) : Prop := ∀ j, j < n → kf i ≤ kf j ∧ (j < i → kf i < kf j)
theorem min_loopH {a it S f : Addr} {fo : Obj} {xs : List V} {kf : Nat → Int} {W : Nat → Hp → Prop} {Q : VK} {R : Result → Shared → Prop} (hh : X.A.handled = none)
    (lo1 : X.s_0.heap.objs.size ≤ it) (ce1 : ∀ x c, X.env.cells.lookup x = some c → c ≠ it) (pn1 : ∀ p ∈ X.pn ++ (f, fo) :: pins, p.1 ≠ it)
    (lo2 : X.s_0.heap.objs.size ≤ S) (ce2 : ∀ x c, X.env.cells.lookup x = some c → c ≠ S) (pn2 : ∀ p ∈ X.pn ++ (f, fo) :: pins, p.1 ≠ S) (hSI : S ≠ it) (hai : a ≠ it)
    (hsq : ∀ i H, W i H → SqL X.K H a xs)
    (call_ : ∀ (i : Nat) (v : V) (u : Value) (H : Hp) (s : Shared) (oS oI : Obj), Inv X ((S, oS) :: (it, oI) :: (f, fo) :: pins) σ H s → W i H → xs[i]? = some v → RelV v u →
      wpAny (model X.prog X.w) X.A.in1 (call (.ref f) [u]) (EP X ((S, oS) :: (it, oI) :: (f, fo) :: pins) σ fun y H' => y = .int (kf i) ∧ W (i + 1) H') (fun _ _ => False) s)
    (fin : ∀ i v H, W xs.length H → xs[i]? = some v → Least kf xs.length i → Q v H) (hR : ∀ u s', EP X pins σ Q u s' → R (.ok (.ret u)) s') :
    ∀ (r j i : Nat) (H : Hp) (s : Shared) (vb : V) (ub : Value) (tb : Tok) (c : Nat) (oI : Obj), xs.length - (j + 1) = r → j + 1 ≤ xs.length → Inv X ((S, seqObj "list" #[ub, .int (kf i) tb] c) :: (it, oI) :: (f, fo) :: pins) σ H s → W (j + 1) H →
      s.heap.IsListIter it a (j + 1) → xs[i]? = some vb → RelV vb ub → i ≤ j → (∀ j', j' ≤ j → kf i ≤ kf j' ∧ (j' < i → kf i < kf j')) →
      codeAny (model X.prog X.w) X.A (.builtin "min.loop" ⟨[.ref it, .ref f, .ref S], []⟩) R s := by
  have hname : (toString "min" ++ toString ".loop" : String) = "min.loop" := by decide
  have pnS : ∀ (oI : Obj), ∀ p ∈ X.pn ++ ([] ++ (it, oI) :: (f, fo) :: pins), p.1 ≠ S := fun oI p hp => by
    rcases List.mem_append.mp hp with z | z
    · exact pn2 p (List.mem_append_left _ z)
    · rcases List.mem_cons.mp z with rfl | z
      · exact hSI.symm
      · exact pn2 p (List.mem_append_right _ z)
  have pnI : ∀ (oS : Obj), ∀ p ∈ X.pn ++ ([(S, oS)] ++ (f, fo) :: pins), p.1 ≠ it := fun oS p hp => by
    rcases List.mem_append.mp hp with z | z
    · exact pn1 p (List.mem_append_left _ z)
    · rcases List.mem_cons.mp z with rfl | z
      · exact hSI
      · exact pn1 p (List.mem_append_right _ z)
  intro r
  induction r with
  | zero =>
    intro j i H s vb ub tb c oI hr hj I hW hit hvb rvb hij hbest
    have hin : j + 1 = xs.length := by omega
    obtain ⟨its, rv, pl, hz⟩ := I.list (hsq _ _ hW)
    have hsz : its.toArray.size = xs.length := by rw [List.size_toArray, rv.length]
    have nS := (I.pin (S, seqObj "list" #[ub, .int (kf i) tb] c) (List.mem_append_right _ List.mem_cons_self)).1
    have W1 := Walks.list (prog := X.prog) (w := X.w) (A := X.A.in1) hh it a hai its.toArray
    refine codeAny_builtin PySem.F.entry_min_loop ?_
    rw [Around.under_plainId PySem.F.plain_min_loop _]
    show wpAny _ X.A.in1 (seqItems? (.ref S) >>= _) _ _ _
    refine wpAny_bind (wpAny_seqItems nS rfl ?_)
    show wpAny _ X.A.in1 (tryCatch (pyNext (.ref it)) _ >>= _) _ _ _
    refine wpAny_bind (wpAny_tryCatch (W1.done _ _ _ ⟨by rw [hsz, ← hin]; exact hit, pl.isList⟩ fun h' tk' hk' => ?_))
    have hk2 : ∀ b o, b ≠ it → s.heap.get? b = some o → h'.get? b = some o := fun b o hb e => hk' b o (by simpa using hb) e
    have hS' := hk2 S _ hSI nS
    have I0 : Inv X pins σ H s := I.pins_of fun p hp => I.pin p (List.mem_append_right _ (List.mem_cons_of_mem _ (List.mem_cons_of_mem _ (List.mem_cons_of_mem _ hp))))
    obtain ⟨_, nI1, nI2, nI3, _⟩ := I.pin (it, oI) (List.mem_append_right _ (List.mem_cons_of_mem _ List.mem_cons_self))
    obtain ⟨_, nS1, nS2, nS3, _⟩ := I.pin (S, seqObj "list" #[ub, .int (kf i) tb] c) (List.mem_append_right _ List.mem_cons_self)
    have I1 : Inv X pins σ H { s with heap := h', toks := tk' } := I0.turned (it := it) hk2 nI1 nI2 (.inr lo1) ce1 fun p hp => pn1 p ((List.mem_append.mp hp).elim (fun z => List.mem_append_left _ z) fun z => List.mem_append_right _ (List.mem_cons_of_mem _ z))
    have sb := Heap.SameBut.update h' S (Obj.mapSeq fun _ => (#[] : Array Value))
    show wpAny _ X.A.in1 (updateSeq S (fun _ => #[]) >>= _) _ _ _
    refine wpAny_bind ?_
    refine wpAny_updateSeq hS' rfl (wpAny_bind (wpAny_letGo (wpAny_pure ?_)))
    have I2 := I1.turned (t' := tk') (it := S) (h' := h'.update S (Obj.mapSeq fun _ => (#[] : Array Value))) (fun b o hb e => (sb.2 b hb).trans e) nS1 nS2 (.inr lo2) ce2 fun p hp => pn2 p ((List.mem_append.mp hp).elim (fun z => List.mem_append_left _ z) fun z => List.mem_append_right _ (List.mem_cons_of_mem _ z))
    exact hR ub _ ⟨vb, H, I2, rvb, fin i vb H (hin ▸ hW) hvb fun j' hj' => hbest j' (by omega)⟩
  | succ r ih =>
    intro j i H s vb ub tb c oI hr hj I hW hit hvb rvb hij hbest
    have hlt : j + 1 < xs.length := by omega
    obtain ⟨its, rv, pl, hz⟩ := I.list (hsq _ _ hW)
    have hsz : its.toArray.size = xs.length := by rw [List.size_toArray, rv.length]
    have nS := (I.pin (S, seqObj "list" #[ub, .int (kf i) tb] c) (List.mem_append_right _ List.mem_cons_self)).1
    have W1 := Walks.list (prog := X.prog) (w := X.w) (A := X.A.in1) hh it a hai its.toArray
    refine codeAny_builtin PySem.F.entry_min_loop ?_
    rw [Around.under_plainId PySem.F.plain_min_loop _]
    show wpAny _ X.A.in1 (seqItems? (.ref S) >>= _) _ _ _
    refine wpAny_bind (wpAny_seqItems nS rfl ?_)
    show wpAny _ X.A.in1 (tryCatch (pyNext (.ref it)) _ >>= _) _ _ _
    refine wpAny_bind (wpAny_tryCatch (W1.item (j + 1) _ _ _ (by rw [hsz]; exact hlt) ⟨hit, pl.isList⟩ fun v h' tk' hP hst' hk' => ?_))
    have hk2 : ∀ b o, b ≠ it → s.heap.get? b = some o → h'.get? b = some o := fun b o hb e => hk' b o (by simpa using hb) e
    have hv : its[j + 1]? = some v := by simpa using hP
    obtain ⟨oI', hoI', hoc, hod⟩ := id hst'.1
    have hxv : xs[j + 1]? = some xs[j + 1] := List.getElem?_eq_getElem hlt
    have rvv : RelV xs[j + 1] v := by
      obtain ⟨u, hu, ru⟩ := rv.get hxv
      rw [hv] at hu
      cases hu
      exact ru
    have I1 : Inv X ((S, seqObj "list" #[ub, .int (kf i) tb] c) :: (it, oI') :: (f, fo) :: pins) σ H { s with heap := h', toks := tk' } :=
      repin (p1 := [(S, seqObj "list" #[ub, .int (kf i) tb] c)]) (p2 := (f, fo) :: pins) I (pnI _) lo1 ce1 hk2 hoI' fun z => by rw [hod]; intro w; cases w
    show wpAny _ X.A.in1 (tryCatch (holding [v] (call (.ref f) [v])) _ >>= _) _ _ _
    refine wpAny_bind (wpAny_tryCatch (wpAny_holding (wpAny_mono (call_ (j + 1) _ v H _ _ oI' I1 hW hxv rvv) (fun y s'' he => ?_) fun _ _ hF => hF.elim)))
    obtain ⟨yv, H2, I2, ry, ey, hW2⟩ := he
    subst ey
    obtain ⟨t2, rfl⟩ := ry
    have nS2 := (I2.pin (S, seqObj "list" #[ub, .int (kf i) tb] c) (List.mem_append_right _ List.mem_cons_self)).1
    have nI2 := (I2.pin (it, oI') (List.mem_append_right _ (List.mem_cons_of_mem _ List.mem_cons_self))).1
    have hit2 : s''.heap.IsListIter it a (j + 1 + 1) := ⟨oI', nI2, hoc, hod⟩
    show wpAny _ X.A.in1 (tryCatch (holding [v, .int (kf (j + 1)) t2] (richCompare .Lt (.int (kf (j + 1)) t2) (.int (kf i) tb) >>= _)) _ >>= _) _ _ _
    refine wpAny_bind (wpAny_tryCatch (wpAny_holding (wpAny_bind (CmpOf.ints_lt (prog := X.prog) (w := X.w) (A := X.A.in1) (P := fun i v => ∃ t, v = .int (kf i) t) kf (fun i v h => h) (j + 1) i _ _ _ _ _ ⟨t2, rfl⟩ ⟨tb, rfl⟩ ?_))))
    refine wpAny_bind (wpAny_holding (wpAny_truthy_bool ?_))
    refine wpAny_bind (wpAny_letGo (wpAny_pure ?_))
    by_cases hb' : kf (j + 1) < kf i
    · have s1 := Heap.SameBut.update s''.heap S (Obj.mapSeq fun _ => #[v, .int (kf (j + 1)) t2])
      obtain ⟨c2, hc2⟩ : ∃ c2, (s''.heap.update S (Obj.mapSeq fun _ => #[v, .int (kf (j + 1)) t2])).get? S = some (seqObj "list" #[v, .int (kf (j + 1)) t2] c2) := ⟨_, get?_update_seq nS2 fun _ => #[v, .int (kf (j + 1)) t2]⟩
      simp only [hb', decide_true, if_true]
      refine wpAny_bind ?_
      refine wpAny_updateSeq nS2 rfl (wpAny_bind (wpAny_letGo ?_))
      rw [hname]
      have I3 := repin (p1 := []) (p2 := (it, oI') :: (f, fo) :: pins) (tk := s''.toks) I2 (pnS _) lo2 ce2 (fun b o hb e => (s1.2 b hb).trans e) hc2 fun z w => by cases w
      refine wpAny_pure ⟨plainId_quiet PySem.F.plain_min_loop _, ih (j + 1) (j + 1) H2 _ _ v t2 c2 oI' (by omega) hlt I3 hW2 ⟨oI', (s1.2 it hSI.symm).trans nI2, hoc, hod⟩ hxv rvv (Nat.le_refl _) fun j' hj' => ?_⟩
      by_cases e : j' = j + 1
      · subst e
        exact ⟨by omega, fun _ => by omega⟩
      · have hb1 := hbest j' (by omega)
        have hb2 := hb1.1
        exact ⟨by omega, fun _ => by omega⟩
    · simp only [hb', decide_false, Bool.false_eq_true, if_false]
      refine wpAny_bind (wpAny_letGo ?_)
      rw [hname]
      refine wpAny_pure ⟨plainId_quiet PySem.F.plain_min_loop _, ih (j + 1) i H2 _ vb ub tb c oI' (by omega) hlt I2 hW2 hit2 hvb rvb (by omega) fun j' hj' => ?_⟩
      by_cases e : j' = j + 1
      · subst e
        exact ⟨by omega, fun _ => by omega⟩
      · exact hbest j' (by omega)
end
end Jp
/-! All orders in their order; all first sides in theirs; the least of them. -/
namespace Jp
open MdBase (before)
open Md49 (earlier orderCost bestOrder places choose partings Plan leaves planCost bestPlan)
/-! ### orders -/
def lenM (n : Nat) (os : List (List Nat)) : List (List Nat) := os.flatMap fun o => ((List.range n).filter fun a => !o.contains a).map fun a => o ++ [a]
def ordersK (n : Nat) : Nat → List (List Nat)
  | 0 => [[]]
  | k + 1 => lenM n (ordersK n k)
theorem mem_ordersK {n : Nat} : ∀ {k : Nat} {q : List Nat}, q ∈ ordersK n k ↔ q.length = k ∧ q.Nodup ∧ ∀ a ∈ q, a < n
  | 0, q => by
    rw [ordersK, List.mem_singleton]
    constructor
    · rintro rfl
      exact ⟨rfl, List.nodup_nil, fun a h => by cases h⟩
    · rintro ⟨h, _⟩
      exact List.eq_nil_of_length_eq_zero h
  | k + 1, q => by
    rw [ordersK, lenM, List.mem_flatMap]
    constructor
    · rintro ⟨o, ho, hq⟩
      obtain ⟨a, ha, rfl⟩ := List.mem_map.mp hq
      obtain ⟨h1, h2, h3⟩ := mem_ordersK.mp ho
      obtain ⟨h4, h5⟩ := List.mem_filter.mp ha
      have hna : a ∉ o := fun z => by
        rw [List.contains_iff_mem.mpr z] at h5
        cases h5
      refine ⟨by rw [List.length_append, h1]; rfl, ?_, fun b hb => ?_⟩
      · rw [List.nodup_append]
        refine ⟨h2, List.nodup_cons.mpr ⟨List.not_mem_nil, List.nodup_nil⟩, fun x hx y hy e => ?_⟩
        rw [List.mem_singleton.mp hy] at e
        exact hna (e ▸ hx)
      · rcases List.mem_append.mp hb with hb | hb
        · exact h3 b hb
        · rw [List.mem_singleton.mp hb]
          exact List.mem_range.mp h4
    · rintro ⟨h1, h2, h3⟩
      have hne : q ≠ [] := fun z => by rw [z] at h1; cases h1
      obtain ⟨o, a, rfl⟩ : ∃ o a, q = o ++ [a] := ⟨_, _, (List.dropLast_concat_getLast hne).symm⟩
      rw [List.length_append] at h1
      have h1 : o.length = k := by simpa using h1
      rw [List.nodup_append] at h2
      refine ⟨o, mem_ordersK.mpr ⟨h1, h2.1, fun b hb => h3 b (List.mem_append_left _ hb)⟩, List.mem_map.mpr ⟨a, List.mem_filter.mpr ⟨List.mem_range.mpr (h3 a (List.mem_append_right _ List.mem_cons_self)), ?_⟩, rfl⟩⟩
      rw [Bool.not_eq_true', Bool.eq_false_iff]
      intro z
      exact h2.2.2 a (List.contains_iff_mem.mp z) a List.mem_cons_self rfl
theorem before_app : ∀ {x y : List Int} (u v : List Int), x.length = y.length → before x y = true → before (x ++ u) (y ++ v) = true
  | [], [], _, _, _, h => by cases h
  | [], _ :: _, _, _, h, _ => by cases h
  | _ :: _, [], _, _, h, _ => by cases h
  | a :: x, b :: y, u, v, hl, h => by
    rw [JpSort.before_cons] at h
    rw [List.cons_append, List.cons_append, JpSort.before_cons]
    exact h.imp id fun ⟨e, h⟩ => ⟨e, before_app u v (Nat.succ.inj hl) h⟩
theorem before_pre : ∀ (x : List Int) (u v : List Int), before (x ++ u) (x ++ v) = before u v
  | [], _, _ => rfl
  | a :: x, u, v => by
    rw [List.cons_append, List.cons_append]
    simp only [before, Int.lt_irrefl, if_false]
    exact before_pre x u v
theorem ordersK_pw {n : Nat} : ∀ k : Nat, (ordersK n k).Pairwise fun a b => earlier a b = true
  | 0 => by simp [ordersK]
  | k + 1 => by
    rw [ordersK, lenM, List.pairwise_flatMap]
    refine ⟨fun o _ => ?_, List.Pairwise.imp_of_mem ?_ (ordersK_pw k)⟩
    · rw [List.pairwise_map]
      refine List.Pairwise.imp ?_ ((List.pairwise_lt_range).filter _)
      intro a b hab
      unfold earlier
      rw [List.map_append, List.map_append, before_pre]
      simp only [List.map_cons, List.map_nil]
      rw [JpSort.before_cons]
      exact Or.inl (by omega)
    · intro o o' ho ho' h x hx y hy
      obtain ⟨a, _, rfl⟩ := List.mem_map.mp hx
      obtain ⟨b, _, rfl⟩ := List.mem_map.mp hy
      unfold earlier at h ⊢
      rw [List.map_append, List.map_append]
      exact before_app _ _ (by rw [List.length_map, List.length_map, (mem_ordersK.mp ho).1, (mem_ordersK.mp ho').1]) h
theorem nodup_le : ∀ {n : Nat} {l : List Nat}, l.Nodup → (∀ a ∈ l, a < n) → l.length ≤ n
  | 0, l, _, h => by
    match l, h with
    | [], _ => exact Nat.le_refl _
    | a :: _, h => exact absurd (h a List.mem_cons_self) (Nat.not_lt_zero _)
  | n + 1, l, hn, h => by
    have h1 : (l.erase n).length ≤ n := nodup_le (hn.erase n) fun a ha => by
      have h2 := h a (List.mem_of_mem_erase ha)
      have h3 : a ≠ n := fun z => by
        rw [z, hn.mem_erase_iff] at ha
        exact ha.1 rfl
      omega
    have h4 := List.length_erase (a := n) (l := l)
    split at h4 <;> omega
theorem full_perm {n : Nat} {q : List Nat} (h1 : q.length = n) (h2 : q.Nodup) (h3 : ∀ a ∈ q, a < n) : q.Perm (List.range n) := by
  refine (List.perm_ext_iff_of_nodup h2 List.nodup_range).mpr fun x => ⟨fun h => List.mem_range.mpr (h3 x h), fun h => ?_⟩
  by_cases hx : x ∈ q
  · exact hx
  · have := nodup_le (n := n) (l := x :: q) (List.nodup_cons.mpr ⟨hx, h2⟩) fun a ha => by
      rcases List.mem_cons.mp ha with rfl | ha
      · exact List.mem_range.mp h
      · exact h3 a ha
    rw [List.length_cons] at this
    omega
theorem mem_all {n : Nat} {q : List Nat} : q ∈ ordersK n n ↔ q.Perm (List.range n) := by
  rw [mem_ordersK]
  constructor
  · rintro ⟨h1, h2, h3⟩
    exact full_perm h1 h2 h3
  · intro h
    exact ⟨by rw [h.length_eq, List.length_range], h.nodup_iff.mpr List.nodup_range, fun a ha => List.mem_range.mp (h.mem_iff.mp ha)⟩
theorem pw_get {α : Type} {R : α → α → Prop} {l : List α} (h : l.Pairwise R) {i j : Nat} {a b : α} (hi : l[i]? = some a) (hj : l[j]? = some b) (hij : i < j) : R a b := by
  obtain ⟨h1, rfl⟩ := List.getElem?_eq_some_iff.mp hi
  obtain ⟨h2, rfl⟩ := List.getElem?_eq_some_iff.mp hj
  exact List.pairwise_iff_getElem.mp h i j h1 h2 hij
/-- the first of the cheapest is the cheapest order -/
theorem best_first {s : Md49.St} {i : Nat} {p : List Nat} {kf : Nat → Int} (hk : ∀ j q, (ordersK s.asked.length s.asked.length)[j]? = some q → kf j = (orderCost s q : Int)) (hi : (ordersK s.asked.length s.asked.length)[i]? = some p)
    (hl : Least kf (ordersK s.asked.length s.asked.length).length i) : bestOrder s = p := by
  have hp : p.Perm (places s) := mem_all.mp (List.mem_of_getElem? hi)
  refine bestOrder_is hp fun q hq hlt => ?_
  obtain ⟨j, hj⟩ := List.mem_iff_getElem?.mp (mem_all.mpr hq)
  have hjl := (List.getElem?_eq_some_iff.mp hj).1
  obtain ⟨l1, l2⟩ := hl j hjl
  rw [hk i p hi, hk j q hj] at l1 l2
  rcases hlt with h | ⟨h, h'⟩
  · have h : orderCost s q < orderCost s p := h
    omega
  · have h : orderCost s q = orderCost s p := h
    have h' : earlier q p = true := h'
    have hji : ¬ j < i := fun z => by
      have := l2 z
      omega
    rcases Nat.lt_or_ge i j with z | z
    · have h2 := pw_get (ordersK_pw s.asked.length) hi hj z
      rw [earlier_asymm h2] at h'
      cases h'
    · have : i = j := by omega
      subst this
      rw [hi] at hj
      cases hj
      have e : earlier p p = false := JpSort.before_irrefl _
      rw [e] at h'
      cases h'
/-! ### first sides -/
def lastOf (s : List Nat) : Nat := s.getLastD 0
def widenM (some : List Nat) (sides : List (List Nat)) : List (List Nat) := sides.flatMap fun s => (some.filter fun a => decide (lastOf s < a)).map fun a => s ++ [a]
def sidesK (some : List Nat) : Nat → List (List Nat)
  | 0 => [some.take 1]
  | k + 1 => widenM some (sidesK some k)
def extM (x : Nat) (r a : List Nat) : List (List Nat) := (r.filter fun b => decide (lastOf (x :: a) < b)).map fun b => a ++ [b]
theorem last_cons {x : Nat} {a : List Nat} (h : a ≠ []) : lastOf (x :: a) = lastOf a := by
  unfold lastOf
  rw [List.getLastD_eq_getLast?, List.getLastD_eq_getLast?, List.getLast?_cons]
  cases e : a.getLast? with
  | none => exact absurd (List.getLast?_eq_none_iff.mp e) h
  | some y => rfl
theorem last_mem {a : List Nat} (h : a ≠ []) : lastOf a ∈ a := by
  unfold lastOf
  rw [List.getLastD_eq_getLast?, List.getLast?_eq_some_getLast h]
  exact List.getLast_mem h
theorem choose_one : ∀ r : List Nat, choose 1 r = r.map fun b => [b]
  | [] => rfl
  | y :: r => by
    rw [choose, choose_one r]
    cases r <;> rfl
theorem fm_congr {α β : Type} {l : List α} {f g : α → List β} (h : ∀ a ∈ l, f a = g a) : l.flatMap f = l.flatMap g := by
  induction l with
  | nil => rfl
  | cons a l ih => rw [List.flatMap_cons, List.flatMap_cons, h a List.mem_cons_self, ih fun b hb => h b (List.mem_cons_of_mem _ hb)]
theorem choose_ext : ∀ (k : Nat) (r : List Nat) (x : Nat), r.Pairwise (· < ·) → (∀ b ∈ r, x < b) → choose (k + 1) r = (choose k r).flatMap (extM x r)
  | 0, r, x, _, hx => by
    have e0 : choose 0 r = [[]] := by cases r <;> rfl
    rw [choose_one, e0, List.flatMap_cons, List.flatMap_nil, List.append_nil]
    unfold extM
    have ef : (r.filter fun b => decide (lastOf [x] < b)) = r := List.filter_eq_self.mpr fun b hb => decide_eq_true (hx b hb)
    rw [ef]
    rfl
  | k + 1, [], x, _, _ => rfl
  | k + 1, y :: r, x, hp, hx => by
    have hp' := List.pairwise_cons.mp hp
    have ih1 := choose_ext k r y hp'.2 hp'.1
    have ih2 := choose_ext (k + 1) r x hp'.2 fun b hb => hx b (List.mem_cons_of_mem _ hb)
    rw [choose, ih2]
    show _ = (choose (k + 1) (y :: r)).flatMap _
    rw [choose, List.flatMap_append]
    congr 1
    · rw [ih1, List.flatMap_map, List.map_flatMap]
      refine fm_congr fun a ha => ?_
      unfold extM
      have hl : lastOf (x :: y :: a) = lastOf (y :: a) := last_cons (by intro z; cases z)
      rw [hl]
      have hlt : ¬ lastOf (y :: a) < y := by
        by_cases h0 : a = []
        · rw [h0]
          exact Nat.lt_irrefl _
        · rw [last_cons h0]
          have := hp'.1 _ ((choose_sub ha).1.subset (last_mem h0))
          omega
      rw [List.filter_cons_of_neg (by rw [decide_eq_true_eq]; exact hlt), List.map_map]
      rfl
    · refine fm_congr fun a ha => ?_
      obtain ⟨h1, h2⟩ := choose_sub ha
      have h0 : a ≠ [] := fun z => by rw [z] at h2; cases h2
      unfold extM
      rw [last_cons h0]
      have := hp'.1 _ (h1.subset (last_mem h0))
      rw [List.filter_cons_of_neg (by rw [decide_eq_true_eq]; omega)]
theorem sidesK_eq {x : Nat} {r : List Nat} (hp : r.Pairwise (· < ·)) (hx : ∀ b ∈ r, x < b) : ∀ k : Nat, sidesK (x :: r) k = (choose k r).map fun a => x :: a
  | 0 => by
    have e0 : choose 0 r = [[]] := by cases r <;> rfl
    rw [e0]
    rfl
  | k + 1 => by
    rw [sidesK, sidesK_eq hp hx k, choose_ext k r x hp hx]
    unfold widenM
    rw [List.flatMap_map, List.map_flatMap]
    refine fm_congr fun a ha => ?_
    have hlt : ¬ lastOf (x :: a) < x := by
      by_cases h0 : a = []
      · rw [h0]
        exact Nat.lt_irrefl _
      · rw [last_cons h0]
        have := hx _ ((choose_sub ha).1.subset (last_mem h0))
        omega
    unfold extM
    rw [List.filter_cons_of_neg (by rw [decide_eq_true_eq]; exact hlt), List.map_map]
    rfl
def firstSidesM (some : List Nat) : List (List Nat) := (List.range (some.length - 1)).flatMap (sidesK some)
theorem partings_eq {some : List Nat} (hp : some.Pairwise (· < ·)) : partings some = (firstSidesM some).map fun side => (side, some.filter fun i => !side.contains i) := by
  cases some with
  | nil => rfl
  | cons x r =>
    have hp' := List.pairwise_cons.mp hp
    unfold firstSidesM
    rw [partings, List.map_flatMap, List.flatMap_def]
    congr 1
    show _ = (List.range r.length).map _
    refine List.map_congr_left fun k _ => ?_
    rw [sidesK_eq hp'.2 hp'.1, List.map_map]
    refine List.map_congr_left fun a ha => ?_
    simp only [Function.comp]
    congr 1
    rw [List.filter_cons_of_neg (by simp)]
    refine List.filter_congr fun b hb => ?_
    have : b ≠ x := fun z => by
      have := hp'.1 b hb
      omega
    simp [this]
theorem choose_some : ∀ {k : Nat} {r : List Nat}, k ≤ r.length → choose k r ≠ []
  | 0, r, _ => by cases r <;> simp [choose]
  | k + 1, [], h => by cases h
  | k + 1, y :: r, h => by
    rw [choose]
    have := choose_some (k := k) (r := r) (Nat.le_of_succ_le_succ h)
    intro z
    rw [List.append_eq_nil_iff] at z
    exact this (List.map_eq_nil_iff.mp z.1)
theorem sidesK_some {some : List Nat} (hp : some.Pairwise (· < ·)) {k : Nat} (h : k < some.length) : sidesK some k ≠ [] := by
  cases some with
  | nil => cases h
  | cons x r =>
    have hp' := List.pairwise_cons.mp hp
    rw [sidesK_eq hp'.2 hp'.1]
    intro z
    exact choose_some (Nat.le_of_lt_succ h) (List.map_eq_nil_iff.mp z)
theorem mem_sidesK {some : List Nat} (hp : some.Pairwise (· < ·)) (hne : some ≠ []) {k : Nat} {side : List Nat} (h : side ∈ sidesK some k) : side.length = k + 1 ∧ side.Sublist some := by
  cases some with
  | nil => exact absurd rfl hne
  | cons x r =>
    have hp' := List.pairwise_cons.mp hp
    rw [sidesK_eq hp'.2 hp'.1] at h
    obtain ⟨a, ha, rfl⟩ := List.mem_map.mp h
    obtain ⟨h1, h2⟩ := choose_sub ha
    exact ⟨by rw [List.length_cons, h2], h1.cons_cons x⟩
/-! ### the first of the cheapest plans -/
theorem pickP_keep : ∀ (l : List (Nat × Plan)) (c : Nat × Plan), (∀ d ∈ l, c.1 ≤ d.1) → l.foldl pickP (some c) = some c
  | [], c, _ => rfl
  | d :: l, c, h => by
    have e : pickP (some c) d = some c := if_neg (by have := h d List.mem_cons_self; omega)
    rw [List.foldl_cons, e]
    exact pickP_keep l c fun x hx => h x (List.mem_cons_of_mem _ hx)
theorem pickP_first : ∀ (l : List (Nat × Plan)) (b : Option (Nat × Plan)) (i : Nat) (c : Nat × Plan), l[i]? = some c → (∀ d, b = some d → c.1 < d.1) → (∀ j d, l[j]? = some d → c.1 ≤ d.1 ∧ (j < i → c.1 < d.1)) → l.foldl pickP b = some c
  | [], _, _, _, h, _, _ => by simp at h
  | x :: l, b, 0, c, h, hb, hl => by
    have e : x = c := by simpa using h
    subst e
    have e2 : pickP b x = some x := by
      unfold pickP
      cases b with
      | none => rfl
      | some d => exact if_pos (hb d rfl)
    rw [List.foldl_cons, e2]
    exact pickP_keep l x fun d hd => by
      obtain ⟨j, hj⟩ := List.mem_iff_getElem?.mp hd
      exact (hl (j + 1) d hj).1
  | x :: l, b, i + 1, c, h, hb, hl => by
    rw [List.foldl_cons]
    refine pickP_first l (pickP b x) i c h (fun d hd => ?_) fun j d hj => ⟨(hl (j + 1) d hj).1, fun z => (hl (j + 1) d hj).2 (Nat.succ_lt_succ z)⟩
    have hx := (hl 0 x rfl).2 (Nat.succ_pos i)
    unfold pickP at hd
    cases b with
    | none => cases hd; exact hx
    | some y =>
      have hy := hb y rfl
      simp only at hd
      split at hd
      · cases hd; exact hx
      · cases hd; exact hy
theorem plan_first {s : Md49.St} {m : Nat} {l : List Nat} (h : ¬ l.length ≤ 1) {i : Nat} {p : List Nat × List Nat} {kf : Nat → Int} (hi : (partings l)[i]? = some p) (hk : ∀ j q, (partings l)[j]? = some q → kf j = (planCost s (.both (bestPlan s m q.1) (bestPlan s m q.2)) : Int))
    (hl : Least kf (partings l).length i) : bestPlan s (m + 1) l = .both (bestPlan s m p.1) (bestPlan s m p.2) := by
  rw [bestPlan_more s h]
  have e := pickP_first ((partings l).map fun p => (planCost s (.both (bestPlan s m p.1) (bestPlan s m p.2)), Plan.both (bestPlan s m p.1) (bestPlan s m p.2))) none i _ (by rw [List.getElem?_map, hi]; rfl) (fun d hd => by cases hd) fun j d hj => by
    rw [List.getElem?_map] at hj
    cases hq : (partings l)[j]? with
    | none => rw [hq] at hj; cases hj
    | some q =>
      rw [hq] at hj
      cases hj
      obtain ⟨l1, l2⟩ := hl j (List.getElem?_eq_some_iff.mp hq).1
      rw [hk i p hi, hk j q hq] at l1 l2
      exact ⟨by simp only; omega, fun z => by have := l2 z; simp only; omega⟩
  rw [e]
  rfl
end Jp
namespace Jp
open PySem PySem.Spec PyProof.Rows L2 LamX NdefX
/-- all but the tables stays, and nothing that was tracked is gone -/
structure Ext (H H' : Hp) : Prop where
  stay : ExtN H H'
  back : ∀ b, H' b = none → H b = none
theorem Ext.refl (H : Hp) : Ext H H := ⟨ExtN.refl H, fun _ e => e⟩
theorem Ext.trans {H H1 H2 : Hp} (a : Ext H H1) (b : Ext H1 H2) : Ext H H2 := ⟨a.stay.trans b.stay, fun c e => a.back c (b.back c e)⟩
theorem Ext.of {H H' : Hp} (s : Same H H') : Ext H H' := ⟨fun b o e _ => s b o e, fun b e => by
  cases q : H b with
  | none => rfl
  | some o => rw [s b o q] at e; cases e⟩
section
variable {X : Cx} {pins : List (Addr × Obj)} {σ : L2.St} {H : Hp} {s : Shared}
theorem upd_back {H : Hp} {a b : Addr} {o : HO} (e : upd H a o b = none) : H b = none := by
  by_cases h : b = a
  · rw [h, upd_same] at e
    cases e
  · rwa [upd_ne h] at e
/-- the lambda is made; nothing that was tracked is gone -/
theorem lam_mk {T : List (Addr × Str)} {c P : Addr} {params : Arguments} {body : Expr} {scope : Scope} {pos : Pos} {E : Value → Shared → Prop} {Q : Value → Shared → Prop} (I : Inv X pins σ H s) (TB : TabB X.base X.mg c P) (hcode : X.env.code = .ref c)
    (hm : (P, X.env.qual ++ "<lambda>") ∈ T) (hu : ∀ p ∈ T, p.1 = P → p.2 = X.env.qual ++ "<lambda>") (hT : Tabs T H) (hdef : defaultsOf params X.env = ([], [])) (hfree : ∀ y ∈ scope.names, y.2 = .free → ∃ c, X.env.cells.lookup y.1 = some c)
    (h : ∀ (f c' : Addr) (pm ctv : Value) (H1 : Hp) (s' : Shared), Inv X pins σ H1 s' → Ext H H1 → Tabs T H1 →
      s'.heap.get? f = some (PySem.W.kla_obj "<lambda>" (X.env.qual ++ "<lambda>") params body scope (cloFrom X.env.cells scope.names []) pm c' ctv) → H1 f = none → f ∉ frs X.stack → s.heap.objs.size ≤ f → H1 c' = some (CodeO c' (X.env.qual ++ "<lambda>")) → Q (.ref f) s') :
    wpAny (model X.prog X.w) X.A (eval (.Lambda params body scope pos) X.env) Q E s := by
  have tab := hT _ hm
  obtain ⟨ps, hP, ht, ha⟩ := tab
  have far : ∀ z, s.heap.objs.size ≤ z → z ∉ frs X.stack := fun z hz hin => by
    rcases List.mem_cons.mp (I.stkSub _ hin) with e | e
    · exact Nat.lt_irrefl _ (Nat.lt_of_lt_of_le (e ▸ I.lt) hz)
    · exact I.nofs hz e
  have atP : s.heap.get? P = some { cls := .none, data := .fields ps } := I.hok P _ hP
  have bP := TB.bm.keeps I.bk
  have cP := TB.code.keeps I.bk
  have gl := I.mod.glob.keeps I.bk
  refine PySem.W.kla_eval hdef ?_
  rcases Option.eq_none_or_eq_some (codeAmong pos ps.toList) with hc | ⟨cv, hc⟩
  · refine PySem.W.kla_makeFunction (c := c) (P := P) (ps := ps) (closure_ok hfree) I.ok.glob gl hcode cP atP ht hc TB.gP bP fun c' ctv g tk keep h1 h2 hrec hnew => ?_
    obtain ⟨_, oc, us, t, e0, e1, e2, e3⟩ := hrec
    cases e0
    have fresh : H c' = none := I.hok.fresh h1
    have neP : P ≠ c' := ne_of_none hP fresh
    have I1 := inv_table (t' := tk) (more := #[rawInt pos.line, rawInt pos.col, .ref c']) (q := X.env.qual ++ "<lambda>") (h' := g.push (PySem.W.kla_obj "<lambda>" (X.env.qual ++ "<lambda>") params body scope (cloFrom X.env.cells scope.names []) ((X.mg "__name__").getD .none) c' ctv)) I hP
      (fun b o hb e => Heap.get?_push_of_some _ (keep b o hb e)) (Heap.get?_push_of_some _ hnew) h1 ⟨oc, us, t, Heap.get?_push_of_some _ e1, e2, e3⟩
    have stay : ExtN H (upd (upd H P (.tbl (ps ++ #[rawInt pos.line, rawInt pos.col, .ref c']))) c' (CodeO c' (X.env.qual ++ "<lambda>"))) := fun b o e n => by
      have nbP : b ≠ P := fun z => by
        rw [z, hP] at e
        exact n ps (Option.some.inj e).symm
      rw [upd_ne (ne_of_none e fresh), upd_ne nbP]
      exact e
    have els : (ps ++ #[rawInt pos.line, rawInt pos.col, .ref c']).toList = ps.toList ++ [rawInt pos.line, rawInt pos.col, .ref c'] := by simp
    have grown : g.objs.size ≥ s.heap.objs.size := Nat.le_trans h1 (Nat.le_of_lt h2)
    refine h g.objs.size c' _ ctv _ _ I1 ⟨stay, fun b e => upd_back (upd_back e)⟩ (fun p hp => ?_) (Heap.get?_push_size _ rfl) ?_ (far _ grown) grown upd_same
    · by_cases hb : p.1 = P
      · rw [hu p hp hb, hb]
        refine ⟨_, (upd_ne neP).trans upd_same, by rw [els]; exact PySem.TriplesOk_snoc _ _ _ _ ht, fun p' cv hcv => ?_⟩
        rw [els] at hcv
        rcases among_app _ ht hcv with z | z
        · obtain ⟨c0, f1, f2⟩ := ha p' cv z
          exact ⟨c0, f1, stay _ _ f2 codeO_ne⟩
        · exact ⟨c', z, upd_same⟩
      · have old := hT p hp
        obtain ⟨qs, a1, a2, a3⟩ := old
        refine ⟨qs, ?_, a2, fun p' cv hcv => ?_⟩
        · rw [upd_ne (ne_of_none a1 fresh), upd_ne hb]
          exact a1
        · obtain ⟨c0, f1, f2⟩ := a3 p' cv hcv
          exact ⟨c0, f1, stay _ _ f2 codeO_ne⟩
    · have n1 : g.objs.size ≠ c' := Nat.ne_of_gt h2
      have n2 : g.objs.size ≠ P := Nat.ne_of_gt (Nat.lt_of_lt_of_le (Heap.lt_size atP) grown)
      rw [upd_ne n1, upd_ne n2]
      exact I.hok.fresh grown
  · obtain ⟨c', e, hco⟩ := ha pos cv hc
    subst e
    refine PySem.W.kla_makeFunctionHit (c := c) (P := P) (ps := ps) (closure_ok hfree) I.ok.glob gl hcode cP atP ht hc bP fun ctv g tk keep grown => ?_
    exact h g.objs.size c' _ ctv H _ (I.kept fun b o e => Heap.get?_push_of_some _ (keep b o e)) (Ext.refl H) hT (Heap.get?_push_size _ rfl) (I.hok.fresh grown) (far _ grown) grown hco
/-- the call min(l, key=f), the list and the function there -/
theorem min_callH {a f : Addr} {fo : Obj} {xs : List V} {kf : Nat → Int} {W : Nat → Hp → Prop} {Q : VK} {E : Value → Shared → Prop} (hh : X.A.handled = none) (I : Inv X pins σ H s) (ef : s.heap.get? f = some fo) (nf : H f = none) (nfl : f ≠ X.env.locals) (nff : f ∉ X.fs) (nfc : ∀ v, fo.data ≠ .cell v)
    (hne : 0 < xs.length) (hW : W 0 H) (hsq : ∀ i H, W i H → SqL X.K H a xs)
    (call_ : ∀ (i : Nat) (v : V) (u : Value) (H : Hp) (s : Shared) (pins' : List (Addr × Obj)), (f, fo) ∈ pins' → Inv X pins' σ H s → W i H → xs[i]? = some v → RelV v u →
      wpAny (model X.prog X.w) X.A.in1 (call (.ref f) [u]) (EP X pins' σ fun y H' => y = .int (kf i) ∧ W (i + 1) H') (fun _ _ => False) s)
    (fin : ∀ i v H, W xs.length H → xs[i]? = some v → Least kf xs.length i → Q v H) :
    wpAny (model X.prog X.w) X.A (call (.builtin "min") [.ref a] [(Str.ofString "key", .ref f)]) (EP X pins σ Q) E s := by
  have nm : (toString "min" ++ toString ".loop" : String) = "min.loop" := by decide
  obtain ⟨its, rv, pl, hz⟩ := I.list (hsq _ _ hW)
  have hls := pl.isList
  obtain ⟨ol, hol, _⟩ := id hls
  have hll : a < s.heap.objs.size := Heap.lt_size hol
  have hsz : its.toArray.size = xs.length := by rw [List.size_toArray, rv.length]
  refine kmk_tree PySem.F.kind_min PySem.F.plain_min PySem.F.entry_min (kmk_min_key _ _) ?_
  show wpAny _ X.A.in1 (Builtin.Builtins.bindParams "min" ["key", "default"] 0 ⟨[], [(Str.ofString "key", .ref f)]⟩ >>= _) _ _ s
  refine wpAny_bind (wpAny_of_eq (show Builtin.Builtins.bindParams "min" ["key", "default"] 0 ⟨[], [(Str.ofString "key", .ref f)]⟩ = pure [some (.ref f), none] from rfl) ?_)
  refine wpAny_bind (wpAny_pure (wpAny_bind (wpAny_pyIter_list hls (wpAny_bind (wpAny_newList ?_ (Nat.zero_le _))))))
  rw [nm]
  let oI : Obj := { cls := .type "list_iterator", data := .fields #[.ref a, .int 0 0] }
  let h1 : Heap := s.heap.push oI
  let h2 : Heap := h1.push (seqObj "list" #[] 0)
  have z1 : h1.objs.size = s.heap.objs.size + 1 := size_push' ..
  have gI : h2.get? s.heap.objs.size = some oI := Heap.get?_push_of_some _ (Heap.get?_push_size _ rfl)
  have gS : h2.get? h1.objs.size = some (seqObj "list" #[] 0) := Heap.get?_push_size _ rfl
  have old : ∀ b o, s.heap.get? b = some o → h2.get? b = some o := fun b o e => Heap.get?_push_of_some _ (Heap.get?_push_of_some _ e)
  have hai : a ≠ s.heap.objs.size := Nat.ne_of_lt hll
  have hSI : h1.objs.size ≠ s.heap.objs.size := by rw [z1]; exact Nat.succ_ne_self _
  have oI1 := I.fpOk (H' := H) (Nat.le_refl _) (I.hok.fresh (Nat.le_refl _))
  have leS : s.heap.objs.size ≤ h1.objs.size := by rw [z1]; exact Nat.le_succ _
  have oS1 := I.fpOk (H' := H) leS (I.hok.fresh leS)
  obtain ⟨iI, iL, iF, iO, iC, iP⟩ := oI1
  obtain ⟨tI, tL, tF, tO, tC, tP⟩ := oS1
  have fI : f ≠ s.heap.objs.size := Nat.ne_of_lt (Heap.lt_size ef)
  have fS : f ≠ h1.objs.size := by rw [z1]; exact Nat.ne_of_lt (Nat.lt_succ_of_lt (Heap.lt_size ef))
  have low : ∀ {b : Addr}, s.heap.objs.size ≤ b → X.s_0.heap.objs.size ≤ b := fun hb => Nat.le_trans I.sz hb
  have I2 : Inv X ((h1.objs.size, seqObj "list" #[] 0) :: (s.heap.objs.size, oI) :: (f, fo) :: pins) σ H { s with heap := h2 } := by
    have J : Inv X pins σ H { s with heap := h2 } := I.kept (t' := s.toks) old
    refine J.pins_of fun p hp => ?_
    rcases List.mem_cons.mp hp with rfl | hp
    · exact ⟨gS, tI, tL, tF, fun v w => by cases w⟩
    rcases List.mem_cons.mp hp with rfl | hp
    · exact ⟨gI, iI, iL, iF, fun v w => by cases w⟩
    rcases List.mem_cons.mp hp with rfl | hp
    · exact ⟨old _ _ ef, nf, nfl, nff, nfc⟩
    · exact J.pin p (List.mem_append_right _ hp)
  have pn : ∀ {b : Addr}, (∀ p ∈ X.pn ++ pins, p.1 ≠ b) → f ≠ b → ∀ p ∈ X.pn ++ (f, fo) :: pins, p.1 ≠ b := fun {b} h0 hf p hp => by
    rcases List.mem_append.mp hp with q | q
    · exact h0 p (List.mem_append_left _ q)
    · rcases List.mem_cons.mp q with rfl | q
      · exact hf
      · exact h0 p (List.mem_append_right _ q)
  have W1 := Walks.list (prog := X.prog) (w := X.w) (A := X.A.in1) hh s.heap.objs.size a hai its.toArray
  refine wpAny_pure ⟨plainId_quiet PySem.F.plain_min_loop _, ?_⟩
  refine codeAny_builtin PySem.F.entry_min_loop ?_
  rw [Around.under_plainId PySem.F.plain_min_loop _]
  show wpAny _ X.A.in1 (seqItems? (.ref h1.objs.size) >>= _) _ _ { s with heap := h2 }
  refine wpAny_bind (wpAny_seqItems gS rfl ?_)
  show wpAny _ X.A.in1 (tryCatch (pyNext (.ref s.heap.objs.size)) _ >>= _) _ _ { s with heap := h2 }
  refine wpAny_bind (wpAny_tryCatch (W1.item 0 _ _ _ (by rw [hsz]; exact hne) ⟨⟨_, gI, rfl, rfl⟩, (hls.push _).push _⟩ fun v g tk hP hst hk => ?_))
  have hk2 : ∀ b o, b ≠ s.heap.objs.size → h2.get? b = some o → g.get? b = some o := fun b o hb e => hk b o (by simpa using hb) e
  have hv : its[0]? = some v := by simpa using hP
  obtain ⟨oI2, hoI2, hoc, hod⟩ := id hst.1
  have hx0 : xs[0]? = some xs[0] := List.getElem?_eq_getElem hne
  have rv0 : RelV xs[0] v := by
    obtain ⟨u, hu, ru⟩ := rv.get hx0
    rw [hv] at hu
    cases hu
    exact ru
  have I3 : Inv X ((h1.objs.size, seqObj "list" #[] 0) :: (s.heap.objs.size, oI2) :: (f, fo) :: pins) σ H { s with heap := g, toks := tk } :=
    repin (s := { s with heap := h2 }) (o := oI) (p1 := [(h1.objs.size, seqObj "list" #[] 0)]) (p2 := (f, fo) :: pins) I2 (fun p hp => by
      rcases List.mem_append.mp hp with q | q
      · exact iP p (List.mem_append_left _ q)
      · rcases List.mem_cons.mp q with rfl | q
        · exact hSI
        · exact pn iP fI p (List.mem_append_right _ q)) (low (Nat.le_refl _)) iC hk2 hoI2 fun z => by rw [hod]; intro w; cases w
  show wpAny _ X.A.in1 (tryCatch (holding [v] (call (.ref f) [v])) _ >>= _) _ _ _
  refine wpAny_bind (wpAny_tryCatch (wpAny_holding (wpAny_mono (call_ 0 _ v H _ _ (List.mem_cons_of_mem _ (List.mem_cons_of_mem _ List.mem_cons_self)) I3 hW hx0 rv0) (fun y s3 he => ?_) fun _ _ hF => hF.elim)))
  obtain ⟨yv, H3, I4, ry, ey, hW3⟩ := he
  subst ey
  obtain ⟨t2, rfl⟩ := ry
  have nS2 := (I4.pin (h1.objs.size, seqObj "list" #[] 0) (List.mem_append_right _ List.mem_cons_self)).1
  have nI2 := (I4.pin (s.heap.objs.size, oI2) (List.mem_append_right _ (List.mem_cons_of_mem _ List.mem_cons_self))).1
  have sb := Heap.SameBut.update s3.heap h1.objs.size (Obj.mapSeq fun _ => #[v, .int (kf 0) t2])
  obtain ⟨c2, hc2⟩ : ∃ c2, (s3.heap.update h1.objs.size (Obj.mapSeq fun _ => #[v, .int (kf 0) t2])).get? h1.objs.size = some (seqObj "list" #[v, .int (kf 0) t2] c2) := ⟨_, get?_update_seq nS2 fun _ => #[v, .int (kf 0) t2]⟩
  show wpAny _ X.A.in1 (updateSeq h1.objs.size (fun _ => #[v, .int (kf 0) t2]) >>= _) _ _ _
  refine wpAny_bind (wpAny_updateSeq nS2 rfl ?_)
  rw [nm]
  have I5 := repin (p1 := []) (p2 := (s.heap.objs.size, oI2) :: (f, fo) :: pins) (tk := s3.toks) I4 (fun p hp => by
      rcases List.mem_append.mp hp with q | q
      · exact tP p (List.mem_append_left _ q)
      · rcases List.mem_cons.mp q with rfl | q
        · exact hSI.symm
        · exact pn tP fS p (List.mem_append_right _ q)) (low leS) tC (fun b o hb e => (sb.2 b hb).trans e) hc2 fun z w => by cases w
  refine wpAny_pure ⟨plainId_quiet PySem.F.plain_min_loop _, min_loopH hh (low (Nat.le_refl _)) iC (pn iP fI) (low leS) tC (pn tP fS) hSI hai hsq (fun i v u H s oS oI J hw hx r => call_ i v u H s _ (List.mem_cons_of_mem _ (List.mem_cons_of_mem _ List.mem_cons_self)) J hw hx r) fin (fun u s' h => h)
    _ 0 0 H3 _ _ v t2 c2 oI2 rfl hne I5 hW3 ⟨oI2, (sb.2 _ hSI.symm).trans nI2, hoc, hod⟩ hx0 rv0 (Nat.le_refl _) fun j hj => ?_⟩
  have e : j = 0 := by omega
  subst e
  exact ⟨Int.le_refl _, fun z => absurd z (Nat.lt_irrefl _)⟩
end
/-- min(e, key=lambda x: body): W i: before the i-th key is asked for; kf i: that key -/
def tMinKey (K : PySem.W.Frag) (T : List (Addr × Str)) (q : Str) (N : List Str) (js : List Nat) (te tb : TE) : TE := fun σ H Q => te σ H fun x H1 => ∃ (a : Addr) (xs : List V), x = .ref a ∧ 0 < xs.length ∧ Tabs T H1 ∧
  ∀ (H2 : Hp) (c' : Addr), Ext H1 H2 → Tabs T H2 → H2 c' = some (CodeO c' q) → ∃ (kf : Nat → Int) (W : Nat → Hp → Prop), W 0 H2 ∧ (∀ i H3, W i H3 → SqL K H3 a xs ∧ H3 c' = some (CodeO c' q)) ∧
    (∀ i H3 v, W i H3 → xs[i]? = some v → tb (startF N [v] (js.map (slotAt σ))) H3 fun y H4 => y = .int (kf i) ∧ W (i + 1) H4) ∧
    ∀ i H3 v, W xs.length H3 → xs[i]? = some v → Least kf xs.length i → Q v H3
section
variable {X : Cx} {T : List (Addr × Str)} {e : Expr} {te tb : TE} {params : Arguments} {body : Expr} {scope : Scope} {N fr : List Str} {js : List Nat} {x : Str} {c P : Addr} {k : Nat} {p pos kpos lpos : Pos}
theorem pe_minKey (hg : Gl X "min") (hm : X.mg "min" = none) (he : PE X e te) (hr : Room (k + 2) X.A) (TB : TabB X.base X.mg c P) (hcode : X.env.code = .ref c) (hmT : (P, X.env.qual ++ "<lambda>") ∈ T) (hu : ∀ p ∈ T, p.1 = P → p.2 = X.env.qual ++ "<lambda>")
    (hdef : defaultsOf params X.env = ([], [])) (S : NScope N [x] fr scope) (hsc : ndefB X.env.scope scope fr = true) (hjs : js.map (fun j => X.N[j]?) = fr.map some)
    (hbind : ∀ (q : Str) (cl : List (Str × Addr)) (pm cv ctv u : Value), bindArgs (PySem.W.kla_fn "<lambda>" q params body scope cl pm cv ctv) ⟨[u], []⟩ = pure [(x, u)])
    (hbody : ∀ (A : Around) (s : Shared) (H : Hp) (f c' : Addr), Room k (A.deeper (envF (lamF (X.env.qual ++ "<lambda>") params scope (cloFrom X.env.cells scope.names []) c') f s.heap.objs.size)) →
      PE (ncx L2.CX0 X.prog X.w X.K X.mg X.base N (lamF (X.env.qual ++ "<lambda>") params scope (cloFrom X.env.cells scope.names []) c') f A X.stack s H L2.E0) body tb)
    (hkw : (backToKw pos (keywordEach [⟨some (Str.ofString "key"), .Lambda params body scope lpos, kpos⟩] X.env)).filterMap (·.1) = [Str.ofString "key"] := by rfl)
    (hs : backTo pos (starEach [e] X.env) = [(false, eval e X.env)] := by rfl) :
    PE X (.Call (.Name "min" p) [e] [⟨some (Str.ofString "key"), .Lambda params body scope lpos, kpos⟩] pos) (tMinKey X.K T (X.env.qual ++ "<lambda>") N js te tb) := by
  refine ⟨fun pins s σ H Q I h => ?_⟩
  refine wpAny_Call_Name_kw (ld_blt I hg hm (show bootBuiltins "min" = some (.builtin "min") by decide +kernel) (callWith_kw ?_ hs (by rw [hs]; rfl)))
  rw [hs]
  refine Calls.spliced_cons (thn (he.run pins s σ H _ I h) fun u s1 ⟨y, H1, I1, r1, q1⟩ => Calls.spliced_nil ?_)
  obtain ⟨a, xs, rfl, hne, hT, q2⟩ := q1
  cases r1
  refine kws_cons (lam_mk I1 TB hcode hmT hu hT hdef (fun y hy e => (ndef_free hsc y hy e).elim (fun z => I1.ok.has _ (.inl z)) fun z => I1.ok.has _ (.inr z)) fun f c' pm ctv H2 s2 I2 ex T2 hf hfn hfr hfl hco => kws_nil ?_)
  rw [hkw]
  obtain ⟨kf, W, w0, wsq, wturn, wend⟩ := q2 H2 c' ex T2 hco
  have nfl : f ≠ X.env.locals := fun z => Nat.lt_irrefl _ (Nat.lt_of_lt_of_le I1.lt (z ▸ hfl))
  have nff : f ∉ X.fs := I1.nofs hfl
  show wpAny _ _ (call (.builtin "min") [.ref a] [(Str.ofString "key", .ref f)]) _ _ s2
  refine min_callH hr.hd I2 hf hfn nfl nff (fun v z => by cases z) hne w0 (fun i H h => (wsq i H h).1) (fun i v u H3 s3 pins' hpin J hw hx r => ?_) fun i v H3 => wend i H3 v
  have cells := cells_of J (Caps.made (scope := scope) (fr := fr) (js := js) J.ok (ndef_free hsc) (ndef_fr hsc) hjs)
  have hf3 := (J.pin _ (List.mem_append_right _ hpin)).1
  have hr1 : Room (k + 1) X.A.in1 := hr.in1
  have e0 := J.env0
  have e1 : Env0 X.prog X.w X.K X.mg X.base X.A.in1 X.stack s3 H3 := ⟨e0.frames, e0.mod, e0.bs, e0.bsz, e0.funs, e0.frf, e0.hok, e0.bare⟩
  refine wpAny_call (codeAny_mono (lam_call1 e1 hr1 hf3 (wsq i H3 hw).2 S cells (hbind _ _ _ _ _ _) r (fun hr2 => hbody _ _ _ f c' hr2) (wturn i H3 v hw hx)) fun rs s4 hq => ?_)
  cases rs with
  | error e => exact False.elim hq
  | ok fl =>
    cases fl with
    | ret u => exact J.after hq
    | next => exact False.elim hq
    | brk => exact False.elim hq
    | cont => exact False.elim hq
end
end Jp
namespace Jp
open PySem PySem.Spec PyProof.Rows L2
open MdBase (Term Atom varsOf)
/-! ### the parts of a question -/
def partAtM (M : Mir) (i : Nat) : PartM := (partsM M.tabs M.asked).getD i ⟨[], []⟩
theorem partAt_of (M : Mir) {i : Nat} (hi : i < M.asked.length) : partAtM M i = partM M.asked[i].args (M.tabs.getD M.asked[i].rel []) := by
  unfold partAtM partsM
  rw [List.getD_eq_getElem?_getD, List.getElem?_map, List.getElem?_eq_getElem hi]
  rfl
theorem partOf_all {M : Mir} (wf : Wf M) (i : Nat) : PartOf (partAtM M i) ((famOf M.tabs M.asked).getD i []) := by
  by_cases hi : i < M.asked.length
  · rw [partAt_of M hi, fam_get hi]
    refine ⟨rfl, fun q hq v => ?_, fun q hq => JpBind.bind_nodup (mem_fits.mp hq).2⟩
    obtain ⟨h1, h2⟩ := mem_fits.mp hq
    have hl : M.asked[i].args.length = q.1.length := (wf.fair.len _ (List.getElem_mem hi) q.1 (JpSort.mem_sorted.mp h1)).symm
    show (q.2.lookup v).isSome = true ↔ v ∈ vset _
    rw [JpBind.bind_var hl h2 v, List.contains_iff_mem, mem_vset]
  · have e1 : (famOf M.tabs M.asked).getD i [] = [] := JpLeft.getD_out (by unfold famOf; simpa using hi)
    rw [e1]
    have e2 : partAtM M i = ⟨[], []⟩ := by
      unfold partAtM partsM
      rw [List.getD_eq_getElem?_getD, List.getElem?_eq_none (by rw [List.length_map]; omega)]
      rfl
    rw [e2]
    exact ⟨rfl, (fun q hq => by cases hq), (fun q hq => by cases hq)⟩
theorem parts_fine {M : Mir} (wf : Wf M) {l : List Nat} (hl : l.length ≤ 5) (hi : ∀ i ∈ l, i < M.asked.length) : FineP (l.map (partAtM M)) := by
  refine ⟨by rw [List.length_map]; exact hl, ?_, ?_, ?_⟩
  all_goals
    intro p hp
    obtain ⟨i, him, rfl⟩ := List.mem_map.mp hp
    have hlt := hi i him
    rw [partAt_of M hlt]
    have hmem := List.getElem_mem hlt
  · show (vset _).length ≤ 4
    have h1 := vset_len M.asked[i].args []
    have h2 := wf.fair.args _ hmem
    unfold vset
    simp at h1
    omega
  · show ((fits _ _).map _).length ≤ 10
    rw [List.length_map]
    exact Nat.le_trans (fits_length (wf.fair.nd _ hmem)) (wf.fair.few _ hmem)
  · intro r hr
    obtain ⟨q, _, rfl⟩ := List.mem_map.mp hr
    exact List.length_map _
theorem parts_list {M : Mir} : partsM M.tabs M.asked = (List.range M.asked.length).map (partAtM M) := by
  refine List.ext_getElem (by unfold partsM; rw [List.length_map, List.length_map, List.length_range]) fun i h1 h2 => ?_
  rw [List.getElem_map, List.getElem_range]
  unfold partAtM
  rw [List.getD_eq_getElem?_getD, List.getElem?_eq_getElem h1]
  rfl
theorem count_size {M : Mir} (wf : Wf M) {l : List Nat} (hl : ∀ i ∈ l, i < M.asked.length) : ((groupM (l.map (partAtM M)) []).sizes.map (·.2)).sum = Md49.sizeOf_ M.toS l := by
  rw [group_count (fam := famOf M.tabs M.asked) (partOf_all wf), size_WF (S := M.toS) (tabs := M.tabs) rfl wf.fair hl]
  rfl
/-! ### what is known -/
def natsI (l : List Nat) : List Int := l.map fun n : Nat => (n : Int)
theorem natsI_V (l : List Nat) : (natsI l).map V.int = l.map nV := by
  unfold natsI
  rw [List.map_map]
  rfl
theorem natsI_inj : ∀ {a b : List Nat}, natsI a = natsI b → a = b
  | [], [], _ => rfl
  | [], _ :: _, h => by cases h
  | _ :: _, [], h => by cases h
  | x :: a, y :: b, h => by
    have h1 : (x : Int) = (y : Int) := (List.cons.inj h).1
    have h2 : x = y := by omega
    rw [h2, natsI_inj (List.cons.inj h).2]
def kEnt (e : List Nat × Nat) : List Key × V := (kI (natsI e.1), nV e.2)
def subs : List Nat → List (List Nat)
  | [] => [[]]
  | x :: l => subs l ++ (subs l).map (x :: ·)
theorem subs_len : ∀ l, (subs l).length = 2 ^ l.length
  | [] => rfl
  | x :: l => by
    rw [subs, List.length_append, List.length_map, subs_len l, List.length_cons, Nat.pow_succ]
    omega
theorem mem_subs {l a : List Nat} (h : a.Sublist l) : a ∈ subs l := by
  induction h with
  | slnil => exact List.mem_cons_self
  | cons x _ ih => exact List.mem_append_left _ ih
  | cons_cons x _ ih => exact List.mem_append_right _ (List.mem_map.mpr ⟨_, ih, rfl⟩)
theorem asc_sub : ∀ {n m : Nat} {l : List Nat}, l.Pairwise (· < ·) → (∀ a ∈ l, m ≤ a ∧ a < m + n) → l.Sublist (List.range' m n)
  | 0, m, l, _, h => by
    match l, h with
    | [], _ => exact List.nil_sublist _
    | a :: _, h =>
      have := h a List.mem_cons_self
      omega
  | n + 1, m, l, hp, h => by
    rw [List.range'_succ]
    match l, hp, h with
    | [], _, _ => exact List.nil_sublist _
    | a :: l, hp, h =>
      have hp' := List.pairwise_cons.mp hp
      by_cases ha : a = m
      · subst ha
        refine List.Sublist.cons_cons _ (asc_sub hp'.2 fun b hb => ?_)
        have h1 := hp'.1 b hb
        have h2 := h b (List.mem_cons_of_mem _ hb)
        omega
      · refine List.Sublist.cons _ (asc_sub hp fun b hb => ?_)
        have h2 := h b hb
        have h3 := h a List.mem_cons_self
        rcases List.mem_cons.mp hb with rfl | hb
        · omega
        · have := hp'.1 b hb
          omega
structure CountsAt (CW CP : Addr) (H : Hp) (a lp kn : Addr) (M : Mir) : Prop where
  ins : At2 CW "parts" "known" H a (.ref lp) (.ref kn)
  parts : PartsAt CP H lp (partsM M.tabs M.asked)
  known : ∃ kvs : List (List Nat × Nat), H kn = some (.dT (kvs.map kEnt)) ∧ (kvs.map (·.1)).Nodup ∧ ∀ e ∈ kvs, e.2 = Md49.sizeOf_ M.toS e.1 ∧ e.1.Pairwise (· < ·) ∧ ∀ i ∈ e.1, i < M.asked.length
  wf : Wf M
theorem known_len {M : Mir} (wf : Wf M) {kvs : List (List Nat × Nat)} (hn : (kvs.map (·.1)).Nodup) (hk : ∀ e ∈ kvs, e.2 = Md49.sizeOf_ M.toS e.1 ∧ e.1.Pairwise (· < ·) ∧ ∀ i ∈ e.1, i < M.asked.length) : kvs.length ≤ 32 := by
  have h1 := List.Nodup.length_le_of_subset (l₂ := subs (List.range' 0 M.asked.length)) hn fun l hl => by
    obtain ⟨e, he, rfl⟩ := List.mem_map.mp hl
    obtain ⟨_, h2, h3⟩ := hk e he
    exact mem_subs (asc_sub h2 fun a ha => ⟨Nat.zero_le _, by have := h3 a ha; omega⟩)
  rw [List.length_map, subs_len, List.length_range'] at h1
  have h2 : (2 : Nat) ^ M.asked.length ≤ 2 ^ 5 := Nat.pow_le_pow_right (by decide) wf.a5
  exact Nat.le_trans h1 h2
/-- all but what stands at kn, and the tables, stays; the tables stay tables -/
structure Keep (T : List (Addr × Str)) (kn : Addr) (H H' : Hp) : Prop where
  stay : ∀ b o, H b = some o → b ≠ kn → (∀ ps, o ≠ .tbl ps) → H' b = some o
  back : ∀ b, H' b = none → H b = none
  tabs : LamX.Tabs T H → LamX.Tabs T H'
theorem Keep.refl (T : List (Addr × Str)) (kn : Addr) (H : Hp) : Keep T kn H H := ⟨fun _ _ e _ _ => e, fun _ e => e, id⟩
theorem Keep.trans {T : List (Addr × Str)} {kn : Addr} {H H1 H2 : Hp} (a : Keep T kn H H1) (b : Keep T kn H1 H2) : Keep T kn H H2 := ⟨fun c o e n t => b.stay c o (a.stay c o e n t) n t, fun c e => a.back c (b.back c e), fun t => b.tabs (a.tabs t)⟩
theorem same_back {H H' : Hp} (s : Same H H') : ∀ b, H' b = none → H b = none := fun b e => by
  cases q : H b with
  | none => rfl
  | some o => rw [s b o q] at e; cases e
theorem Keep.of {T : List (Addr × Str)} {kn : Addr} {H H' : Hp} (s : Same H H') : Keep T kn H H' := ⟨fun b o e _ _ => s b o e, same_back s, fun t => t.ext s⟩
theorem Keep.ext {T : List (Addr × Str)} {kn : Addr} {H H' : Hp} (s : Ext H H') (t : LamX.Tabs T H') : Keep T kn H H' := ⟨fun b o e _ t => s.stay b o e t, s.back, fun _ => t⟩
/-- the tables stand where all but D does, D being no table and no code object -/
theorem tabs_but {T : List (Addr × Str)} {D : Addr} {H H' : Hp} {o : HO} (t : LamX.Tabs T H) (hD : H D = some o) (n1 : ∀ ps, o ≠ .tbl ps) (n2 : ∀ c q, o ≠ LamX.CodeO c q) (b : But D H H') : LamX.Tabs T H' := fun p hp => by
  obtain ⟨ps, h1, h2, h3⟩ := t p hp
  refine ⟨ps, b _ _ h1 (ne_of h1 hD fun z => n1 _ z.symm), h2, fun pos cv hc => ?_⟩
  obtain ⟨c, e1, e2⟩ := h3 pos cv hc
  exact ⟨c, e1, b _ _ e2 (ne_of e2 hD fun z => n2 _ _ z.symm)⟩
theorem Keep.put {T : List (Addr × Str)} {kn : Addr} {H : Hp} {kvs : List (List Key × V)} {o : HO} (hk : H kn = some (.dT kvs)) : Keep T kn H (upd H kn o) :=
  ⟨fun b o e hb _ => by rw [upd_ne hb]; exact e, fun b e => upd_back e, fun t => tabs_but t hk (by intro ps z; cases z) (by intro c q z; unfold LamX.CodeO at z; cases z) ((But.of_same (Same.refl _)).upd)⟩
theorem Keep.lst {T : List (Addr × Str)} {kn : Addr} {H H' : Hp} (k : Keep T kn H H') {b : Addr} {xs : List V} {kvs : List (List Key × V)} (hk : H kn = some (.dT kvs)) (e : H b = some (.lst xs)) : H' b = some (.lst xs) := k.stay b _ e (ne_of e hk (by intro z; cases z)) (by intro ps z; cases z)
theorem Keep.tup {T : List (Addr × Str)} {kn : Addr} {H H' : Hp} (k : Keep T kn H H') {b : Addr} {xs : List V} {kvs : List (List Key × V)} (hk : H kn = some (.dT kvs)) (e : H b = some (.tup xs)) : H' b = some (.tup xs) := k.stay b _ e (ne_of e hk (by intro z; cases z)) (by intro ps z; cases z)
theorem Keep.inst {T : List (Addr × Str)} {kn : Addr} {H H' : Hp} (k : Keep T kn H H') {b C dx : Addr} {fs : List (Str × V)} {kvs : List (List Key × V)} (hk : H kn = some (.dT kvs)) (e : H b = some (.ins C dx fs)) : H' b = some (.ins C dx fs) := k.stay b _ e (ne_of e hk (by intro z; cases z)) (by intro ps z; cases z)
theorem Keep.code {T : List (Addr × Str)} {kn : Addr} {H H' : Hp} (k : Keep T kn H H') {c c' : Addr} {q : Str} {kvs : List (List Key × V)} (hk : H kn = some (.dT kvs)) (e : H c = some (LamX.CodeO c' q)) : H' c = some (LamX.CodeO c' q) := k.stay c _ e (ne_of e hk (by intro z; unfold LamX.CodeO at z; cases z)) LamX.codeO_ne
theorem Keep.sqL {T : List (Addr × Str)} {K : PySem.W.Frag} {kn : Addr} {H H' : Hp} (k : Keep T kn H H') {b : Addr} {xs : List V} {kvs : List (List Key × V)} (hk : H kn = some (.dT kvs)) (e : SqL K H b xs) : SqL K H' b xs := by
  rcases e with e | e
  · rcases e with e | ⟨o, e⟩
    · exact .inl (.inl (k.lst hk e))
    · exact .inl (.inr ⟨o, k.stay b _ e (ne_of e hk (by intro z; cases z)) (by intro ps z; cases z)⟩)
  · exact .inr e
theorem Keep.sqT {T : List (Addr × Str)} {K : PySem.W.Frag} {kn : Addr} {H H' : Hp} (k : Keep T kn H H') {b : Addr} {xs : List V} {kvs : List (List Key × V)} (hk : H kn = some (.dT kvs)) (e : SqT K H b xs) : SqT K H' b xs := by
  rcases e with e | e
  · rcases e with e | ⟨o, e⟩
    · exact .inl (.inl (k.tup hk e))
    · exact .inl (.inr ⟨o, k.stay b _ e (ne_of e hk (by intro z; cases z)) (by intro ps z; cases z)⟩)
  · exact .inr e
theorem CountsAt.kn {CW CP : Addr} {H : Hp} {a lp kn : Addr} {M : Mir} (h : CountsAt CW CP H a lp kn M) : ∃ kvs, H kn = some (.dT kvs) := by
  obtain ⟨kvs, e, _⟩ := h.known
  exact ⟨_, e⟩
theorem PartsAt.keep {T : List (Addr × Str)} {CP kn : Addr} {H H' : Hp} {l : Addr} {ps : List PartM} {kvs : List (List Key × V)} (h : PartsAt CP H l ps) (hk : H kn = some (.dT kvs)) (k : Keep T kn H H') : PartsAt CP H' l ps := by
  obtain ⟨as, h1, h2⟩ := h
  refine ⟨as, k.lst hk h1, h2.mono fun _ _ _ e => e.keep fun b o eb ho => ?_⟩
  rcases ho with ⟨C, dx, fs, rfl⟩ | ⟨xs, rfl⟩ | ⟨xs, rfl⟩
  · exact k.inst hk eb
  · exact k.lst hk eb
  · exact k.tup hk eb
/-- the object stands after what leaves all but kn, if kn is as it is asked to be -/
theorem CountsAt.after {T : List (Addr × Str)} {CW CP : Addr} {H H' : Hp} {a lp kn : Addr} {M : Mir} (h : CountsAt CW CP H a lp kn M) (k : Keep T kn H H') (hk : ∃ kvs : List (List Nat × Nat), H' kn = some (.dT (kvs.map kEnt)) ∧ (kvs.map (·.1)).Nodup ∧ ∀ e ∈ kvs, e.2 = Md49.sizeOf_ M.toS e.1 ∧ e.1.Pairwise (· < ·) ∧ ∀ i ∈ e.1, i < M.asked.length) : CountsAt CW CP H' a lp kn M := by
  obtain ⟨kvs, e⟩ := h.kn
  obtain ⟨dx, hi⟩ := h.ins
  exact ⟨⟨dx, k.inst e hi⟩, h.parts.keep e k, hk, h.wf⟩
theorem CountsAt.same {CW CP : Addr} {H H' : Hp} {a lp kn : Addr} {M : Mir} (h : CountsAt CW CP H a lp kn M) (s : Same H H') : CountsAt CW CP H' a lp kn M := by
  obtain ⟨kvs, e1, e2⟩ := h.known
  exact h.after (Keep.of (T := []) s) ⟨kvs, s _ _ e1, e2⟩
end Jp
namespace Jp
open PySem PySem.Spec PyProof.Rows L2
open MdBase (Term Atom varsOf)
theorem nats_of_perm {ms : List Int} {ns : List Nat} (h : ms.Perm (natsI ns)) : ∃ l : List Nat, ms = natsI l ∧ l.Perm ns := by
  refine ⟨ms.map Int.toNat, ?_, ?_⟩
  · unfold natsI
    rw [List.map_map]
    refine (List.map_id ms).symm.trans (List.map_congr_left fun x hx => ?_)
    obtain ⟨n, _, rfl⟩ := List.mem_map.mp (h.mem_iff.mp hx)
    rfl
  · have := h.map Int.toNat
    unfold natsI at this
    rw [List.map_map] at this
    refine this.trans (List.Perm.of_eq ?_)
    refine (List.map_congr_left fun x _ => ?_).trans (List.map_id ns)
    rfl
theorem asc_lt {l : List Nat} (h : (natsI l).Pairwise (· ≤ ·)) (nd : l.Nodup) : l.Pairwise (· < ·) := by
  have h1 : l.Pairwise fun a b : Nat => (a : Int) ≤ (b : Int) := List.pairwise_map.mp h
  refine (h1.and nd).imp fun ⟨a, b⟩ => ?_
  omega
theorem valV_kEnt (kvs : List (List Nat × Nat)) (l : List Nat) : valV (kvs.map kEnt) (kI (natsI l)) = (kvs.find? fun e => decide (natsI e.1 = natsI l)).map fun e => nV e.2 := valV_kI (fun e : List Nat × Nat => natsI e.1) (fun e => nV e.2) (natsI l) kvs
theorem putK_kEnt {kvs : List (List Nat × Nat)} {l : List Nat} (n : Nat) (h : ∀ e ∈ kvs, e.1 ≠ l) : putK (kvs.map kEnt) (kI (natsI l)) (nV n) = (kvs ++ [(l, n)]).map kEnt := by
  unfold putK
  rw [if_neg, List.map_append]
  · rfl
  · rw [List.any_map, List.any_eq_true]
    rintro ⟨e, he, z⟩
    exact h e he (natsI_inj (kI_inj (of_decide_eq_true z)))
theorem pe_okM1 {X : Cx} {C : Addr} {m : Str} {k : Nat} {ps : List Str} {sp : Sp} {o e : Expr} {apos pos : Pos} {ta : TE} {t : TA} {pl : Sem Bool} (h : OkM X.prog X.w X.K X.mg X.base C m k ps sp) (c : Cls X.K C) (hr : Room k X.A) (he : PE X o ta) (ha : PA X [e] t)
    (hst : starEach [e] X.env = (false, eval e X.env) :: starEach [] X.env := by rfl)
    (ht : eval (.Call (.Attribute o m apos) [e] [] pos) X.env = (do
      let ov ← eval o X.env
      standAt apos.atName
      let (f, first) ← holding [ov] (getMethod ov m pl)
      callWith pos f first (backTo pos (starEach [e] X.env)) (backToKw pos (keywordEach [] X.env))) := by rfl) : PE X (.Call (.Attribute o m apos) [e] [] pos) (tMeth C m sp [] E0 ta t) := by
  obtain ⟨f, fd, F, M, b⟩ := h
  exact pe_meth he c M F hr b .nil pass0 ha hst rfl ht
def rSortedA (K : PySem.W.Frag) : List V → Hp → VK → Prop := fun vs H Q => rSortedI K vs H Q ∨ rSortedIT K vs H Q
theorem cr_sortedA {X : Cx} : CallR X (.builtin "sorted") (rSortedA X.K) := by
  intro pins s σ H vs us Q I r h
  rcases h with h | h
  · exact cr_sortedI pins s σ H vs us Q I r h
  · exact cr_sortedIT pins s σ H vs us Q I r h
def spWayInit (CT CA CW CP : Addr) : Sp := fun vs H Q _ => ∃ (p dx lq : Addr) (M : Mir), vs = [.ref p, .ref lq] ∧ H p = some (.ins CW dx []) ∧ AskAt CT CA H lq M ∧ ∀ H' lp kn, CountsAt CW CP H' p lp kn M → (∀ b o, H b = some o → b ≠ p → H' b = some o) → H kn = none → Q .non H'
def spWaysOf (T : List (Addr × Str)) (K : PySem.W.Frag) (CW CP : Addr) : Sp := fun vs H Q _ => ∃ (a ln lp kn : Addr) (M : Mir) (ns : List Nat), vs = [.ref a, .ref ln] ∧ CountsAt CW CP H a lp kn M ∧ (SqL K H ln (ns.map nV) ∨ SqT K H ln (ns.map nV)) ∧ ns.Nodup ∧ (∀ i ∈ ns, i < M.asked.length) ∧
  ∀ H', Keep T kn H H' → CountsAt CW CP H' a lp kn M → Q (nV (Md49.sizeOf_ M.toS ns)) H'
section
variable {P : Program} {w : World} {K : PySem.W.Frag} {mg : Str → Option Value} {base : Heap} {CT CA CW CP : Addr} {TT : List (Addr × Str)}
theorem sc_wi : FnScope ["self", "atoms"] ["self", "atoms"] (defScope sWayCountsInit) := ⟨rfl, rfl, rfl, by decide +kernel, rfl, by decide +kernel, by decide +kernel⟩
theorem ok_wayInit (F : HasInit K "WayCounts.__init__" CW sWayCountsInit ["self", "atoms"]) (T : Klass K mg "WayCounts" CW ["parts", "known"]) (GP : Ok P w K mg base "parts_of" 5 ["atoms"] (spPartsOf CT CA CP)) : Made P w K mg base CW 6 ["self", "atoms"] (spWayInit CT CA CW CP) := by
  obtain ⟨f, fd, F, M, b⟩ := F
  refine ⟨f, fd, F.ok sc_wi (fun vs H Q E h => ?_) (fun cdv A outer s H vs Q E hr h => ?_), M, b⟩
  · obtain ⟨p, dx, lq, M, rfl, _⟩ := h
    rfl
  · obtain ⟨p, dx, lq, M, rfl, hp, hA, k⟩ := h
    obtain ⟨as, hlq, hats⟩ := hA.ex
    refine ⟨_, pss_cons (ps_fld (pv 0) (pe_ok GP hr rfl (pa_cons (pv 1) pa_nil)) rfl) (pss_one (ps_fld (pv 0) pe_dnewT rfl)), ?_⟩
    refine ⟨_, rfl, lq, as, M.asked, M.tabs, rfl, hlq, hats, hA.wf.fair, fun H1 lp s1 nlp hlp => ?_⟩
    refine ⟨_, rfl, p, CW, dx, [], rfl, s1 _ _ hp, T.cl, T.no _ (by simp), (by show 0 < 1000; decide), ?_⟩
    intro kn hkn
    have npk : p ≠ kn := ne_of_none upd_same hkn
    have hkn1 : H1 kn = none := upd_back hkn
    have nlk : lp ≠ p := fun z => by
      rw [z, hp] at nlp
      cases nlp
    refine ⟨_, rfl, p, CW, dx, _, rfl, (upd_ne npk).trans upd_same, T.cl, T.no _ (by simp), (by show 1 < 1000; decide), ?_⟩
    have k1 : ∀ b o, H1 b = some o → b ≠ p → upd (upd (upd H1 p (.ins CW dx (putF "parts" (.ref lp) []))) kn (.dT [])) p (.ins CW dx (putF "known" (.ref kn) (putF "parts" (.ref lp) []))) b = some o := fun b o e hb => by
      rw [upd_ne hb, upd_ne (ne_of_none e hkn1), upd_ne hb]
      exact e
    refine k _ lp kn ⟨⟨dx, upd_same.trans (congrArg (fun q => some (HO.ins CW dx q)) fs2_new)⟩, ?_, ⟨[], ?_, List.nodup_nil, fun e he => by cases he⟩, hA.wf⟩ (fun b o e hb => k1 b o (s1 _ _ e) hb) (s1.free hkn1)
    · obtain ⟨ps, h1, h2⟩ := hlp
      have hp1 := s1 _ _ hp
      refine ⟨ps, k1 _ _ h1 nlk, h2.mono fun _ _ _ ⟨lv, lr, rs, ⟨da, e1⟩, e2, e3, e4⟩ => ⟨lv, lr, rs, ⟨da, k1 _ _ e1 ?_⟩, k1 _ _ e2 ?_, k1 _ _ e3 ?_, e4.mono fun _ _ _ e => k1 _ _ e ?_⟩⟩
      · intro z
        rw [z, hp1] at e1
        cases e1
      · exact ne_of e2 hp1 (by intro z; cases z)
      · exact ne_of e3 hp1 (by intro z; cases z)
      · exact ne_of e hp1 (by intro z; cases z)
    · rw [upd_ne npk.symm]
      exact upd_same
theorem sc_wo : FnScope ["self", "numbers", "some", "number"] ["self", "numbers"] (defScope sWaysOf) := ⟨rfl, rfl, rfl, by decide +kernel, rfl, by decide +kernel, by decide +kernel⟩
theorem ok_waysOf (F : HasM K CW "ways_of" "WayCounts.ways_of" sWaysOf ["self", "numbers"]) (N : Plain mg) (T : Klass K mg "WayCounts" CW ["parts", "known"]) (GC : Ok P w K mg base "count_ways" 5 ["parts"] (spCountWays CP)) : OkM P w K mg base CW "ways_of" 6 ["self", "numbers"] (spWaysOf TT K CW CP) := by
  obtain ⟨f, fd, F, MM, b⟩ := F
  refine ⟨f, fd, F.ok sc_wo (fun vs H Q E h => ?_) (fun cdv A outer s H vs Q E hr h => ?_), MM, b⟩
  · obtain ⟨a, ln, lp, kn, M, ns, rfl, _⟩ := h
    rfl
  · obtain ⟨a, ln, lp, kn, M, ns, rfl, hA, hln, hnd, hlt, k⟩ := h
    have hu := hu_of hr
    have wf := hA.wf
    refine ⟨_, pss_cons (ps_set (i := 2) sc_wo.nd rfl (Or.inl rfl) (pe_callTy call_tuple_of (by rfl) N.tuple (by decide +kernel) (pa_cons (pe_callB cr_sortedA (by rfl) N.sorted (by decide +kernel) (pa_cons (pv 1) pa_nil)) pa_nil)))
      (pss_cons (ps_if (pt_cmp (pc_dnotin hu (pv 2) (pe_fld (pv 0) rfl)))
        (pss_one (ps_dput hu (pe_fld (pv 0) rfl) (pv 2) (pe_ok GC hr rfl (pa_cons (pe_lc (own := [("number", 3)]) (g := gName 3) (tt := tYes) rfl sc_wo.nd (pi_tup (pv 2)) (blkOk_by (N := ["self", "numbers", "some", "number"]) (sc := defScope sWaysOf) (by decide +kernel))
          (fun _ _ _ _ _ => pg_name (i := 3) sc_wo.nd rfl (Or.inl rfl)) (fun _ _ _ _ _ => pts_nil) (fun _ _ _ _ _ => pe_ix (ixL K) (peF K (pv 0)) (pv 3) (fun _ _ => rfl))) pa_nil)) rfl)) pss_nil)
      (pss_one (ps_ret (pe_dget hu (pe_fld (pv 0) rfl) (pv 2) (fun _ _ => rfl))))), ?_⟩
    -- some
    have sorts : ∀ Q2 : VK, (∀ (l : List Nat) (p : Addr), l.Perm ns → l.Pairwise (· < ·) → H p = none → Q2 (.ref p) (upd H p (.lst (l.map nV)))) → rSortedA K [.ref ln] H Q2 := by
      intro Q2 hq
      have hin : ∀ (ms : List Int) (p : Addr), ms.Perm (natsI ns) → ms.Pairwise (· ≤ ·) → H p = none → Q2 (.ref p) (upd H p (.lst (ms.map V.int))) := fun ms p h1 h2 h3 => by
        obtain ⟨l, rfl, hl⟩ := nats_of_perm h1
        rw [natsI_V]
        exact hq l p hl (asc_lt h2 (hl.nodup_iff.mpr hnd)) h3
      rcases hln with h | h
      · exact .inl ⟨ln, natsI ns, rfl, by rw [natsI_V]; exact h, hin⟩
      · exact .inr ⟨ln, natsI ns, rfl, by rw [natsI_V]; exact h, hin⟩
    refine ⟨_, rfl, sorts _ fun l p hl hasc hp => ?_⟩
    have s1 : Same H (upd H p (.lst (l.map nV))) := same_upd hp
    have hp1 : upd H p (.lst (l.map nV)) p = some (.lst (l.map nV)) := upd_same
    generalize upd H p (.lst (l.map nV)) = H1 at s1 hp1
    refine ⟨p, _, rfl, .inl ⟨SqL.of hp1, fun t ht => ?_⟩⟩
    have s2 : Same H1 (upd H1 t (.tup (l.map nV))) := same_upd ht
    have ht2 : upd H1 t (.tup (l.map nV)) t = some (.tup (l.map nV)) := upd_same
    generalize upd H1 t (.tup (l.map nV)) = H2 at s2 ht2
    have s12 := s1.trans s2
    have hA2 := hA.same s12
    obtain ⟨dx, hi2⟩ := hA2.ins
    obtain ⟨kvs, hk2, hkn, hkv⟩ := hA2.known
    have hlts : ∀ i ∈ l, i < M.asked.length := fun i hi => hlt i (hl.mem_iff.mp hi)
    have hl5 : l.length ≤ 5 := by
      have := nodup_le (hl.nodup_iff.mpr hnd) hlts
      have := wf.a5
      omega
    have hsz : Md49.sizeOf_ M.toS l = Md49.sizeOf_ M.toS ns := size_perm (tabs := M.tabs) rfl wf.fair hl hlts
    have ht3 : H2 t = some (.tup ((kI (natsI l)).map kV)) := by
      rw [kI_V, natsI_V]
      exact ht2
    refine ⟨_, rfl, _, rfl, a, CW, dx, _, _, rfl, hi2, T.cl, T.no _ (by simp), fs2_2, kn, _, rfl, DGet.t hk2 ht3, ?_⟩
    rw [valV_kEnt]
    cases hf : kvs.find? fun e => decide (natsI e.1 = natsI l) with
    | some e =>
      have h1 := List.find?_some hf
      have h2 : e.1 = l := natsI_inj (of_decide_eq_true h1)
      have h3 := (hkv e (List.mem_of_find?_eq_some hf)).1
      refine ⟨false, rfl, ifF rfl ⟨_, rfl, a, CW, dx, _, _, rfl, hi2, T.cl, T.no _ (by simp), fs2_2, _, rfl, kn, nV e.2, rfl, ?_, ?_⟩⟩
      · have h4 := DGet.t hk2 ht3
        rw [valV_kEnt, hf] at h4
        exact h4
      · rw [h3, h2, hsz]
        exact k H2 (Keep.of s12) hA2
    | none =>
      have hnew : ∀ e ∈ kvs, e.1 ≠ l := fun e he z => by
        have := List.find?_eq_none.mp hf e he
        rw [z] at this
        exact this (decide_eq_true rfl)
      obtain ⟨as, hlp2, hps2⟩ := hA2.parts
      have hpl : as.length = M.asked.length := by
        rw [hps2.1, parts_list, List.length_map, List.length_range]
      refine ⟨true, rfl, ifT rfl ⟨_, rfl, t, rfl, ⟨_, SqT.of ht2⟩, fun D hD => lc_val (bs := l.map fun i => as.getD i 0) (F := V.ref) walk_tup (fun i H x H' _ y => y) (fun H' s' => SqT.of (s' _ _ ht2)) hD (by rw [List.length_map]; show _ ≤ 2 ^ 24; omega) (by rw [List.length_map, List.length_map]) ?_ ?_⟩⟩
      · intro i y z H3 Nn hi hy hz s3 hN
        obtain ⟨m, hm, rfl⟩ := get_map hy
        have hml : m < as.length := by
          rw [hpl]
          exact hlts m (List.mem_of_getElem? hm)
        have ez : z = as[m] := by
          rw [List.getElem?_map, hm] at hz
          have := Option.some.inj hz
          rw [← this]
          show as.getD m 0 = as[m]
          rw [List.getD_eq_getElem?_getD, List.getElem?_eq_getElem hml]
          rfl
        subst ez
        exact ⟨rfl, _, rfl, a, CW, dx, _, _, rfl, s3 _ _ hi2, T.cl, T.no _ (by simp), fs2_1, _, rfl, lp, _, _, _, rfl, rfl, SqL.of (s3 _ _ hlp2), atI_nat (v := V.ref as[m]) (by rw [List.getElem?_map, List.getElem?_eq_getElem hml]; rfl), hN _ (Same.refl _)⟩
      · intro H3 s3 hD3
        have hparts : PartsAt CP H3 D (l.map (partAtM M)) := by
          refine ⟨_, hD3, by rw [List.length_map, List.length_map], fun i q x h1 h2 => ?_⟩
          rw [List.getElem?_map] at h1 h2
          cases hm : l[i]? with
          | none => rw [hm] at h1; cases h1
          | some m =>
            rw [hm] at h1 h2
            have hml : m < as.length := by
              rw [hpl]
              exact hlts m (List.mem_of_getElem? hm)
            have e1 : q = as[m] := by
              have := Option.some.inj h1
              rw [← this]
              show as.getD m 0 = as[m]
              rw [List.getD_eq_getElem?_getD, List.getElem?_eq_getElem hml]
              rfl
            have e2 : x = partAtM M m := (Option.some.inj h2).symm
            rw [e1, e2]
            refine (hps2.2 m as[m] (partAtM M m) (List.getElem?_eq_getElem hml) ?_).same s3
            rw [parts_list, List.getElem?_map, List.getElem?_range (by omega)]
            rfl
        refine ⟨D, _, rfl, hparts, parts_fine wf hl5 hlts, fun H4 s4 => ?_⟩
        rw [count_size wf hlts]
        have s24 := s3.trans s4
        have hA4 := hA2.same s24
        refine ⟨_, rfl, a, CW, dx, _, _, rfl, s24 _ _ hi2, T.cl, T.no _ (by simp), fs2_2, _, rfl, kn, _, rfl, DPut.t (s24 _ _ hk2) (s24 _ _ ht3) (by rw [List.length_map]; have := known_len wf hkn hkv; show _ < 2 ^ 24; omega), ?_⟩
        rw [putK_kEnt _ hnew]
        have kp : Keep TT kn H (upd H4 kn (.dT ((kvs ++ [(l, Md49.sizeOf_ M.toS l)]).map kEnt))) := (Keep.of (s12.trans s24)).trans (Keep.put (s24 _ _ hk2))
        have hA5 : CountsAt CW CP (upd H4 kn (.dT ((kvs ++ [(l, Md49.sizeOf_ M.toS l)]).map kEnt))) a lp kn M := by
          refine hA.after kp ⟨_, upd_same, ?_, fun e he => ?_⟩
          · rw [List.map_append]
            refine List.nodup_append.mpr ⟨hkn, List.nodup_cons.mpr ⟨(by simp), List.nodup_nil⟩, fun x hx y hy z => ?_⟩
            obtain ⟨e, he, rfl⟩ := List.mem_map.mp hx
            rw [List.mem_singleton.mp hy] at z
            exact hnew e he z
          · rcases List.mem_append.mp he with he | he
            · exact hkv e he
            · rw [List.mem_singleton.mp he]
              exact ⟨rfl, hasc, hlts⟩
        obtain ⟨d5, hi5⟩ := hA5.ins
        have ht5 : upd H4 kn (.dT ((kvs ++ [(l, Md49.sizeOf_ M.toS l)]).map kEnt)) t = some (.tup ((kI (natsI l)).map kV)) := by
          rw [upd_ne (ne_of ht3 hk2 (by intro z; cases z))]
          exact s24 _ _ ht3
        refine ⟨_, rfl, a, CW, d5, _, _, rfl, hi5, T.cl, T.no _ (by simp), fs2_2, _, rfl, kn, nV (Md49.sizeOf_ M.toS l), rfl, ?_, ?_⟩
        · have h4 := DGet.t (k := kI (natsI l)) (upd_same (H := H4) (a := kn) (o := .dT ((kvs ++ [(l, Md49.sizeOf_ M.toS l)]).map kEnt))) ht5
          rw [valV_kEnt, List.find?_append, hf] at h4
          simpa using h4
        · rw [hsz]
          rw [hsz] at kp hA5
          exact k _ kp hA5
end
end Jp
namespace Jp
open PySem PySem.Spec PyProof.Rows L2
/-! ### tuples of whole numbers, lists of them -/
def TupN (H : Hp) (a : Addr) (l : List Nat) : Prop := H a = some (.tup (l.map nV))
def TupsAt (H : Hp) (lp : Addr) (ls : List (List Nat)) : Prop := ∃ as, H lp = some (.lst (as.map V.ref)) ∧ AllAt (TupN H) as ls
theorem TupsAt.same {H H' : Hp} {lp : Addr} {ls : List (List Nat)} (h : TupsAt H lp ls) (s : Same H H') : TupsAt H' lp ls := by
  obtain ⟨as, h1, h2⟩ := h
  exact ⟨as, s _ _ h1, h2.mono fun _ _ _ e => s _ _ e⟩
theorem AllAt.append {α : Type} {R : Addr → α → Prop} : ∀ {ps : List Addr} {xs : List α} {qs : List Addr} {ys : List α}, AllAt R ps xs → AllAt R qs ys → AllAt R (ps ++ qs) (xs ++ ys) := by
  intro ps xs qs ys h1 h2
  refine ⟨by rw [List.length_append, List.length_append, h1.1, h2.1], fun i p x a b => ?_⟩
  have hl := h1.1
  by_cases hi : i < ps.length
  · rw [List.getElem?_append_left hi] at a
    rw [List.getElem?_append_left (by omega)] at b
    exact h1.2 i p x a b
  · rw [List.getElem?_append_right (by omega)] at a b
    rw [hl] at a
    exact h2.2 _ p x a b
theorem opCatA (K : PySem.W.Frag) {X : Cx} (q : X.K = K := by rfl) : OpR X (binaryOp .Add) (rCatA K) := by
  subst q
  exact op_catA
/-- t + (a,) -/
theorem cat_one {K : PySem.W.Frag} {H : Hp} {a b : Addr} {l : List Nat} {x : Nat} {Q : VK} (ha : TupN H a l) (hb : TupN H b [x]) (hl : l.length ≤ 1000) (k : ∀ H' t, Same H H' → TupN H' t (l ++ [x]) → Q (.ref t) H') : rCatA K (.ref a) (.ref b) H Q := by
  refine ⟨a, b, _, _, rfl, rfl, SqT.of ha, SqT.of hb, (by rw [List.length_map]; show _ + 1 ≤ 2 ^ 24; omega), fun e => ?_, fun e1 e2 => (by cases e2), fun e1 e2 p hp => ?_⟩
  · have e : l = [] := List.map_eq_nil_iff.mp e
    subst e
    exact k H b (Same.refl _) hb
  · refine k _ p (same_upd hp) ?_
    show upd H p _ p = _
    rw [upd_same, List.map_append]
/-- a slice of a list or of a tuple -/
def rSlS (K : PySem.W.Frag) : V → Option Int → Option Int → Hp → VK → Prop := fun x lo hi H Q => rSlL K x lo hi H Q ∨ rSlA K x lo hi H Q
theorem slS (K : PySem.W.Frag) {X : Cx} (q : X.K = K := by rfl) : SlR X (rSlS K) := by
  subst q
  exact SlR.or sl_list sl_tupA
section
variable {J : It} {n : Nat} {G : Hp → Prop} {Y : Nat → Hp → V → Hp → Prop} {g : TG} {tt : TT} {te : TE} {vs : List Nat} {σ : L2.St} {H1 : Hp} {D : Addr} {Qd : Hp → Prop}
/-- [e for x in .. if p x], each item z made of x is so that R x z holds -/
theorem lc_fmade {α : Type} {as : List α} {F : α → V} (p : α → Bool) (w : Walk J n G Y) (hY : ∀ i H x H', i < n → Y i H x H' → H' = H ∧ (as.map F)[i]? = some x) (hn : as.length = n) (hG : ∀ H, Same H1 H → G H) (new : H1 D = none) (hz : n ≤ sizeLine)
    (R : α → Addr → Hp → Prop) (mono : ∀ x z H H' acc, H D = some (.lst acc) → But D H H' → R x z H → R x z H')
    (hs : ∀ x H acc (Ny : V → Hp → Prop) (Nn : Hp → Prop), x ∈ as → Same H1 H → H D = some (.lst acc) → (p x = true → ∀ z H4, Same H H4 → R x z H4 → Ny (.ref z) H4) → (p x = false → ∀ H4, Same H H4 → Nn H4) →
      g (F x) (wipe σ vs) H fun σ2 H2 => wipe σ2 vs = wipe σ vs ∧ tt σ2 H2 fun b H3 => if b = true then te σ2 H3 Ny else Nn H3)
    (hd : ∀ H zs, Same H1 H → H D = some (.lst (zs.map V.ref)) → AllAt (fun z x => R x z H) zs (as.filter p) → Qd H) :
    ∃ W : Nat → Nat → Hp → Prop, (∃ m, W 0 m (upd H1 D (.lst []))) ∧ ∀ i m H, W i m H →
      (J.stop i H ∧ Qd H) ∨ (J.go i H ∧ ∃ Nx : Hp → Prop, (∀ H', Nx H' → ∃ m', m' < m ∧ W (i + 1) m' H') ∧ ∀ x H', J.yld i H x H' → g x (wipe σ vs) H' fun σ2 H2 => wipe σ2 vs = wipe σ vs ∧ tt σ2 H2 fun b H3 =>
        if b = true then te σ2 H3 fun y H4 => ∃ acc, H4 D = some (.lst acc) ∧ acc.length < sizeLine ∧ Nx (upd H4 D (.lst (acc ++ [y]))) else Nx H3) := by
  refine lc_it w (fun i H => Same H1 H ∧ ∃ zs, H D = some (.lst (zs.map V.ref)) ∧ AllAt (fun z x => R x z H) zs ((as.take i).filter p)) ⟨same_upd new, [], upd_same, AllAt.nil⟩ (fun i H _ h => hG H h.1) ?_ ?_
  · rintro i x H H' hi ⟨sm, zs, hD, hR⟩ y
    obtain ⟨rfl, hx⟩ := hY i H x H' hi y
    obtain ⟨u, hu, rfl⟩ := get_map hx
    refine hs u H' _ _ _ (List.mem_of_getElem? hu) sm hD (fun hp z H4 s4 r4 => ?_) fun hp H4 s4 => ?_
    · refine ⟨_, s4 _ _ hD, ?_, sameU (sm.trans s4) new, zs ++ [z], ?_, ?_⟩
      · have h1 := List.length_filter_le p (as.take i)
        rw [List.length_take] at h1
        rw [List.length_map, hR.1]
        omega
      · rw [upd_same, List.map_append]
        rfl
      · rw [take_snoc hu, List.filter_append, List.filter_cons_of_pos hp, List.filter_nil]
        have bt : But D H4 (upd H4 D (.lst (zs.map V.ref ++ [V.ref z]))) := (But.of_same (Same.refl _)).upd
        exact (hR.mono fun q v _ h => mono v q H' _ _ hD ((But.of_same s4).upd) h).snoc (mono u z H4 _ _ (s4 _ _ hD) bt r4)
    · refine ⟨sm.trans s4, zs, s4 _ _ hD, ?_⟩
      rw [take_snoc hu, List.filter_append, List.filter_cons_of_neg (by rw [hp]; decide), List.filter_nil, List.append_nil]
      exact hR.mono fun q v _ h => mono v q H' _ _ hD (But.of_same s4) h
  · rintro H ⟨sm, zs, hD, hR⟩
    rw [← hn, List.take_length] at hR
    exact hd H zs sm hD hR
end
end Jp
namespace Jp
open PySem PySem.Spec PyProof.Rows L2
/-! ### an order: is it one, what it costs -/
theorem eqv_list (xs ys : List Int) : PyData.eqv (.list (xs.map PyData.int)) (.list (ys.map PyData.int)) = decide (xs = ys) := by
  rw [PyData.eqv]
  exact eqv_ints xs ys
theorem shaped_ints (x : List Int) : SeqAt.shaped (.list (x.map PyData.int)) = true := by
  have h := shaped_row x
  have e1 : PyData.canLay0 (.list (x.map PyData.int)) = PyData.canLay0 (dRow x) := by simp [PyData.canLay0, dRow]
  have e2 : PyData.depth (.list (x.map PyData.int)) = PyData.depth (dRow x) := by simp [PyData.depth, dRow]
  unfold SeqAt.shaped at h ⊢
  rw [e1, e2]
  exact h
theorem sorted_eq : ∀ {xs ys : List Int}, xs.Perm ys → xs.Pairwise (· ≤ ·) → ys.Pairwise (· ≤ ·) → xs = ys := fun h h1 h2 => h.eq_of_pairwise (fun _ _ _ _ h3 h4 => Int.le_antisymm h3 h4) h1 h2
theorem range_pw (n : Nat) : (natsI (List.range n)).Pairwise (· ≤ ·) := by
  unfold natsI
  rw [List.pairwise_map]
  exact List.pairwise_le_range.imp fun h => by omega
def spIsOrder (K : PySem.W.Frag) : Sp := fun vs H Q _ => ∃ (ln lq : Addr) (ns : List Int) (as : List V), vs = [.ref ln, .ref lq] ∧ SqL K H ln (ns.map V.int) ∧ ns.length ≤ 100 ∧ H lq = some (.lst as) ∧ as.length ≤ 100 ∧
  ∀ H', Same H H' → Q (.bl (decide (ns.Perm (natsI (List.range as.length))))) H'
def spOrderCost (T : List (Addr × Str)) (K : PySem.W.Frag) (CW CP : Addr) : Sp := fun vs H Q _ => ∃ (a lo lp kn : Addr) (M : Mir) (ns : List Nat), vs = [.ref a, .ref lo] ∧ CountsAt CW CP H a lp kn M ∧ (SqL K H lo (ns.map nV) ∨ SqT K H lo (ns.map nV)) ∧ ns.Nodup ∧ (∀ i ∈ ns, i < M.asked.length) ∧
  ∀ H', Keep T kn H H' → CountsAt CW CP H' a lp kn M → Q (nV (Md49.orderCost M.toS ns)) H'
theorem cut_to {xs : List V} {i : Nat} : cutV xs none (some (i : Int)) = xs.take i := by
  unfold cutV
  rw [HT.sIx_nat, HT.sIx_none, List.drop_zero, Nat.sub_zero]
  rcases Nat.le_total i xs.length with h | h
  · rw [Nat.min_eq_left h]
  · rw [Nat.min_eq_right h, List.take_length, List.take_of_length_le h]
section
variable {P : Program} {w : World} {K : PySem.W.Frag} {mg : Str → Option Value} {base : Heap} {CT CA CW CP : Addr} {TT : List (Addr × Str)}
theorem sc_io : FnScope ["numbers", "atoms"] ["numbers", "atoms"] (defScope sIsOrder) := ⟨rfl, rfl, rfl, by decide +kernel, rfl, by decide +kernel, by decide +kernel⟩
theorem ok_isOrder (F : Has K mg "is_order" sIsOrder ["numbers", "atoms"]) (N : Plain mg) : Ok P w K mg base "is_order" 1 ["numbers", "atoms"] (spIsOrder K) := by
  obtain ⟨f, fd, F, M, kp, b⟩ := F
  refine ⟨f, fd, F.ok sc_io (fun vs H Q E h => ?_) (fun cdv A outer s H vs Q E hr h => ?_), M, kp, b⟩
  · obtain ⟨ln, lq, ns, as, rfl, _⟩ := h
    rfl
  · obtain ⟨ln, lq, ns, as, rfl, hln, hn, hlq, ha, k⟩ := h
    refine ⟨_, pss_one (ps_ret (pe_cmpR (op_eqD hr.units) (pe_callB cr_sortedI (by rfl) N.sorted (by decide +kernel) (pa_cons (pv 0) pa_nil)) (pe_listRg rfl rfl N.list (prg_1 rfl N.range (pe_callB call_len_seq (by rfl) N.len PySem.boot_len (pa_cons (pv 1) pa_nil)))) (nomark _))), ?_⟩
    refine ⟨_, rfl, ln, ns, rfl, hln, fun ms p hp1 hp2 np => ?_⟩
    have s1 : Same H (upd H p (.lst (ms.map V.int))) := same_upd np
    have hp : upd H p (.lst (ms.map V.int)) p = some (.lst (ms.map V.int)) := upd_same
    generalize upd H p (.lst (ms.map V.int)) = H1 at s1 hp
    refine ⟨_, rfl, lq, _, rfl, Or.inl (SqL.of (s1 _ _ hlq)), _, rfl, RgOk.of_le (by omega) (by omega) (by omega) (by omega), fun ls hls => ?_⟩
    rw [rgV_nV, ← natsI_V]
    have s2 : Same H1 (upd H1 ls (.lst ((natsI (List.range as.length)).map V.int))) := same_upd hls
    have hls2 : upd H1 ls (.lst ((natsI (List.range as.length)).map V.int)) ls = some (.lst ((natsI (List.range as.length)).map V.int)) := upd_same
    generalize upd H1 ls (.lst ((natsI (List.range as.length)).map V.int)) = H2 at s2 hls2
    refine ⟨_, _, .lst (SqL.of (s2 _ _ hp)) (dp_ints ms), .lst (SqL.of hls2) (dp_ints _), shaped_ints _, shaped_ints _, ?_⟩
    rw [eqv_list]
    have e : decide (ms = natsI (List.range as.length)) = decide (ns.Perm (natsI (List.range as.length))) := by
      rw [decide_eq_decide]
      constructor
      · intro h
        rw [← h]
        exact hp1.symm
      · intro h
        exact sorted_eq (hp1.trans h) hp2 (range_pw _)
    rw [e]
    exact k H2 (s1.trans s2)
theorem sc_oc : FnScope ["counts", "order", "length"] ["counts", "order"] (defScope sOrderCost) := ⟨rfl, rfl, rfl, by decide +kernel, rfl, by decide +kernel, by decide +kernel⟩
theorem ok_orderCost (F : Has K mg "order_cost" sOrderCost ["counts", "order"]) (N : Plain mg) (T : Klass K mg "WayCounts" CW ["parts", "known"]) (GW : OkM P w K mg base CW "ways_of" 6 ["self", "numbers"] (spWaysOf TT K CW CP)) : Ok P w K mg base "order_cost" 7 ["counts", "order"] (spOrderCost TT K CW CP) := by
  obtain ⟨f, fd, F, M, kp, b⟩ := F
  refine ⟨f, fd, F.ok sc_oc (fun vs H Q E h => ?_) (fun cdv A outer s H vs Q E hr h => ?_), M, kp, b⟩
  · obtain ⟨a, lo, lp, kn, M, ns, rfl, _⟩ := h
    rfl
  · obtain ⟨a, lo, lp, kn, M, ns, rfl, hA, hlo, hnd, hlt, k⟩ := h
    refine ⟨_, pss_one (ps_ret (pe_callB (cr_sum rfl) (by rfl) N.sum (by decide +kernel) (pa_cons
        (pe_lc (own := [("length", 2)]) (g := gName 2) (tt := tYes) rfl sc_oc.nd (pi_range2 (by rfl) N.range (pa_cons pe_int (pa_cons (pe_op op_add (pe_callB call_len_seq (by rfl) N.len PySem.boot_len (pa_cons (pv 1) pa_nil)) pe_int) pa_nil))) (blkOk_by (N := ["counts", "order", "length"]) (sc := defScope sOrderCost) (by decide +kernel))
          (fun _ _ _ _ _ => pg_name (i := 2) sc_oc.nd rfl (Or.inl rfl)) (fun _ _ _ _ _ => pts_nil) (fun _ _ _ _ _ => pe_okM1 GW T.cl hr (pv 0) (pa_cons (pe_slice (slS K) (pv 1) po_none (po_some (pv 2))) pa_nil))) pa_nil))), ?_⟩
    have wf := hA.wf
    have h5 := wf.a5
    have hnl : ns.length ≤ M.asked.length := nodup_le hnd hlt
    have hseq : ∀ H', Keep TT kn H H' → (SqL K H' lo (ns.map nV) ∨ SqT K H' lo (ns.map nV)) := fun H' kp => by
      obtain ⟨kvs, e⟩ := hA.kn
      exact hlo.imp (fun h => kp.sqL e h) fun h => kp.sqT e h
    refine ⟨_, rfl, lo, _, rfl, hlo, _, _, rfl, rfl, 2, _, rfl, ⟨by omega, by omega, by rw [List.length_map]; omega, by rw [List.length_map]; omega⟩, fun D hD => ?_⟩
    have en : ((((ns.map nV).length : Nat) : Int) + 1 - 2).toNat = ns.length - 1 := by
      rw [List.length_map]
      omega
    rw [en]
    refine lc_it walk_range (fun i H' => Keep TT kn H H' ∧ CountsAt CW CP H' a lp kn M ∧ H' D = some (.lst ((List.range i).map fun k => nV (Md49.sizeOf_ M.toS (ns.take (k + 2)))))) ⟨Keep.of (same_upd hD), hA.same (same_upd hD), upd_same⟩ (fun _ _ _ _ => trivial) ?_ ?_
    · rintro i x H2 H1 hi ⟨kp1, hA1, hD1⟩ ⟨rfl, rfl⟩
      obtain ⟨dx, hi1⟩ := hA1.ins
      obtain ⟨kvs1, hk1⟩ := hA1.kn
      have e2 : (2 + (i : Int)) = ((i + 2 : Nat) : Int) := by omega
      have cont : ∀ H3 q, Same H1 H3 → (SqL K H3 q ((ns.take (i + 2)).map nV) ∨ SqT K H3 q ((ns.take (i + 2)).map nV)) → spWaysOf TT K CW CP [.ref a, .ref q] H3 (fun y H4 => ∃ acc, H4 D = some (.lst acc) ∧ acc.length < sizeLine ∧ Keep TT kn H (upd H4 D (.lst (acc ++ [y]))) ∧ CountsAt CW CP (upd H4 D (.lst (acc ++ [y]))) a lp kn M ∧ upd H4 D (.lst (acc ++ [y])) D = some (.lst ((List.range (i + 1)).map fun k => nV (Md49.sizeOf_ M.toS (ns.take (k + 2)))))) E0 := by
        intro H3 q s3 hq
        refine ⟨a, q, lp, kn, M, ns.take (i + 2), rfl, hA1.same s3, hq, hnd.sublist (List.take_sublist _ _), fun j hj => hlt j (List.mem_of_mem_take hj), fun H4 kp4 hA4 => ?_⟩
        have kp14 : Keep TT kn H1 H4 := (Keep.of s3).trans kp4
        have hD4 := kp14.lst hk1 hD1
        obtain ⟨kvs4, hk4⟩ := hA4.kn
        have nDk : kn ≠ D := ne_of hk4 hD4 (by intro z; cases z)
        have kp5 : Keep TT kn H (upd H4 D (.lst (((List.range i).map fun k => nV (Md49.sizeOf_ M.toS (ns.take (k + 2)))) ++ [nV (Md49.sizeOf_ M.toS (ns.take (i + 2)))]))) := by
          have kp04 := kp1.trans kp14
          refine ⟨fun b o e n t => ?_, fun b e => kp04.back b (upd_back e), fun t => tabs_but (kp04.tabs t) hD4 (by intro ps z; cases z) (by intro c q z; unfold LamX.CodeO at z; cases z) ((But.of_same (Same.refl _)).upd)⟩
          rw [upd_ne (ne_of_none e hD)]
          exact kp04.stay b o e n t
        refine ⟨_, hD4, by rw [List.length_map, List.length_range]; show _ < 2 ^ 24; omega, kp5, ?_, ?_⟩
        · obtain ⟨kv, q1, q2⟩ := hA4.known
          exact hA.after kp5 ⟨kv, by rw [upd_ne nDk]; exact q1, q2⟩
        · rw [upd_same, List.range_succ, List.map_append]
          rfl
      refine ⟨rfl, _, rfl, a, dx, _, rfl, hi1, fs2_no, _, rfl, _, rfl, _, rfl, ?_⟩
      rw [e2]
      rcases hseq H1 kp1 with h | h
      · refine .inl ⟨lo, _, rfl, h, fun q hq => cont _ q (same_upd hq) (.inl ?_)⟩
        rw [cut_to, ← List.map_take]
        exact SqL.of upd_same
      · refine .inr ⟨lo, _, rfl, h, fun hw => cont _ lo (Same.refl _) (.inr ?_), fun _ q hq => cont _ q (same_upd hq) (.inr ?_)⟩
        · have h2 := hw.2
          rw [HT.sIx_nat, List.length_map] at h2
          rw [List.take_of_length_le (by omega)]
          exact h
        · rw [cut_to, ← List.map_take]
          exact SqT.of upd_same
    · rintro H1 ⟨kp1, hA1, hD1⟩
      refine ⟨D, (List.range (ns.length - 1)).map fun k => ((Md49.sizeOf_ M.toS (ns.take (k + 2)) : Nat) : Int), rfl, ?_, ?_⟩
      · have h := SqL.of (K := K) hD1
        rw [List.map_map]
        exact h
      · have e : ((List.range (ns.length - 1)).map fun k => ((Md49.sizeOf_ M.toS (ns.take (k + 2)) : Nat) : Int)).sum = ((Md49.orderCost M.toS ns : Nat) : Int) := by
          unfold Md49.orderCost
          rw [← sum_cast, List.map_map]
          rfl
        rw [e]
        exact k H1 kp1 hA1
end
end Jp
namespace Jp
open PySem PySem.Spec PyProof.Rows L2
/-! ### all orders, all first sides: as the program makes them -/
theorem fm_len {α β : Type} (f : α → List β) (n : Nat) : ∀ l : List α, (∀ a ∈ l, (f a).length ≤ n) → (l.flatMap f).length ≤ l.length * n
  | [], _ => Nat.zero_le _
  | a :: l, h => by
    rw [List.flatMap_cons, List.length_append, List.length_cons, Nat.succ_mul]
    have h1 := h a List.mem_cons_self
    have h2 := fm_len f n l fun b hb => h b (List.mem_cons_of_mem _ hb)
    omega
theorem lenM_len (n : Nat) (os : List (List Nat)) : (lenM n os).length ≤ os.length * n := by
  refine fm_len _ n os fun o _ => ?_
  rw [List.length_map]
  exact Nat.le_trans (List.length_filter_le _ _) (by rw [List.length_range]; exact Nat.le_refl _)
theorem ordersK_len (n : Nat) : ∀ k, (ordersK n k).length ≤ n ^ k
  | 0 => Nat.le_refl _
  | k + 1 => by
    have h := lenM_len n (ordersK n k)
    have h2 := Nat.mul_le_mul_right n (ordersK_len n k)
    rw [Nat.pow_succ]
    exact Nat.le_trans h h2
theorem ordersK_ne {n : Nat} : ∀ {k : Nat}, k ≤ n → ordersK n k ≠ [] := by
  intro k hk e
  have : List.range k ∈ ordersK n k := mem_ordersK.mpr ⟨List.length_range, List.nodup_range, fun a ha => by have := List.mem_range.mp ha; omega⟩
  rw [e] at this
  cases this
theorem get_mapA {α β : Type} {f : α → β} {l : List α} {i : Nat} {y : β} (h : (l.map f)[i]? = some y) : ∃ z, l[i]? = some z ∧ y = f z := by
  rw [List.getElem?_map] at h
  cases e : l[i]? with
  | none => rw [e] at h; cases h
  | some z => rw [e] at h; exact ⟨z, rfl, (Option.some.inj h).symm⟩
/-- t + (a,), the slots 3 and 4 -/
theorem one_more {K : PySem.W.Frag} {H : Hp} {q : Addr} {o : List Nat} {a : Nat} {v0 v1 v2 : Option V} {Q : VK} (hq : TupN H q o) (hl : o.length ≤ 1000) (k : ∀ z H', Same H H' → TupN H' z (o ++ [a]) → Q (.ref z) H') :
    tOp (rCatA K) (tVar 3) (tTup (tCons (tVar 4) tNil)) [v0, v1, v2, some (.ref q), some (nV a)] H Q := by
  refine ⟨_, rfl, _, rfl, (by show 1 ≤ sizeLine; decide), fun t ht => ?_⟩
  exact cat_one (same_upd ht _ _ hq) upd_same hl fun H' z s' hz => k z H' ((same_upd ht).trans s') hz
def spLengthened : Sp := fun vs H Q _ => ∃ (lo : Addr) (n : Nat) (os : List (List Nat)), vs = [.ref lo, nV n] ∧ TupsAt H lo os ∧ os.length * n ≤ 1000000 ∧ n ≤ 1000 ∧ (∀ o ∈ os, o.length ≤ 1000) ∧
  ∀ H' p, Same H H' → H p = none → TupsAt H' p (lenM n os) → Q (.ref p) H'
def spAllOrders : Sp := fun vs H Q _ => ∃ n : Nat, vs = [nV n] ∧ n ≤ 5 ∧ ∀ H' p, Same H H' → H p = none → TupsAt H' p (ordersK n n) → Q (.ref p) H'
section
variable {P : Program} {w : World} {K : PySem.W.Frag} {mg : Str → Option Value} {base : Heap}
theorem sc_le : FnScope ["orders", "how_many", "longer", "order", "atom"] ["orders", "how_many"] (defScope sLengthened) := ⟨rfl, rfl, rfl, by decide +kernel, rfl, by decide +kernel, by decide +kernel⟩
theorem ok_lengthened (F : Has K mg "lengthened" sLengthened ["orders", "how_many"]) (N : Plain mg) : Ok P w K mg base "lengthened" 1 ["orders", "how_many"] spLengthened := by
  obtain ⟨f, fd, F, M, kp, b⟩ := F
  refine ⟨f, fd, F.ok sc_le (fun vs H Q E h => ?_) (fun cdv A outer s H vs Q E hr h => ?_), M, kp, b⟩
  · obtain ⟨lo, n, os, rfl, _⟩ := h
    rfl
  · obtain ⟨lo, n, os, rfl, ⟨as, hlo, has⟩, hz, hn, hol, k⟩ := h
    refine ⟨_, pss_cons (ps_set (i := 2) sc_le.nd rfl (Or.inl rfl) (pe_lst pa_nil))
      (pss_cons (ps_for PassesOwn.never rfl (pi_list (pv 0)) (pg_name (i := 3) sc_le.nd rfl (Or.inr rfl))
        (pss_one (ps_expr (pe_bm PySem.F.plainAttrs_list PySem.F.slot_list_extend PySem.F.type_list_extend mt_extend (pv 2) (pa_cons
          (pe_lc (own := [("atom", 4)]) (g := gName 4) rfl sc_le.nd (pi_range1 rfl N.range (pa_cons (pv 1) pa_nil)) (blkOk_by (N := ["orders", "how_many", "longer", "order", "atom"]) (sc := defScope sLengthened) (by decide +kernel))
            (fun _ _ _ _ _ => pg_name (i := 4) sc_le.nd rfl (Or.inl rfl)) (fun _ _ _ _ _ => pts_one (pt_cmpR (opNotIn K) (pv 4) (pv 3) (by rfl))) (fun _ _ _ _ _ => pe_op (opCatA K) (pv 3) (pe_tup (pa_cons (pv 4) pa_nil)))) pa_nil)))))
      (pss_one (ps_ret (pv 2)))), ?_⟩
    refine ⟨Nat.zero_le _, fun ll hll => ?_⟩
    have s1 : Same H (upd H ll (.lst [])) := same_upd hll
    have hll1 : upd H ll (.lst []) ll = some (.lst (([] : List Addr).map V.ref)) := upd_same
    generalize upd H ll (.lst []) = H1 at s1 hll1
    refine ⟨_, rfl, lo, rfl, ⟨_, SqL.of (s1 _ _ hlo)⟩, ?_⟩
    refine for_list (K := K) (a := lo) (xs := as.map V.ref) (fun i σ H' => ∃ (v3 : Option V) (ts : List Addr), σ = [some (.ref lo), some (nV n), some (.ref ll), v3, none] ∧ Same H H' ∧ H' ll = some (.lst (ts.map V.ref)) ∧ AllAt (TupN H') ts (lenM n (os.take i)))
      ⟨none, [], rfl, s1, hll1, AllAt.nil⟩ (fun i σ H' _ ⟨_, _, _, s', _⟩ => SqL.of (s' _ _ hlo)) ?_ ?_
    · rintro i y σ H2 hi ⟨v3, ts, rfl, s2, hll2, hts⟩
      obtain ⟨q, hq, rfl⟩ := get_map hi
      obtain ⟨o, ho, hqo⟩ := has.get hq
      have hol' := hol o (List.mem_of_getElem? ho)
      have hqo2 : TupN H2 q o := s2 _ _ hqo
      refine ⟨_, rfl, .inl ⟨rfl, _, SqL.of hll2⟩, _, rfl, _, rfl, (by omega), (by omega), fun D hD => ?_⟩
      refine lc_fmade (as := List.range n) (F := nV) (fun a => !o.contains a) walk_range (fun m H x H' hm y => ⟨y.1, by rw [List.getElem?_map, List.getElem?_range (by omega), y.2]; exact congrArg some (nV_zero m).symm⟩) (by rw [List.length_range]; omega) (fun _ _ => trivial) hD (by show _ ≤ 2 ^ 24; omega)
        (fun a z H' => TupN H' z (o ++ [a])) (fun a z H' H'' acc h1 bt h2 => bt _ _ h2 (ne_of h2 h1 (by intro e; cases e))) ?_ ?_
      · intro a H3 acc Ny Nn ha s3 hD3 hy hn'
        refine ⟨rfl, _, rfl, _, rfl, q, _, rfl, Or.inr (SqT.of (s3 _ _ hqo2)), rfl, flat_nVs _, _, rfl, ?_⟩
        rw [inV_nV]
        show if (!decide (a ∈ o)) = true then _ else _
        have ec : (!o.contains a) = !decide (a ∈ o) := by rw [List.contains_eq_mem]
        cases hc : !decide (a ∈ o) with
        | true => exact iteT (one_more (s3 _ _ hqo2) (by omega) (hy (ec.trans hc)))
        | false => exact iteF (hn' (ec.trans hc) _ (Same.refl _))
      · intro H3 zs s3 hD3 hzs
        have hll3 := s3 _ _ hll2
        have nlD : ll ≠ D := ne_of_none hll2 hD
        have hlen : ts.length + zs.length ≤ 1000000 := by
          have h1 := lenM_len n (os.take (i + 1))
          have h2 : (os.take (i + 1)).length * n ≤ os.length * n := Nat.mul_le_mul_right _ (by rw [List.length_take]; omega)
          have h3 : (lenM n (os.take (i + 1))).length = ts.length + zs.length := by
            unfold lenM
            rw [take_snoc ho, List.flatMap_append, List.length_append, hts.1, hzs.1]
            unfold lenM
            simp
          omega
        refine ⟨ll, D, _, _, rfl, rfl, hll3, hD3, (by rw [List.length_map, List.length_map]; show _ ≤ 2 ^ 24; omega), _, ts ++ zs, rfl, fun b o e => ?_, ?_, ?_⟩
        · rw [upd_ne (ne_of_none e hll)]
          exact s3 _ _ (s2 _ _ e)
        · rw [upd_same, List.map_append]
        · have up : ∀ p l, TupN H3 p l → TupN (upd H3 ll (.lst (ts.map V.ref ++ zs.map V.ref))) p l := fun p l e => by
            show upd _ _ _ _ = _
            rw [upd_ne (ne_of e hll3 (by intro z; cases z))]
            exact e
          unfold lenM
          rw [take_snoc ho, List.flatMap_append]
          refine (hts.mono fun p l _ e => up p l (s3 _ _ e)).append ?_
          rw [List.flatMap_cons, List.flatMap_nil, List.append_nil]
          refine ⟨by rw [List.length_map]; exact hzs.1, fun j p x h1 h2 => ?_⟩
          obtain ⟨u, hu, rfl⟩ := get_mapA h2
          exact up p _ (hzs.2 j p u h1 hu)
    · rintro σ H2 ⟨v3, ts, rfl, s2, hll2, hts⟩
      rw [List.length_map, has.1, List.take_length] at hts
      exact ⟨_, rfl, k H2 ll s2 hll ⟨ts, hll2, hts⟩⟩
theorem sc_ao : FnScope ["how_many", "orders"] ["how_many"] (defScope sAllOrders) := ⟨rfl, rfl, rfl, by decide +kernel, rfl, by decide +kernel, by decide +kernel⟩
theorem ok_allOrders (F : Has K mg "all_orders" sAllOrders ["how_many"]) (N : Plain mg) (G : Ok P w K mg base "lengthened" 1 ["orders", "how_many"] spLengthened) : Ok P w K mg base "all_orders" 2 ["how_many"] spAllOrders := by
  obtain ⟨f, fd, F, M, kp, b⟩ := F
  refine ⟨f, fd, F.ok sc_ao (fun vs H Q E h => ?_) (fun cdv A outer s H vs Q E hr h => ?_), M, kp, b⟩
  · obtain ⟨n, rfl, _⟩ := h
    rfl
  · obtain ⟨n, rfl, hn, k⟩ := h
    refine ⟨_, pss_cons (ps_set (i := 1) sc_ao.nd rfl (Or.inl rfl) (pe_lst (pa_cons (pe_tup pa_nil) pa_nil)))
      (pss_cons (ps_while PassesOwn.never (pt_cmpR op_lt (pe_callB call_len_seq (by rfl) N.len PySem.boot_len (pa_cons (pe_ix (ixL K) (pv 1) pe_int (fun _ _ => rfl)) pa_nil)) (pv 0) (nomark _))
        (pss_one (ps_set (i := 1) sc_ao.nd rfl (Or.inl rfl) (pe_ok G hr rfl (pa_cons (pv 1) (pa_cons (pv 0) pa_nil))))))
      (pss_one (ps_ret (pv 1)))), ?_⟩
    refine ⟨Nat.zero_le _, fun t ht => ⟨(by show 1 ≤ sizeLine; decide), fun lo hlo => ?_⟩⟩
    have s1 : Same H (upd (upd H t (.tup [])) lo (.lst [.ref t])) := (same_upd ht).trans (same_upd hlo)
    have hlo1 : TupsAt (upd (upd H t (.tup [])) lo (.lst [.ref t])) lo (ordersK n 0) := ⟨[t], upd_same, rfl, fun i p x h1 h2 => by
      cases i with
      | zero =>
        cases h1
        cases h2
        exact same_upd hlo _ _ upd_same
      | succ i => simp at h1⟩
    have nlo : H lo = none := (same_upd ht).free hlo
    generalize upd (upd H t (.tup [])) lo (.lst [.ref t]) = H1 at s1 hlo1
    refine ⟨fun m σ H' => ∃ (lo : Addr) (j : Nat), σ = [some (nV n), some (.ref lo)] ∧ Same H H' ∧ H lo = none ∧ j ≤ n ∧ m = n - j ∧ TupsAt H' lo (ordersK n j), ⟨_, lo, 0, rfl, s1, nlo, Nat.zero_le _, rfl, hlo1⟩, ?_⟩
    rintro m σ H2 ⟨lo, j, rfl, s2, nlo, hj, rfl, ⟨as, hlo2, has⟩⟩
    obtain ⟨q, hq⟩ : ∃ q, (ordersK n j)[0]? = some q := by
      cases e : ordersK n j with
      | nil => exact absurd e (ordersK_ne hj)
      | cons x l => exact ⟨x, rfl⟩
    obtain ⟨p, hp, hpq⟩ := has.at hq
    have hql := (mem_ordersK.mp (List.mem_of_getElem? hq)).1
    refine ⟨_, rfl, lo, _, 0, .ref p, rfl, rfl, SqL.of hlo2, atI_nat (j := 0) (by rw [List.getElem?_map, hp]; rfl), p, _, rfl, Or.inr (SqT.of hpq), _, rfl, _, _, rfl, rfl, _, rfl, ?_⟩
    rw [List.length_map, hql]
    by_cases hjn : j < n
    · refine ifT (decide_eq_true (by omega)) ⟨_, fun _ _ h => h, ?_⟩
      have hb : (ordersK n j).length ≤ 5 ^ 5 := Nat.le_trans (ordersK_len n j) (Nat.le_trans (Nat.pow_le_pow_left hn j) (Nat.pow_le_pow_right (by decide) (by omega)))
      have hb2 : (ordersK n j).length * n ≤ 5 ^ 5 * 5 := Nat.mul_le_mul hb hn
      refine ⟨_, rfl, _, rfl, lo, n, ordersK n j, rfl, ⟨as, hlo2, has⟩, Nat.le_trans hb2 (by decide), by omega, (fun o ho => by rw [(mem_ordersK.mp ho).1]; omega), fun H3 p3 s3 np3 hp3 => ?_⟩
      exact ⟨n - (j + 1), by omega, p3, j + 1, rfl, s2.trans s3, s2.free np3, hjn, rfl, hp3⟩
    · have e : j = n := by omega
      subst e
      exact ifF (decide_eq_false (by omega)) ⟨_, rfl, k H2 lo s2 nlo ⟨as, hlo2, has⟩⟩
end
end Jp
namespace Jp
open PySem PySem.Spec PyProof.Rows L2
theorem widenM_len (some : List Nat) (ss : List (List Nat)) : (widenM some ss).length ≤ ss.length * some.length := by
  refine fm_len _ _ ss fun o _ => ?_
  rw [List.length_map]
  exact List.length_filter_le _ _
theorem sidesK_len (some : List Nat) : ∀ k, (sidesK some k).length ≤ some.length ^ k
  | 0 => Nat.le_refl _
  | k + 1 => by
    have h := widenM_len some (sidesK some k)
    have h2 := Nat.mul_le_mul_right some.length (sidesK_len some k)
    rw [Nat.pow_succ]
    exact Nat.le_trans h h2
def spWidened : Sp := fun vs H Q _ => ∃ (ls t : Addr) (some : List Nat) (ss : List (List Nat)), vs = [.ref ls, .ref t] ∧ TupsAt H ls ss ∧ TupN H t some ∧ ss.length * some.length ≤ 1000000 ∧ some.length ≤ 1000 ∧ (∀ s ∈ ss, s ≠ [] ∧ s.length ≤ 1000) ∧
  ∀ H' p, Same H H' → H p = none → TupsAt H' p (widenM some ss) → Q (.ref p) H'
def spFirstSides : Sp := fun vs H Q _ => ∃ (t : Addr) (some : List Nat), vs = [.ref t] ∧ TupN H t some ∧ some.Pairwise (· < ·) ∧ 2 ≤ some.length ∧ some.length ≤ 5 ∧
  ∀ H' p, Same H H' → H p = none → TupsAt H' p (firstSidesM some) → Q (.ref p) H'
theorem last_at {s : List Nat} (h : s ≠ []) : atI (s.map nV) (-1) = some (nV (lastOf s)) := by
  obtain ⟨l, a, rfl⟩ : ∃ l a, s = l ++ [a] := ⟨_, _, (List.dropLast_concat_getLast h).symm⟩
  rw [List.map_append]
  have e : lastOf (l ++ [a]) = a := by
    unfold lastOf
    rw [List.getLastD_eq_getLast?, List.getLast?_append]
    rfl
  rw [e]
  exact atI_last _ _
section
variable {P : Program} {w : World} {K : PySem.W.Frag} {mg : Str → Option Value} {base : Heap}
theorem sc_wd : FnScope ["sides", "some", "wider", "side", "atom"] ["sides", "some"] (defScope sWidened) := ⟨rfl, rfl, rfl, by decide +kernel, rfl, by decide +kernel, by decide +kernel⟩
theorem ok_widened (F : Has K mg "widened" sWidened ["sides", "some"]) : Ok P w K mg base "widened" 1 ["sides", "some"] spWidened := by
  obtain ⟨f, fd, F, M, kp, b⟩ := F
  refine ⟨f, fd, F.ok sc_wd (fun vs H Q E h => ?_) (fun cdv A outer s H vs Q E hr h => ?_), M, kp, b⟩
  · obtain ⟨ls, t, some, ss, rfl, _⟩ := h
    rfl
  · obtain ⟨lo, t, sm, os, rfl, ⟨as, hlo, has⟩, ht, hz, hn, hol, k⟩ := h
    refine ⟨_, pss_cons (ps_set (i := 2) sc_wd.nd rfl (Or.inl rfl) (pe_lst pa_nil))
      (pss_cons (ps_for PassesOwn.never rfl (pi_list (pv 0)) (pg_name (i := 3) sc_wd.nd rfl (Or.inr rfl))
        (pss_one (ps_expr (pe_bm PySem.F.plainAttrs_list PySem.F.slot_list_extend PySem.F.type_list_extend mt_extend (pv 2) (pa_cons
          (pe_lc (own := [("atom", 4)]) (g := gName 4) rfl sc_wd.nd (pi_tup (pv 1)) (blkOk_by (N := ["sides", "some", "wider", "side", "atom"]) (sc := defScope sWidened) (by decide +kernel))
            (fun _ _ _ _ _ => pg_name (i := 4) sc_wd.nd rfl (Or.inl rfl)) (fun _ _ _ _ _ => pts_one (pt_cmpR op_gt (pv 4) (pe_ix (ixT K) (pv 3) (pe_un un_neg pe_int) (fun _ _ => rfl)) (nomark _))) (fun _ _ _ _ _ => pe_op (opCatA K) (pv 3) (pe_tup (pa_cons (pv 4) pa_nil)))) pa_nil)))))
      (pss_one (ps_ret (pv 2)))), ?_⟩
    refine ⟨Nat.zero_le _, fun ll hll => ?_⟩
    have s1 : Same H (upd H ll (.lst [])) := same_upd hll
    have hll1 : upd H ll (.lst []) ll = some (.lst (([] : List Addr).map V.ref)) := upd_same
    generalize upd H ll (.lst []) = H1 at s1 hll1
    refine ⟨_, rfl, lo, rfl, ⟨_, SqL.of (s1 _ _ hlo)⟩, ?_⟩
    refine for_list (K := K) (a := lo) (xs := as.map V.ref) (fun i σ H' => ∃ (v3 : Option V) (ts : List Addr), σ = [some (.ref lo), some (.ref t), some (.ref ll), v3, none] ∧ Same H H' ∧ H' ll = some (.lst (ts.map V.ref)) ∧ AllAt (TupN H') ts (widenM sm (os.take i)))
      ⟨none, [], rfl, s1, hll1, AllAt.nil⟩ (fun i σ H' _ ⟨_, _, _, s', _⟩ => SqL.of (s' _ _ hlo)) ?_ ?_
    · rintro i y σ H2 hi ⟨v3, ts, rfl, s2, hll2, hts⟩
      obtain ⟨q, hq, rfl⟩ := get_map hi
      obtain ⟨o, ho, hqo⟩ := has.get hq
      obtain ⟨hon, hol'⟩ := hol o (List.mem_of_getElem? ho)
      have hqo2 : TupN H2 q o := s2 _ _ hqo
      have ht2 : TupN H2 t sm := s2 _ _ ht
      refine ⟨_, rfl, .inl ⟨rfl, _, SqL.of hll2⟩, _, rfl, t, rfl, ⟨_, SqT.of ht2⟩, fun D hD => ?_⟩
      refine lc_fmade (as := sm) (F := nV) (fun a => decide (lastOf o < a)) walk_tup (fun i H x H' _ y => y) (by rw [List.length_map]) (fun H' s' => SqT.of (s' _ _ ht2)) hD (by rw [List.length_map]; show _ ≤ 2 ^ 24; omega)
        (fun a z H' => TupN H' z (o ++ [a])) (fun a z H' H'' acc h1 bt h2 => bt _ _ h2 (ne_of h2 h1 (by intro e; cases e))) ?_ ?_
      · intro a H3 acc Ny Nn ha s3 hD3 hy hn'
        refine ⟨rfl, _, rfl, _, rfl, 1, rfl, q, _, _, nV (lastOf o), rfl, rfl, SqT.of (s3 _ _ hqo2), last_at hon, _, _, rfl, rfl, _, rfl, ?_⟩
        show if (decide ((lastOf o : Int) < (a : Int))) = true then _ else _
        have ec : decide (lastOf o < a) = decide ((lastOf o : Int) < (a : Int)) := by
          rw [decide_eq_decide]
          omega
        cases hc : decide ((lastOf o : Int) < (a : Int)) with
        | true => exact iteT (one_more (s3 _ _ hqo2) (by omega) (hy (ec.trans hc)))
        | false => exact iteF (hn' (ec.trans hc) _ (Same.refl _))
      · intro H3 zs s3 hD3 hzs
        have hll3 := s3 _ _ hll2
        have hlen : ts.length + zs.length ≤ 1000000 := by
          have h1 := widenM_len sm (os.take (i + 1))
          have h2 : (os.take (i + 1)).length * sm.length ≤ os.length * sm.length := Nat.mul_le_mul_right _ (by rw [List.length_take]; omega)
          have h3 : (widenM sm (os.take (i + 1))).length = ts.length + zs.length := by
            unfold widenM
            rw [take_snoc ho, List.flatMap_append, List.length_append, hts.1, hzs.1]
            unfold widenM
            simp
          omega
        refine ⟨ll, D, _, _, rfl, rfl, hll3, hD3, (by rw [List.length_map, List.length_map]; show _ ≤ 2 ^ 24; omega), _, ts ++ zs, rfl, fun b o e => ?_, ?_, ?_⟩
        · rw [upd_ne (ne_of_none e hll)]
          exact s3 _ _ (s2 _ _ e)
        · rw [upd_same, List.map_append]
        · have up : ∀ p l, TupN H3 p l → TupN (upd H3 ll (.lst (ts.map V.ref ++ zs.map V.ref))) p l := fun p l e => by
            show upd _ _ _ _ = _
            rw [upd_ne (ne_of e hll3 (by intro z; cases z))]
            exact e
          unfold widenM
          rw [take_snoc ho, List.flatMap_append]
          refine (hts.mono fun p l _ e => up p l (s3 _ _ e)).append ?_
          rw [List.flatMap_cons, List.flatMap_nil, List.append_nil]
          refine ⟨by rw [List.length_map]; exact hzs.1, fun j p x h1 h2 => ?_⟩
          obtain ⟨u, hu, rfl⟩ := get_mapA h2
          exact up p _ (hzs.2 j p u h1 hu)
    · rintro σ H2 ⟨v3, ts, rfl, s2, hll2, hts⟩
      rw [List.length_map, has.1, List.take_length] at hts
      exact ⟨_, rfl, k H2 ll s2 hll ⟨ts, hll2, hts⟩⟩
theorem sc_fs : FnScope ["some", "found", "sides"] ["some"] (defScope sFirstSides) := ⟨rfl, rfl, rfl, by decide +kernel, rfl, by decide +kernel, by decide +kernel⟩
theorem ok_firstSides (F : Has K mg "first_sides" sFirstSides ["some"]) (N : Plain mg) (G : Ok P w K mg base "widened" 1 ["sides", "some"] spWidened) : Ok P w K mg base "first_sides" 2 ["some"] spFirstSides := by
  obtain ⟨f, fd, F, M, kp, b⟩ := F
  refine ⟨f, fd, F.ok sc_fs (fun vs H Q E h => ?_) (fun cdv A outer s H vs Q E hr h => ?_), M, kp, b⟩
  · obtain ⟨t, sm, rfl, _⟩ := h
    rfl
  · obtain ⟨t, sm, rfl, ht, hpw, h2, h5, k⟩ := h
    refine ⟨_, pss_cons (ps_set (i := 1) sc_fs.nd rfl (Or.inl rfl) (pe_lst pa_nil))
      (pss_cons (ps_set (i := 2) sc_fs.nd rfl (Or.inl rfl) (pe_lst (pa_cons (pe_slice sl_tup (pv 0) po_none (po_some pe_int)) pa_nil)))
      (pss_cons (ps_while PassesOwn.never (pt_cmpR op_lt (pe_callB call_len_seq (by rfl) N.len PySem.boot_len (pa_cons (pe_ix (ixL K) (pv 2) pe_int (fun _ _ => rfl)) pa_nil)) (pe_callB call_len_seq (by rfl) N.len PySem.boot_len (pa_cons (pv 0) pa_nil)) (nomark _))
        (pss_cons (ps_expr (pe_bm PySem.F.plainAttrs_list PySem.F.slot_list_extend PySem.F.type_list_extend mt_extend (pv 1) (pa_cons (pv 2) pa_nil)))
        (pss_one (ps_set (i := 2) sc_fs.nd rfl (Or.inl rfl) (pe_ok G hr rfl (pa_cons (pv 2) (pa_cons (pv 0) pa_nil)))))))
      (pss_one (ps_ret (pv 1))))), ?_⟩
    refine ⟨Nat.zero_le _, fun lf hlf => ?_⟩
    have s1 : Same H (upd H lf (.lst [])) := same_upd hlf
    have hlf1 : upd H lf (.lst []) lf = some (.lst (([] : List Addr).map V.ref)) := upd_same
    generalize upd H lf (.lst []) = H1 at s1 hlf1
    have hne : sm ≠ [] := fun z => by rw [z] at h2; simp at h2
    refine ⟨_, rfl, _, rfl, t, _, rfl, SqT.of (s1 _ _ ht), (fun z => by have h := z.2; rw [show (1 : Int) = ((1 : Nat) : Int) from rfl, HT.sIx_nat, List.length_map] at h; omega), fun q hq => ⟨(by show 1 ≤ sizeLine; decide), fun ls hls => ?_⟩⟩
    have ecut : cutV (sm.map nV) none (some 1) = (sm.take 1).map nV := (cut_to (i := 1)).trans List.map_take.symm
    rw [ecut] at hls ⊢
    have s2 : Same H1 (upd (upd H1 q (.tup ((sm.take 1).map nV))) ls (.lst [.ref q])) := (same_upd hq).trans (same_upd hls)
    have hls2 : TupsAt (upd (upd H1 q (.tup ((sm.take 1).map nV))) ls (.lst [.ref q])) ls (sidesK sm 0) := ⟨[q], upd_same, rfl, fun i p x h1 h2 => by
      cases i with
      | zero =>
        cases h1
        cases h2
        exact same_upd hls _ _ upd_same
      | succ i => simp at h1⟩
    have nls : lf ≠ ls := fun z => by
      have := same_upd (o := HO.tup ((sm.take 1).map nV)) hq _ _ hlf1
      rw [z, hls] at this
      cases this
    generalize upd (upd H1 q (.tup ((sm.take 1).map nV))) ls (.lst [.ref q]) = H2 at s2 hls2
    refine ⟨fun m σ H' => ∃ (ls : Addr) (j : Nat) (ts : List Addr), σ = [some (.ref t), some (.ref lf), some (.ref ls)] ∧ Same H H' ∧ lf ≠ ls ∧ j + 1 ≤ sm.length ∧ m = sm.length - j ∧ TupsAt H' ls (sidesK sm j) ∧ H' lf = some (.lst (ts.map V.ref)) ∧ AllAt (TupN H') ts ((List.range j).flatMap (sidesK sm)),
      ⟨_, ls, 0, [], rfl, s1.trans s2, nls, by omega, rfl, hls2, s2 _ _ hlf1, AllAt.nil⟩, ?_⟩
    rintro m σ H3 ⟨ls, j, ts, rfl, s3, nls, hj, rfl, ⟨as, hls3, has⟩, hlf3, hts⟩
    obtain ⟨x, hx⟩ : ∃ x, (sidesK sm j)[0]? = some x := by
      cases e : sidesK sm j with
      | nil => exact absurd e (sidesK_some hpw (by omega))
      | cons x l => exact ⟨x, rfl⟩
    obtain ⟨p, hp, hpx⟩ := has.at hx
    have hxl := (mem_sidesK hpw hne (List.mem_of_getElem? hx)).1
    refine ⟨_, rfl, ls, _, 0, .ref p, rfl, rfl, SqL.of hls3, atI_nat (j := 0) (by rw [List.getElem?_map, hp]; rfl), p, _, rfl, Or.inr (SqT.of hpx), _, rfl, t, _, rfl, Or.inr (SqT.of (s3 _ _ ht)), _, _, rfl, rfl, _, rfl, ?_⟩
    rw [List.length_map, List.length_map, hxl]
    have hb : ∀ k, k ≤ 5 → (sidesK sm k).length ≤ 5 ^ 5 := fun k hk => Nat.le_trans (sidesK_len sm k) (Nat.le_trans (Nat.pow_le_pow_left h5 k) (Nat.pow_le_pow_right (by decide) hk))
    by_cases hjn : j + 1 < sm.length
    · refine ifT (decide_eq_true (by omega)) ⟨_, fun _ _ h => h, ?_⟩
      have h55 : (5 : Nat) ^ 5 = 3125 := by decide
      have hb1 := hb j (by omega)
      have hbt : ts.length ≤ j * 3125 := by
        rw [hts.1]
        have h := fm_len (sidesK sm) 3125 (List.range j) fun k hk => by
          have := hb k (by have := List.mem_range.mp hk; omega)
          omega
        rw [List.length_range] at h
        exact h
      refine ⟨_, rfl, .inl ⟨rfl, _, SqL.of hlf3⟩, _, rfl, lf, ls, _, _, rfl, rfl, hlf3, hls3, (by rw [List.length_map, List.length_map, has.1]; show _ ≤ 2 ^ 24; omega), ?_⟩
      have b4 : But lf H3 (upd H3 lf (.lst (ts.map V.ref ++ as.map V.ref))) := (But.of_same (Same.refl _)).upd
      have hlf4 : upd H3 lf (.lst (ts.map V.ref ++ as.map V.ref)) lf = some (.lst ((ts ++ as).map V.ref)) := by rw [upd_same, List.map_append]
      generalize upd H3 lf (.lst (ts.map V.ref ++ as.map V.ref)) = H4 at b4 hlf4
      have up : ∀ p l, TupN H3 p l → TupN H4 p l := fun p l e => b4 _ _ e (ne_of e hlf3 (by intro z; cases z))
      have s4 : Same H H4 := fun b o e => b4 _ _ (s3 _ _ e) (ne_of_none e hlf)
      have hb2 : (sidesK sm j).length * sm.length ≤ 3125 * 5 := Nat.mul_le_mul (by omega) h5
      refine ⟨_, rfl, _, rfl, ls, t, sm, sidesK sm j, rfl, ⟨as, b4 _ _ hls3 nls.symm, has.mono fun p l _ e => up p l e⟩, s4 _ _ ht, by omega, by omega, (fun y hy => ?_), fun H5 p5 s5 np5 hp5 => ?_⟩
      · obtain ⟨e1, _⟩ := mem_sidesK hpw hne hy
        exact ⟨fun z => by rw [z] at e1; simp at e1, by omega⟩
      · refine ⟨sm.length - (j + 1), by omega, p5, j + 1, ts ++ as, rfl, s4.trans s5, fun z => ?_, by omega, rfl, hp5, s5 _ _ hlf4, ?_⟩
        · rw [← z, hlf4] at np5
          cases np5
        · rw [List.range_succ, List.flatMap_append, List.flatMap_cons, List.flatMap_nil, List.append_nil]
          exact (hts.mono fun p l _ e => s5 _ _ (up p l e)).append (has.mono fun p l _ e => s5 _ _ (up p l e))
    · have e : j = sm.length - 1 := by omega
      subst e
      exact ifF (decide_eq_false (by omega)) ⟨_, rfl, k H3 lf s3 hlf ⟨ts, hlf3, hts⟩⟩
end
end Jp
namespace Jp
open PySem PySem.Spec PyProof.Rows L2 LamX NdefX
/-! ### a def whose code object is known by its address -/
def HasC (K : PySem.W.Frag) (mg : Str → Option Value) (x : Str) (st : Stmt) (ps : List Str) (c : Addr) : Prop :=
  ∃ f fd, Fun K x x st f fd ∧ fd.code = .ref c ∧ mg x = some (.ref f) ∧ PySem.W.keepIn K (.ref f) = true ∧ Binds K fd ps []
theorem fun_okC {P : Program} {w : World} {K : PySem.W.Frag} {mg : Str → Option Value} {base : Heap} {x qual : Str} {st : Stmt} {f c : Addr} {fd : FuncData} {N ps : List Str} {k : Nat} {sp : Sp} (F : Fun K x qual st f fd) (hc : fd.code = .ref c) (S : FnScope N ps (defScope st)) (len : ∀ vs H Q E, sp vs H Q E → vs.length = ps.length)
    (hbody : ∀ (A : Around) (outer : List Env) (s : Shared) (H : Hp) (vs : List V) (Q : VK) (E : XK), Room k (A.deeper (envOfC qual (defScope st) s.heap.objs.size f (.ref c))) → sp vs H Q E →
      ∃ t, PSs (cxOf CX0 P w K mg base N qual (defScope st) f (.ref c) A outer s H E).nox (defBody st) t ∧ t { nx := fun _ H' => Q .non H', rt := Q } (start N vs) H) : FnOk P w K mg base CX0 (k + 1) f fd ps sp := by
  obtain ⟨oc, od, kV, doc, pm, an, cdv, ct, osl, rfl, lk, hcd⟩ := F.ex
  have e : cdv = .ref c := hc
  subst e
  refine fn_of lk hcd S len fun A outer s H vs Q E hr hsp => ?_
  obtain ⟨t, h, q⟩ := hbody A outer s H vs Q E hr hsp
  exact ⟨t, h.nox, q⟩
theorem CountsAt.ext {CW CP : Addr} {H H' : Hp} {a lp kn : Addr} {M : Mir} {T : List (Addr × Str)} (h : CountsAt CW CP H a lp kn M) (s : Ext H H') (t : Tabs T H') : CountsAt CW CP H' a lp kn M := by
  obtain ⟨kvs, e1, e2⟩ := h.known
  exact h.after (Keep.ext s t) ⟨kvs, s.stay _ _ e1 (by intro ps z; cases z), e2⟩
def spCheapestOrder (T : List (Addr × Str)) (CW CP : Addr) : Sp := fun vs H Q _ => ∃ (a lp kn : Addr) (M : Mir), vs = [.ref a] ∧ CountsAt CW CP H a lp kn M ∧ Tabs T H ∧
  ∀ H' t, Keep T kn H H' → CountsAt CW CP H' a lp kn M → TupN H' t (Md49.bestOrder M.toS) → Q (.ref t) H'
section
variable {P : Program} {w : World} {K : PySem.W.Frag} {mg : Str → Option Value} {base : Heap} {CW CP c1 P1 : Addr} {TT : List (Addr × Str)}
theorem sc_co : FnScope ["counts"] ["counts"] (defScope sCheapestOrder) := ⟨rfl, rfl, rfl, by decide +kernel, rfl, by decide +kernel, by decide +kernel⟩
def qCheap : Str := (envOfC "cheapest_order" (defScope sCheapestOrder) 0 0 .none).qual ++ "<lambda>"
theorem ok_cheapestOrder (F : HasC K mg "cheapest_order" sCheapestOrder ["counts"] c1) (TB : TabB base mg c1 P1) (hm1 : (P1, qCheap) ∈ TT) (hu1 : ∀ p ∈ TT, p.1 = P1 → p.2 = qCheap) (N : Plain mg) (T : Klass K mg "WayCounts" CW ["parts", "known"])
    (GO : Ok P w K mg base "all_orders" 2 ["how_many"] spAllOrders) (GC : Ok P w K mg base "order_cost" 7 ["counts", "order"] (spOrderCost TT K CW CP)) : Ok P w K mg base "cheapest_order" 10 ["counts"] (spCheapestOrder TT CW CP) := by
  obtain ⟨f, fd, F, hc, M, kp, b⟩ := F
  refine ⟨f, fd, fun_okC F hc sc_co (fun vs H Q E h => ?_) (fun A outer s H vs Q E hr h => ?_), M, kp, b⟩
  · obtain ⟨a, lp, kn, M, rfl, _⟩ := h
    rfl
  · obtain ⟨a, lp, kn, M, rfl, hA, hT, k⟩ := h
    refine ⟨_, pss_one (ps_ret (pe_minKey (T := TT) (x := "order") (fr := ["counts"]) (js := [0]) (k := 7) (N := ["order", "counts"]) (tb := tCall (spOrderCost TT K CW CP) [] E0 (tCons (tVar 1) (tCons (tVar 0) tNil))) (by rfl) N.min
      (pe_ok GO (hr.mono (by decide)) rfl (pa_cons (pe_callB call_len_seq (by rfl) N.len PySem.boot_len (pa_cons (pe_fld (pv 0) rfl) pa_nil)) pa_nil)) hr TB (by rfl) hm1 hu1 (by rfl) (nscope_by (by decide +kernel)) (by show ndefB (defScope sCheapestOrder) _ _ = true; decide +kernel) (by rfl)
      (fun _ _ _ _ _ _ => rfl) (fun A s H f c' hr => pe_ok GC hr (by rfl) (pa_cons (pv 1) (pa_cons (pv 0) pa_nil))))), ?_⟩
    obtain ⟨dx, hi⟩ := hA.ins
    obtain ⟨as, hlp, hps⟩ := hA.parts
    have wf := hA.wf
    have h5 := wf.a5
    obtain ⟨kvs, hkn⟩ := hA.kn
    have hpl : as.length = M.asked.length := by rw [hps.1, parts_list, List.length_map, List.length_range]
    refine ⟨_, rfl, a, CW, dx, _, _, rfl, hi, T.cl, T.no _ (by simp), fs2_1, lp, _, rfl, Or.inl (SqL.of hlp), M.asked.length, (by rw [List.length_map, hpl]; rfl), h5, fun H1 p s1 np ⟨os, hp, hos⟩ => ?_⟩
    have hne : 0 < os.length := by
      rw [hos.1]
      exact List.length_pos_iff.mpr (ordersK_ne (Nat.le_refl _))
    refine ⟨p, os.map V.ref, rfl, by rw [List.length_map]; exact hne, hT.ext s1, fun H2 c' ex T2 hc' => ?_⟩
    have hA2 : CountsAt CW CP H2 a lp kn M := (hA.same s1).ext ex T2
    have k02 : Keep TT kn H H2 := (Keep.of s1).trans (Keep.ext ex T2)
    have hp2 : H2 p = some (.lst (os.map V.ref)) := ex.stay _ _ hp (by intro ps z; cases z)
    obtain ⟨kvs2, hk2⟩ := hA2.kn
    refine ⟨fun i => (Md49.orderCost M.toS ((ordersK M.asked.length M.asked.length).getD i []) : Int), fun i H3 => Keep TT kn H2 H3 ∧ CountsAt CW CP H3 a lp kn M, ⟨Keep.refl _ _ _, hA2⟩, fun i H3 ⟨k3, _⟩ => ⟨SqL.of (k3.lst hk2 hp2), k3.code hk2 hc'⟩, ?_, ?_⟩
    · rintro i H3 v ⟨k3, hA3⟩ hv
      obtain ⟨q, hq, rfl⟩ := get_map hv
      obtain ⟨o, ho, hqo⟩ := hos.get hq
      have hq2 : TupN H2 q o := ex.stay _ _ hqo (by intro ps z; cases z)
      obtain ⟨e1, e2, e3⟩ := mem_ordersK.mp (List.mem_of_getElem? ho)
      refine ⟨_, rfl, _, rfl, a, q, lp, kn, M, o, rfl, hA3, .inr (SqT.of (k3.tup hk2 hq2)), e2, e3, fun H4 k4 hA4 => ⟨?_, k3.trans k4, hA4⟩⟩
      show _ = V.int ((Md49.orderCost M.toS ((ordersK M.asked.length M.asked.length).getD i []) : Nat) : Int)
      rw [List.getD_eq_getElem?_getD, ho]
      rfl
    · rintro i H3 v ⟨k3, hA3⟩ hv hl
      obtain ⟨q, hq, rfl⟩ := get_map hv
      obtain ⟨o, ho, hqo⟩ := hos.get hq
      have hq2 : TupN H2 q o := ex.stay _ _ hqo (by intro ps z; cases z)
      rw [List.length_map, hos.1] at hl
      have e := best_first (s := M.toS) (i := i) (p := o) (kf := fun i => (Md49.orderCost M.toS ((ordersK M.asked.length M.asked.length).getD i []) : Int)) (fun j x hj => by
        have hj' : (ordersK M.asked.length M.asked.length)[j]? = some x := hj
        show ((Md49.orderCost M.toS ((ordersK M.asked.length M.asked.length).getD j []) : Nat) : Int) = _
        rw [List.getD_eq_getElem?_getD, hj']
        rfl) ho hl
      refine k H3 q (k02.trans k3) hA3 ?_
      rw [e]
      exact k3.tup hk2 hq2
end
end Jp
namespace Jp
open PySem PySem.Spec PyProof.Rows L2 LamX NdefX
open Md49 (bestPlan planCost toldPlan leaves partings)
/-- a plan's object; F tells of its list -/
def PlanIn (CL : Addr) (F : Addr → Prop) (H : Hp) (a : Addr) (s : Md49.St) (p : Md49.Plan) : Prop := ∃ ls, F ls ∧ At2 CL "cost" "steps" H a (nV (planCost s p)) (.ref ls) ∧ H ls = some (.lst ((toldPlan p).map V.int))
theorem PlanIn.imp {CL : Addr} {F G : Addr → Prop} {H : Hp} {a : Addr} {s : Md49.St} {p : Md49.Plan} (h : PlanIn CL F H a s p) (k : ∀ l, F l → G l) : PlanIn CL G H a s p := by
  obtain ⟨ls, h1, r⟩ := h
  exact ⟨ls, k _ h1, r⟩
theorem PlanIn.keep {T : List (Addr × Str)} {CL kn : Addr} {F : Addr → Prop} {H H' : Hp} {a : Addr} {s : Md49.St} {p : Md49.Plan} {kvs : List (List Key × V)} (h : PlanIn CL F H a s p) (hk : H kn = some (.dT kvs)) (k : Keep T kn H H') : PlanIn CL F H' a s p := by
  obtain ⟨ls, h1, ⟨dx, h2⟩, h3⟩ := h
  exact ⟨ls, h1, ⟨dx, k.inst hk h2⟩, k.lst hk h3⟩
theorem PlanIn.same {CL : Addr} {F : Addr → Prop} {H H' : Hp} {a : Addr} {s : Md49.St} {p : Md49.Plan} (h : PlanIn CL F H a s p) (k : Same H H') : PlanIn CL F H' a s p := by
  obtain ⟨ls, h1, ⟨dx, h2⟩, h3⟩ := h
  exact ⟨ls, h1, ⟨dx, k _ _ h2⟩, k _ _ h3⟩
theorem PlanIn.but {CL D : Addr} {H H' : Hp} {a : Addr} {s : Md49.St} {p : Md49.Plan} {xs : List V} (h : PlanIn CL (· ≠ D) H a s p) (hD : H D = some (.lst xs)) (b : But D H H') : PlanIn CL (· ≠ D) H' a s p := by
  obtain ⟨ls, h1, ⟨dx, h2⟩, h3⟩ := h
  exact ⟨ls, h1, ⟨dx, b _ _ h2 (ne_of h2 hD (by intro e; cases e))⟩, b _ _ h3 h1⟩
/-- what is asked of the atoms of a plan -/
structure Some_ (M : Mir) (l : List Nat) : Prop where
  pw : l.Pairwise (· < ·)
  lt : ∀ i ∈ l, i < M.asked.length
  ne : l ≠ []
theorem told_len : ∀ p : Md49.Plan, (toldPlan p).length + 1 = 2 * (leaves p).length
  | .atom i => rfl
  | .both a b => by
    have h1 := told_len a
    have h2 := told_len b
    rw [toldPlan, leaves, List.length_append, List.length_append, List.length_append]
    simp only [List.length_singleton]
    omega
theorem Some_.sub {M : Mir} {l s : List Nat} (h : Some_ M l) (hs : s.Sublist l) (hn : s ≠ []) : Some_ M s := ⟨h.pw.sublist hs, fun i hi => h.lt i (hs.subset hi), hn⟩
theorem Some_.nd {M : Mir} {l : List Nat} (h : Some_ M l) : l.Nodup := h.pw.imp fun h => Nat.ne_of_lt h
theorem Some_.len {M : Mir} {l : List Nat} (h : Some_ M l) : l.length ≤ M.asked.length := nodup_le h.nd h.lt
theorem At2.keep {T : List (Addr × Str)} {C kn : Addr} {f g : Str} {H H' : Hp} {a : Addr} {x y : V} {kvs : List (List Key × V)} (h : At2 C f g H a x y) (hk : H kn = some (.dT kvs)) (k : Keep T kn H H') : At2 C f g H' a x y := by
  obtain ⟨dx, e⟩ := h
  exact ⟨dx, k.inst hk e⟩
def spPlanOf (n : Nat) (T : List (Addr × Str)) (CW CP CL : Addr) : Sp := fun vs H Q _ => ∃ (a t lp kn : Addr) (M : Mir) (l : List Nat) (m : Nat), vs = [.ref a, .ref t] ∧ CountsAt CW CP H a lp kn M ∧ Tabs T H ∧ TupN H t l ∧ Some_ M l ∧ l.length ≤ n ∧ l.length ≤ m ∧
  ∀ H' p, Keep T kn H H' → CountsAt CW CP H' a lp kn M → PlanIn CL (fun b => H b = none) H' p M.toS (bestPlan M.toS m l) → Q (.ref p) H'
def spJoinedPlan (n : Nat) (T : List (Addr × Str)) (CW CP CL : Addr) : Sp := fun vs H Q _ => ∃ (a t ts lp kn : Addr) (M : Mir) (l side : List Nat) (m : Nat), vs = [.ref a, .ref t, .ref ts] ∧ CountsAt CW CP H a lp kn M ∧ Tabs T H ∧ TupN H t l ∧ TupN H ts side ∧ Some_ M l ∧ l.length ≤ n + 1 ∧ l.length ≤ m + 1 ∧ side.Sublist l ∧ side ≠ [] ∧ side.length < l.length ∧
  ∀ H' p, Keep T kn H H' → CountsAt CW CP H' a lp kn M → PlanIn CL (fun b => H b = none) H' p M.toS (.both (bestPlan M.toS m side) (bestPlan M.toS m (l.filter fun i => !side.contains i))) → Q (.ref p) H'
def spCheapestPlan (T : List (Addr × Str)) (CW CP CL : Addr) : Sp := fun vs H Q _ => ∃ (a lp kn : Addr) (M : Mir), vs = [.ref a] ∧ CountsAt CW CP H a lp kn M ∧ Tabs T H ∧ M.asked ≠ [] ∧
  ∀ H' p, Keep T kn H H' → CountsAt CW CP H' a lp kn M → PlanIn CL (fun _ => True) H' p M.toS (Md49.best M.toS) → Q (.ref p) H'
section
variable {P : Program} {w : World} {K : PySem.W.Frag} {mg : Str → Option Value} {base : Heap} {CW CP CL c2 P2 : Addr} {TT : List (Addr × Str)}
theorem sc_pli : FnScope ["self", "cost", "steps"] ["self", "cost", "steps"] (defScope sPlanInit) := ⟨rfl, rfl, rfl, by decide +kernel, rfl, by decide +kernel, by decide +kernel⟩
theorem ok_planInit {C : Addr} (F : HasInit K "Plan.__init__" C sPlanInit ["self", "cost", "steps"]) (T : Klass K mg "Plan" C ["cost", "steps"]) : Made P w K mg base C 1 ["self", "cost", "steps"] (spInit2 C "cost" "steps") := by
  obtain ⟨f, fd, F, M, b⟩ := F
  refine ⟨f, fd, F.ok sc_pli (fun vs H Q E h => ?_) (fun cdv A outer s H vs Q E hr h => ?_), M, b⟩
  · obtain ⟨p, dx, x, y, rfl, _⟩ := h
    rfl
  · obtain ⟨p, dx, x, y, rfl, hp, k⟩ := h
    refine ⟨_, pss_cons (ps_fld (pv 0) (pv 1) rfl) (pss_one (ps_fld (pv 0) (pv 2) rfl)), ?_⟩
    refine ⟨_, rfl, _, rfl, p, C, dx, [], rfl, hp, T.cl, T.no _ (by simp), (by show 0 < 1000; decide), ?_⟩
    refine ⟨_, rfl, _, rfl, p, C, dx, _, rfl, upd_same, T.cl, T.no _ (by simp), (by show 1 < 1000; decide), ?_⟩
    exact k _ ⟨dx, upd_same.trans (congrArg (fun q => some (HO.ins C dx q)) fs2_new)⟩ fun b o e hb => by rw [upd_ne hb, upd_ne hb]; exact e
theorem sc_jp : FnScope ["counts", "some", "side", "first", "second", "cost", "atom"] ["counts", "some", "side"] (defScope sJoinedPlan) := ⟨rfl, rfl, rfl, by decide +kernel, rfl, by decide +kernel, by decide +kernel⟩
theorem ok_joinedPlan {n : Nat} (F : Has K mg "joined_plan" sJoinedPlan ["counts", "some", "side"]) (N : Plain mg) (T : Klass K mg "WayCounts" CW ["parts", "known"]) (TL : Klass K mg "Plan" CL ["cost", "steps"]) (ML : Made P w K mg base CL 1 ["self", "cost", "steps"] (spInit2 CL "cost" "steps")) (cj : IntC mg "JOINING" (-1))
    (GW : OkM P w K mg base CW "ways_of" 6 ["self", "numbers"] (spWaysOf TT K CW CP)) (GP : Ok P w K mg base "plan_of" (2 * n + 6) ["counts", "some"] (spPlanOf n TT CW CP CL)) : Ok P w K mg base "joined_plan" (2 * n + 7) ["counts", "some", "side"] (spJoinedPlan n TT CW CP CL) := by
  obtain ⟨f, fd, F, M, kp, b⟩ := F
  refine ⟨f, fd, F.ok sc_jp (fun vs H Q E h => ?_) (fun cdv A outer s H vs Q E hr h => ?_), M, kp, b⟩
  · obtain ⟨a, t, ts, lp, kn, M, l, side, m, rfl, _⟩ := h
    rfl
  · obtain ⟨a, t, ts, lp, kn, M, l, side, m, rfl, hA, hT, ht, hts, hS, hln, hlm, hsub, hsn, hsl, k⟩ := h
    have hr6 : Room 6 _ := hr.mono (by omega)
    have hr2 : Room 2 _ := hr.mono (by omega)
    refine ⟨_, pss_cons (ps_set (i := 3) sc_jp.nd rfl (Or.inl rfl) (pe_ok GP hr rfl (pa_cons (pv 0) (pa_cons (pv 2) pa_nil))))
      (pss_cons (ps_set (i := 4) sc_jp.nd rfl (Or.inl rfl) (pe_ok GP hr rfl (pa_cons (pv 0) (pa_cons (pe_callTy call_tuple_of (by rfl) N.tuple (by decide +kernel) (pa_cons
        (pe_lc (own := [("atom", 6)]) (g := gName 6) rfl sc_jp.nd (pi_tup (pv 1)) (blkOk_by (N := ["counts", "some", "side", "first", "second", "cost", "atom"]) (sc := defScope sJoinedPlan) (by decide +kernel))
          (fun _ _ _ _ _ => pg_name (i := 6) sc_jp.nd rfl (Or.inl rfl)) (fun _ _ _ _ _ => pts_one (pt_cmpR (opNotIn K) (pv 6) (pv 2) (by rfl))) (fun _ _ _ _ _ => pv 6)) pa_nil)) pa_nil))))
      (pss_cons (ps_set (i := 5) sc_jp.nd rfl (Or.inl rfl) (pe_op op_add (pe_op op_add (pe_fld (pv 3) rfl) (pe_fld (pv 4) rfl)) (pe_okM1 GW T.cl hr6 (pv 0) (pa_cons (pv 1) pa_nil))))
      (pss_one (ps_ret (pe_new ML hr2 rfl TL.mgC (pa_cons (pv 5) (pa_cons (pe_op op_cat (pe_op op_cat (pe_fld (pv 3) rfl) (pe_fld (pv 4) rfl)) (pe_lst (pa_cons (pe_const cj rfl) pa_nil))) pa_nil))))))), ?_⟩
    obtain ⟨kvs, hkn⟩ := hA.kn
    have wf := hA.wf
    have h5 := wf.a5
    have hll := hS.len
    have hperm := side_perm hS.nd hsub
    have hplen := hperm.length_eq
    rw [List.length_append] at hplen
    have hsn1 : 1 ≤ side.length := List.length_pos_iff.mpr hsn
    have hS1 := hS.sub hsub hsn
    have hS2 : Some_ M (l.filter fun i => !side.contains i) := hS.sub List.filter_sublist fun z => by
      rw [z] at hplen
      simp at hplen
      omega
    -- first
    refine ⟨_, rfl, _, rfl, a, ts, lp, kn, M, side, m, rfl, hA, hT, hts, hS1, by omega, by omega, fun H1 p1 k1 hA1 hp1 => ?_⟩
    obtain ⟨kvs1, hk1⟩ := hA1.kn
    have ht1 : TupN H1 t l := k1.tup hkn ht
    have hts1 : TupN H1 ts side := k1.tup hkn hts
    -- the others
    refine ⟨_, rfl, _, rfl, t, rfl, ⟨_, SqT.of ht1⟩, fun D hD => lc_filter (as := l) (F := nV) (fun i => !side.contains i) walk_tup (fun i H x H' _ y => y) (by rw [List.length_map]) (fun H' b' => SqT.of (butSame hD b' _ _ ht1)) (by rw [List.length_map]; show _ ≤ 2 ^ 24; omega) (by show 6 < 7; decide) ?_ ?_⟩
    · intro i v H2 acc Nn hi hv b2 hD2 hN
      have s2 := butSame hD b2
      refine ⟨_, rfl, _, rfl, ts, _, rfl, Or.inr (SqT.of (s2 _ _ hts1)), rfl, flat_nVs _, _, rfl, ?_⟩
      have := hN H2 (Same.refl _)
      rw [List.contains_eq_mem, ← inV_nV] at this
      exact this
    intro H2 b2 hD2
    have s2 := butSame hD b2
    refine ⟨D, _, rfl, .inl ⟨SqL.of hD2, fun t2 ht2 => ?_⟩⟩
    have s3 : Same H1 (upd H2 t2 (.tup ((l.filter fun i => !side.contains i).map nV))) := s2.trans (same_upd ht2)
    have ht3 : TupN (upd H2 t2 (.tup ((l.filter fun i => !side.contains i).map nV))) t2 (l.filter fun i => !side.contains i) := upd_same
    generalize upd H2 t2 (.tup ((l.filter fun i => !side.contains i).map nV)) = H3 at s3 ht3
    have k13 : Keep TT kn H1 H3 := Keep.of s3
    have hA3 := hA1.same s3
    obtain ⟨kvs3, hk3⟩ := hA3.kn
    refine ⟨a, t2, lp, kn, M, _, m, rfl, hA3, k13.tabs (k1.tabs hT), ht3, hS2, by omega, by omega, fun H4 p2 k34 hA4 hp2 => ?_⟩
    have k14 := k13.trans k34
    have k04 := k1.trans k14
    obtain ⟨kvs4, hk4⟩ := hA4.kn
    obtain ⟨l1, n1, ⟨d1, e1⟩, f1⟩ := hp1.keep hk1 k14
    obtain ⟨l2, n2, ⟨d2, e2⟩, f2⟩ := hp2
    obtain ⟨dx, hi4⟩ := hA4.ins
    have ht4 : TupN H4 t l := k04.tup hkn ht
    -- cost
    refine ⟨_, rfl, p1, CL, d1, _, _, rfl, e1, TL.cl, TL.no _ (by simp), fs2_1, _, rfl, p2, CL, d2, _, _, rfl, e2, TL.cl, TL.no _ (by simp), fs2_1, _, _, rfl, rfl, _, rfl, a, dx, _, rfl, hi4, fs2_no, _, rfl, a, t, lp, kn, M, l, rfl, hA4, .inr (SqT.of ht4), hS.nd, hS.lt, fun H5 k45 hA5 => ⟨_, _, rfl, rfl, ?_⟩⟩
    have k05 := k04.trans k45
    have e1' := k45.inst hk4 e1
    have e2' := k45.inst hk4 e2
    have f1' := k45.lst hk4 f1
    have f2' := k45.lst hk4 f2
    have hm1 : side.length ≤ m := by omega
    have hm2 : (l.filter fun i => !side.contains i).length ≤ m := by omega
    have lv1 := leaves_perm M.toS m side hS1.nd hS1.ne hm1
    have lv2 := leaves_perm M.toS m _ hS2.nd hS2.ne hm2
    have lvs : (leaves (bestPlan M.toS m side) ++ leaves (bestPlan M.toS m (l.filter fun i => !side.contains i))).Perm l := (lv1.append lv2).trans hperm
    have hsz : Md49.sizeOf_ M.toS (leaves (bestPlan M.toS m side) ++ leaves (bestPlan M.toS m (l.filter fun i => !side.contains i))) = Md49.sizeOf_ M.toS l := size_perm (tabs := M.tabs) rfl wf.fair lvs fun i hi => hS.lt i (lvs.mem_iff.mp hi)
    have t1 := told_len (bestPlan M.toS m side)
    have t2' := told_len (bestPlan M.toS m (l.filter fun i => !side.contains i))
    rw [lv1.length_eq] at t1
    rw [lv2.length_eq] at t2'
    -- steps
    refine ⟨_, rfl, _, rfl, p1, CL, d1, _, _, rfl, e1', TL.cl, TL.no _ (by simp), fs2_2, _, rfl, p2, CL, d2, _, _, rfl, e2', TL.cl, TL.no _ (by simp), fs2_2, l1, l2, _, _, rfl, rfl, f1', f2', (by rw [List.length_map, List.length_map]; show _ ≤ 2 ^ 24; omega), fun q1 hq1 => ?_⟩
    have s6 : Same H5 (upd H5 q1 (.lst ((toldPlan (bestPlan M.toS m side)).map V.int ++ (toldPlan (bestPlan M.toS m (l.filter fun i => !side.contains i))).map V.int))) := same_upd hq1
    have hq6 : upd H5 q1 (.lst ((toldPlan (bestPlan M.toS m side)).map V.int ++ (toldPlan (bestPlan M.toS m (l.filter fun i => !side.contains i))).map V.int)) q1 = some (.lst ((toldPlan (bestPlan M.toS m side)).map V.int ++ (toldPlan (bestPlan M.toS m (l.filter fun i => !side.contains i))).map V.int)) := upd_same
    generalize upd H5 q1 (.lst ((toldPlan (bestPlan M.toS m side)).map V.int ++ (toldPlan (bestPlan M.toS m (l.filter fun i => !side.contains i))).map V.int)) = H6 at s6 hq6
    refine ⟨(by show 1 ≤ sizeLine; decide), fun q2 hq2 => ⟨q1, q2, _, _, rfl, rfl, same_upd hq2 _ _ hq6, upd_same, (by rw [List.length_append, List.length_map, List.length_map]; show _ + 1 ≤ 2 ^ 24; omega), fun q3 hq3 => ?_⟩⟩
    have s7 : Same H5 (upd (upd H6 q2 (.lst [V.int (-1)])) q3 (.lst ((toldPlan (bestPlan M.toS m side)).map V.int ++ (toldPlan (bestPlan M.toS m (l.filter fun i => !side.contains i))).map V.int ++ [V.int (-1)]))) := (s6.trans (same_upd hq2)).trans (same_upd hq3)
    have hq7 : upd (upd H6 q2 (.lst [V.int (-1)])) q3 (.lst ((toldPlan (bestPlan M.toS m side)).map V.int ++ (toldPlan (bestPlan M.toS m (l.filter fun i => !side.contains i))).map V.int ++ [V.int (-1)])) q3 = some (.lst ((toldPlan (.both (bestPlan M.toS m side) (bestPlan M.toS m (l.filter fun i => !side.contains i)))).map V.int)) := by
      rw [upd_same, toldPlan, List.map_append, List.map_append]
      rfl
    have nq3 : H5 q3 = none := (s6.trans (same_upd hq2)).free hq3
    generalize upd (upd H6 q2 (.lst [V.int (-1)])) q3 (.lst ((toldPlan (bestPlan M.toS m side)).map V.int ++ (toldPlan (bestPlan M.toS m (l.filter fun i => !side.contains i))).map V.int ++ [V.int (-1)])) = H7 at s7 hq7
    intro x dx7 nx ndx ne7
    refine ⟨x, dx7, _, _, rfl, upd_same, fun H8 hat k8 => ⟨rfl, ?_⟩⟩
    have s8 : Same H7 H8 := Same.made nx ndx k8
    have s58 := s7.trans s8
    refine k H8 x (k05.trans (Keep.of s58)) (hA5.same s58) ⟨q3, k05.back _ nq3, ?_, s8 _ _ hq7⟩
    obtain ⟨dz, hz⟩ := hat
    refine ⟨dz, hz.trans ?_⟩
    rw [planCost, hsz]
    rfl
end
end Jp
namespace Jp
open PySem PySem.Spec PyProof.Rows L2 LamX NdefX
open Md49 (bestPlan planCost toldPlan leaves partings)
/-- the other side -/
def restOf (l side : List Nat) : List Nat := l.filter fun i => !side.contains i
theorem firstSides_mem {l side : List Nat} (hp : l.Pairwise (· < ·)) (hne : l ≠ []) (h : side ∈ firstSidesM l) : side.Sublist l ∧ side ≠ [] ∧ side.length < l.length := by
  unfold firstSidesM at h
  obtain ⟨k, hk, hs⟩ := List.mem_flatMap.mp h
  obtain ⟨h1, h2⟩ := mem_sidesK hp hne hs
  have := List.mem_range.mp hk
  exact ⟨h2, fun z => by rw [z] at h1; simp at h1, by omega⟩
theorem PlanIn.butP {CL D : Addr} {H0 H H' : Hp} {a : Addr} {s : Md49.St} {p : Md49.Plan} {xs : List V} (h : PlanIn CL (fun b => H0 b = none ∧ b ≠ D) H a s p) (hD : H D = some (.lst xs)) (b : But D H H') : PlanIn CL (fun b => H0 b = none ∧ b ≠ D) H' a s p := by
  obtain ⟨ls, h1, ⟨dx, h2⟩, h3⟩ := h
  exact ⟨ls, h1, ⟨dx, b _ _ h2 (ne_of h2 hD (by intro e; cases e))⟩, b _ _ h3 h1.2⟩
section
variable {P : Program} {w : World} {K : PySem.W.Frag} {mg : Str → Option Value} {base : Heap} {CW CP CL c2 P2 : Addr} {TT : List (Addr × Str)}
theorem sc_plo : FnScope ["counts", "some", "plans", "side"] ["counts", "some"] (defScope sPlanOf) := ⟨rfl, rfl, rfl, by decide +kernel, rfl, by decide +kernel, by decide +kernel⟩
def qPlan : Str := (envOfC "plan_of" (defScope sPlanOf) 0 0 .none).qual ++ "<lambda>"
theorem ok_planOf0 (F : HasC K mg "plan_of" sPlanOf ["counts", "some"] c2) : Ok P w K mg base "plan_of" (2 * 0 + 6) ["counts", "some"] (spPlanOf 0 TT CW CP CL) := by
  obtain ⟨f, fd, F, hc, M, kp, b⟩ := F
  have no : ∀ vs H Q E, ¬ spPlanOf 0 TT CW CP CL vs H Q E := by
    rintro vs H Q E ⟨a, t, lp, kn, M, l, m, rfl, _, _, _, hS, h0, _⟩
    exact hS.ne (List.eq_nil_of_length_eq_zero (Nat.le_zero.mp h0))
  exact ⟨f, fd, F.ok sc_plo (fun vs H Q E h => absurd h (no vs H Q E)) (fun cdv A outer s H vs Q E hr h => absurd h (no vs H Q E)), M, kp, b⟩
theorem ok_planOf1 {n : Nat} (F : HasC K mg "plan_of" sPlanOf ["counts", "some"] c2) (TB : TabB base mg c2 P2) (hm2 : (P2, qPlan) ∈ TT) (hu2 : ∀ p ∈ TT, p.1 = P2 → p.2 = qPlan) (N : Plain mg) (TL : Klass K mg "Plan" CL ["cost", "steps"]) (ML : Made P w K mg base CL 1 ["self", "cost", "steps"] (spInit2 CL "cost" "steps"))
    (GF : Ok P w K mg base "first_sides" 2 ["some"] spFirstSides) (GJ : Ok P w K mg base "joined_plan" (2 * n + 7) ["counts", "some", "side"] (spJoinedPlan n TT CW CP CL)) : Ok P w K mg base "plan_of" (2 * (n + 1) + 6) ["counts", "some"] (spPlanOf (n + 1) TT CW CP CL) := by
  obtain ⟨f, fd, F, hc, M, kp, b⟩ := F
  refine ⟨f, fd, fun_okC (k := 2 * n + 7) F hc sc_plo (fun vs H Q E h => ?_) (fun A outer s H vs Q E hr h => ?_), M, kp, b⟩
  · obtain ⟨a, t, lp, kn, M, l, m, rfl, _⟩ := h
    rfl
  · obtain ⟨a, t, lp, kn, M, l, m, rfl, hA, hT, ht, hS, hln, hlm, k⟩ := h
    have hr2 : Room 2 _ := hr.mono (by omega)
    refine ⟨_, pss_cons (ps_if (pt_cmpR op_eq (pe_callB call_len_seq (by rfl) N.len PySem.boot_len (pa_cons (pv 1) pa_nil)) pe_int (nomark _)) (pss_one (ps_ret (pe_new ML hr2 rfl TL.mgC (pa_cons pe_int (pa_cons (pe_callTy call_list_of (by rfl) N.list (by decide +kernel) (pa_cons (pv 1) pa_nil)) pa_nil))))) pss_nil)
      (pss_cons (ps_setLc (i := 2) (own := [("side", 3)]) (g := gName 3) (tt := tYes) rfl sc_plo.nd rfl rfl (sw_true rfl rfl rfl (by decide +kernel)) (pi_list (pe_ok GF hr2 rfl (pa_cons (pv 1) pa_nil))) (blkOk_by (N := ["counts", "some", "plans", "side"]) (sc := defScope sPlanOf) (by decide +kernel))
        (fun _ _ _ _ _ => pg_name (i := 3) sc_plo.nd rfl (Or.inl rfl)) (fun _ _ _ _ _ => pts_nil) (fun _ _ _ _ _ => pe_ok GJ hr rfl (pa_cons (pv 0) (pa_cons (pv 1) (pa_cons (pv 3) pa_nil)))))
      (pss_one (ps_ret (pe_minKey (T := TT) (x := "plan") (fr := []) (js := []) (k := 0) (N := ["plan"]) (tb := tFld K (tVar 0) "cost") (by rfl) N.min (pv 2) hr2 TB (by rfl) hm2 hu2 (by rfl) (nscope_by (by decide +kernel)) (by show ndefB (defScope sPlanOf) _ _ = true; decide +kernel) (by rfl)
        (fun _ _ _ _ _ _ => rfl) (fun A s H f c' hr => peF K (pv 0)))))), ?_⟩
    obtain ⟨kvs, hkn⟩ := hA.kn
    have wf := hA.wf
    have h5 := wf.a5
    have hll := hS.len
    refine ⟨_, rfl, t, _, rfl, Or.inr (SqT.of ht), rfl, _, rfl, ?_⟩
    rw [List.length_map]
    by_cases h1 : l.length = 1
    · refine ifT (decide_eq_true (by rw [h1]; rfl)) ⟨_, rfl, t, _, rfl, Or.inr (SqT.of ht), fun q hq => ?_⟩
      have s1 : Same H (upd H q (.lst (l.map nV))) := same_upd hq
      have hq1 : upd H q (.lst (l.map nV)) q = some (.lst ((toldPlan (bestPlan M.toS m l)).map V.int)) := by
        rw [upd_same, bestPlan_one M.toS (by omega)]
        match l, h1 with
        | [x], _ => rfl
      generalize upd H q (.lst (l.map nV)) = H1 at s1 hq1
      intro x dx nx ndx ne
      refine ⟨x, dx, _, _, rfl, upd_same, fun H2 hat k2 => ⟨rfl, ?_⟩⟩
      have s2 : Same H1 H2 := Same.made nx ndx k2
      have s12 := s1.trans s2
      refine k H2 x (Keep.of s12) (hA.same s12) ⟨q, hq, ?_, s2 _ _ hq1⟩
      rw [bestPlan_one M.toS (by omega)]
      exact hat
    · have hlen2 : 2 ≤ l.length := by
        have := List.length_pos_iff.mpr hS.ne
        omega
      refine ifF (decide_eq_false (fun z => h1 (by have := V.int.inj z; omega))) ?_
      refine ⟨_, rfl, t, l, rfl, ht, hS.pw, hlen2, by omega, fun H1 ls s1 nls ⟨ss, hls, hss⟩ => ⟨ls, rfl, ⟨_, SqL.of hls⟩, fun D hD => ?_⟩⟩
      obtain ⟨m', rfl⟩ : ∃ m', m = m' + 1 := ⟨m - 1, by omega⟩
      have hfl : (firstSidesM l).length ≤ 15625 := by
        have h := fm_len (sidesK l) 3125 (List.range (l.length - 1)) fun k hk => by
          have h1 := List.mem_range.mp hk
          have h2 := Nat.le_trans (sidesK_len l k) (Nat.le_trans (Nat.pow_le_pow_left (show l.length ≤ 5 by omega) k) (Nat.pow_le_pow_right (n := 5) (by decide) (show k ≤ 5 by omega)))
          have h55 : (5 : Nat) ^ 5 = 3125 := by decide
          omega
        rw [List.length_range] at h
        unfold firstSidesM
        omega
      have hA1 := hA.same s1
      obtain ⟨kvs1, hk1⟩ := hA1.kn
      refine lc_it walk_list (fun i H' => Keep TT kn H1 H' ∧ CountsAt CW CP H' a lp kn M ∧ ∃ ps, H' D = some (.lst (ps.map V.ref)) ∧ AllAt (fun p side => PlanIn CL (fun b => H b = none ∧ b ≠ D) H' p M.toS (.both (bestPlan M.toS m' side) (bestPlan M.toS m' (restOf l side)))) ps ((firstSidesM l).take i))
        ⟨Keep.of (same_upd hD), hA1.same (same_upd hD), [], upd_same, AllAt.nil⟩ (fun i H' _ ⟨k', _⟩ => SqL.of (k'.lst hk1 hls)) ?_ ?_
      · rintro i x H2 H3 hi ⟨k3, hA3, ps, hD3, hps⟩ ⟨rfl, hx⟩
        obtain ⟨q, hq, rfl⟩ := get_map hx
        obtain ⟨side, hside, hqs⟩ := hss.get hq
        obtain ⟨f1, f2, f3⟩ := firstSides_mem hS.pw hS.ne (List.mem_of_getElem? hside)
        have hil := (List.getElem?_eq_some_iff.mp hside).1
        refine ⟨rfl, _, rfl, _, rfl, _, rfl, a, t, q, lp, kn, M, l, side, m', rfl, hA3, k3.tabs (hT.ext s1), k3.tup hk1 (s1 _ _ ht), k3.tup hk1 hqs, hS, hln, hlm, f1, f2, f3, fun H4 p k4 hA4 hp4 => ?_⟩
        obtain ⟨kvs3, hk3⟩ := hA3.kn
        have hD4 := k4.lst hk3 hD3
        have k14 := k3.trans k4
        obtain ⟨kvs4, hk4⟩ := hA4.kn
        have nDk : kn ≠ D := ne_of hk4 hD4 (by intro z; cases z)
        have kp5 : Keep TT kn H1 (upd H4 D (.lst (ps.map V.ref ++ [V.ref p]))) := by
          refine ⟨fun b o e n t => ?_, fun b e => k14.back b (upd_back e), fun t => tabs_but (k14.tabs t) hD4 (by intro ps z; cases z) (by intro c q z; unfold LamX.CodeO at z; cases z) ((But.of_same (Same.refl _)).upd)⟩
          rw [upd_ne (ne_of_none e hD)]
          exact k14.stay b o e n t
        have b5 : But D H4 (upd H4 D (.lst (ps.map V.ref ++ [V.ref p]))) := (But.of_same (Same.refl _)).upd
        refine ⟨_, hD4, (by rw [List.length_map, hps.1, List.length_take]; show _ < 2 ^ 24; omega), kp5, ?_, ps ++ [p], by rw [upd_same, List.map_append]; rfl, ?_⟩
        · obtain ⟨kv, q1, q2⟩ := hA4.known
          exact hA1.after kp5 ⟨kv, by rw [upd_ne nDk]; exact q1, q2⟩
        · rw [take_snoc hside]
          refine AllAt.snoc (hps.mono fun p' side' _ h => (h.keep hk3 k4).butP hD4 b5) ?_
          refine (hp4.imp fun b hb => ?_).butP hD4 b5
          exact ⟨same_back s1 _ (k3.back _ hb), fun z => by rw [z, hD3] at hb; cases hb⟩
      · rintro H2 ⟨k2, hA2, ps, hD2, hps⟩
        rw [List.length_map, hss.1, List.take_length] at hps
        have k02 : Keep TT kn H H2 := (Keep.of s1).trans k2
        obtain ⟨kvs2, hk2⟩ := hA2.kn
        have hparts : partings l = (firstSidesM l).map fun side => (side, restOf l side) := partings_eq hS.pw
        have hl1 : ¬ l.length ≤ 1 := by omega
        have hpos : 0 < ps.length := by
          rw [hps.1]
          have := partings_some hl1
          rw [hparts] at this
          refine List.length_pos_iff.mpr fun z => ?_
          rw [z] at this
          exact this rfl
        refine ⟨_, rfl, D, ps.map V.ref, rfl, by rw [List.length_map]; exact hpos, k02.tabs hT, fun H3 c' ex T3 hc' => ?_⟩
        have k23 : Keep TT kn H2 H3 := Keep.ext ex T3
        have hD3 := k23.lst hk2 hD2
        refine ⟨fun i => (planCost M.toS (.both (bestPlan M.toS m' ((firstSidesM l).getD i [])) (bestPlan M.toS m' (restOf l ((firstSidesM l).getD i [])))) : Int), fun _ H4 => H4 = H3, rfl, ?_, ?_, ?_⟩
        · rintro i H4 rfl
          exact ⟨SqL.of hD3, hc'⟩
        · rintro i H4 v rfl hv
          obtain ⟨p, hp, rfl⟩ := get_map hv
          obtain ⟨side, hside, hpl⟩ := hps.get hp
          obtain ⟨lz, n1, ⟨dz, e1⟩, f1⟩ := hpl.keep hk2 k23
          refine ⟨_, rfl, p, CL, dz, _, _, rfl, e1, TL.cl, TL.no _ (by simp), fs2_1, ?_, rfl⟩
          show nV _ = V.int ((planCost M.toS (.both (bestPlan M.toS m' ((firstSidesM l).getD i [])) (bestPlan M.toS m' (restOf l ((firstSidesM l).getD i [])))) : Nat) : Int)
          rw [List.getD_eq_getElem?_getD, hside]
          rfl
        · rintro i H4 v rfl hv hl
          obtain ⟨p, hp, rfl⟩ := get_map hv
          obtain ⟨side, hside, hpl⟩ := hps.get hp
          have hpi : (partings l)[i]? = some (side, restOf l side) := by
            rw [hparts, List.getElem?_map, hside]
            rfl
          rw [List.length_map, hps.1] at hl
          have e := plan_first (s := M.toS) (m := m') (l := l) hl1 (i := i) (kf := fun i => (planCost M.toS (.both (bestPlan M.toS m' ((firstSidesM l).getD i [])) (bestPlan M.toS m' (restOf l ((firstSidesM l).getD i [])))) : Int)) hpi (fun j q hj => by
            rw [hparts] at hj
            obtain ⟨u, hu, rfl⟩ := get_mapA hj
            show ((planCost M.toS (.both (bestPlan M.toS m' ((firstSidesM l).getD j [])) (bestPlan M.toS m' (restOf l ((firstSidesM l).getD j [])))) : Nat) : Int) = _
            rw [List.getD_eq_getElem?_getD, hu]
            rfl) (by rw [hparts, List.length_map]; exact hl)
          refine k _ p (k02.trans k23) (hA2.ext ex T3) ?_
          rw [e]
          exact (hpl.keep hk2 k23).imp fun b hb => hb.1
theorem sc_chp : FnScope ["counts"] ["counts"] (defScope sCheapestPlan) := ⟨rfl, rfl, rfl, by decide +kernel, rfl, by decide +kernel, by decide +kernel⟩
theorem ok_cheapestPlan (F : Has K mg "cheapest_plan" sCheapestPlan ["counts"]) (N : Plain mg) (T : Klass K mg "WayCounts" CW ["parts", "known"]) (GP : Ok P w K mg base "plan_of" 16 ["counts", "some"] (spPlanOf 5 TT CW CP CL)) : Ok P w K mg base "cheapest_plan" 17 ["counts"] (spCheapestPlan TT CW CP CL) := by
  obtain ⟨f, fd, F, M, kp, b⟩ := F
  refine ⟨f, fd, F.ok sc_chp (fun vs H Q E h => ?_) (fun cdv A outer s H vs Q E hr h => ?_), M, kp, b⟩
  · obtain ⟨a, lp, kn, M, rfl, _⟩ := h
    rfl
  · obtain ⟨a, lp, kn, M, rfl, hA, hT, hne, k⟩ := h
    refine ⟨_, pss_one (ps_ret (pe_ok GP hr rfl (pa_cons (pv 0) (pa_cons (pe_tupRg rfl rfl N.tuple (prg_1 rfl N.range (pe_callB call_len_seq (by rfl) N.len PySem.boot_len (pa_cons (pe_fld (pv 0) rfl) pa_nil)))) pa_nil)))), ?_⟩
    obtain ⟨dx, hi⟩ := hA.ins
    obtain ⟨as, hlp, hps⟩ := hA.parts
    have h5 := hA.wf.a5
    have hpl : as.length = M.asked.length := by rw [hps.1, parts_list, List.length_map, List.length_range]
    refine ⟨_, rfl, _, rfl, a, CW, dx, _, _, rfl, hi, T.cl, T.no _ (by simp), fs2_1, lp, _, rfl, Or.inl (SqL.of hlp), _, rfl, ?_⟩
    rw [List.length_map, hpl]
    refine ⟨RgOk.of_le (by omega) (by omega) (by omega) (by omega), fun q hq => ?_⟩
    rw [rgV_nV]
    have s1 : Same H (upd H q (.tup ((List.range M.asked.length).map nV))) := same_upd hq
    have hq1 : TupN (upd H q (.tup ((List.range M.asked.length).map nV))) q (List.range M.asked.length) := upd_same
    generalize upd H q (.tup ((List.range M.asked.length).map nV)) = H1 at s1 hq1
    refine ⟨a, q, lp, kn, M, List.range M.asked.length, M.asked.length, rfl, hA.same s1, hT.ext s1, hq1, ⟨List.pairwise_lt_range, fun i hi => List.mem_range.mp hi, fun z => ?_⟩, (by rw [List.length_range]; exact h5), (by rw [List.length_range]; exact Nat.le_refl _), fun H2 p k2 hA2 hp2 => ?_⟩
    · have := congrArg List.length z
      rw [List.length_range] at this
      exact hne (List.eq_nil_of_length_eq_zero this)
    · exact k H2 p ((Keep.of s1).trans k2) hA2 (hp2.imp fun _ _ => trivial)
end
end Jp
/-! The mirror's calls are the spec's. -/
namespace Jp
open MdBase (Term Atom varsOf)
theorem spec_begin (M : Mir) : Md49.spec M.toS .begin_ = (Mir.start.toS, [0]) := rfl
theorem spec_table {M : Mir} (wf : Wf M) (n : Int) : Md49.spec M.toS (.table n) = ((mTable M n).1.toS, (mTable M n).2) := by
  have h6 := wf.t6
  show (if n < 0 ∨ 4 < n then (M.toS, [-1]) else if 6 ≤ M.cols.length then (M.toS, [-6]) else ({ M.toS with cols := M.cols ++ [n.toNat], tables := M.tabs.map MdBase.sorted ++ [[]] }, [Md49.num M.cols.length])) = _
  unfold mTable
  by_cases h : 0 ≤ n ∧ n ≤ 4
  · rw [if_neg (by omega), if_pos h]
    by_cases q : M.cols.length = 6
    · rw [if_pos (by omega), if_pos q]
    · rw [if_neg (by omega), if_neg q]
      simp [Mir.toS, Md49.num, MdBase.sorted]
  · rw [if_pos (by omega), if_neg h]
theorem rowOk_eq {M : Mir} (t : Int) (x : MdBase.Row) (h0 : 0 ≤ t) (h1 : t < (M.cols.length : Int)) : Md49.rowOk M.toS t x = isRow ((M.cols.getD t.toNat 0 : Nat) : Int) x := by
  unfold Md49.rowOk isRow
  have hl : t.toNat < M.cols.length := by omega
  have e1 : M.toS.cols[t.toNat]? = some M.cols[t.toNat] := List.getElem?_eq_getElem hl
  have e2 : M.cols.getD t.toNat 0 = M.cols[t.toNat] := by rw [List.getD_eq_getElem?_getD, List.getElem?_eq_getElem hl]; rfl
  rw [e1, e2, decide_eq_true h0, Bool.true_and]
  simp only
  congr 1
  by_cases q : x.length = M.cols[t.toNat]
  · rw [decide_eq_true q, decide_eq_true (by omega)]
  · rw [decide_eq_false q, decide_eq_false (by omega)]
theorem rowOk_no {M : Mir} (t : Int) (x : MdBase.Row) (h : ¬ (0 ≤ t ∧ t < (M.cols.length : Int))) : Md49.rowOk M.toS t x = false := by
  unfold Md49.rowOk
  by_cases h0 : 0 ≤ t
  · have : M.toS.cols[t.toNat]? = none := List.getElem?_eq_none (by show M.cols.length ≤ _; omega)
    rw [this]
    simp
  · rw [decide_eq_false h0, Bool.false_and]
theorem map_set' {α β : Type} (f : α → β) (l : List α) (i : Nat) (x : α) : (l.set i x).map f = (l.map f).set i (f x) := List.map_set
theorem spec_row {M : Mir} (wf : Wf M) (t : Int) (x : MdBase.Row) : Md49.spec M.toS (.row t x) = ((mRow M t x).1.toS, (mRow M t x).2) := by
  show (if Md49.rowOk M.toS t x = false then (M.toS, [-1]) else if MdBase.holds M.toS.tables (t.toNat, x) = true then (M.toS, [0]) else if 10 ≤ (MdBase.rowsOf M.toS.tables t.toNat).length then (M.toS, [-6]) else ({ M.toS with tables := MdBase.addFact M.toS.tables (t.toNat, x) }, [1])) = _
  unfold mRow
  by_cases h : 0 ≤ t ∧ t < (M.cols.length : Int)
  rotate_left
  · rw [if_pos (rowOk_no t x h), if_neg h]
  rw [if_pos h, rowOk_eq t x h.1 h.2]
  cases hr : isRow ((M.cols.getD t.toNat 0 : Nat) : Int) x with
  | false => rw [if_pos rfl, if_neg (by decide)]
  | true =>
    rw [if_neg (by decide), if_pos rfl]
    have hl : t.toNat < M.tabs.length := by rw [wf.len]; omega
    have hrows : MdBase.rowsOf M.toS.tables t.toNat = MdBase.sorted (M.tabs.getD t.toNat []) := tab_get (S := M.toS) rfl t.toNat
    have hg : M.tabs.getD t.toNat [] = M.tabs[t.toNat] := by rw [List.getD_eq_getElem?_getD, List.getElem?_eq_getElem hl]; rfl
    have hm : M.tabs[t.toNat] ∈ M.tabs := List.getElem_mem hl
    have hh : MdBase.holds M.toS.tables (t.toNat, x) = decide (x ∈ M.tabs.getD t.toNat []) := by
      unfold MdBase.holds
      rw [hrows, Bool.eq_iff_iff, List.contains_iff_mem, JpSort.mem_sorted, decide_eq_true_eq]
    have hlen : (MdBase.rowsOf M.toS.tables t.toNat).length = (M.tabs.getD t.toNat []).length := by
      rw [hrows, JpSort.sorted_length (by rw [hg]; exact wf.nd _ hm)]
    rw [hh, hlen]
    by_cases hin : x ∈ M.tabs.getD t.toNat []
    · rw [if_pos (decide_eq_true hin), if_pos hin]
    · rw [if_neg (by simpa using hin), if_neg hin]
      have h10 : (M.tabs.getD t.toNat []).length ≤ 10 := by rw [hg]; exact wf.few _ hm
      by_cases h1 : (M.tabs.getD t.toNat []).length = 10
      · rw [if_pos (by omega), if_pos h1]
      · rw [if_neg (by omega), if_neg h1]
        refine Prod.ext ?_ rfl
        show ({ M.toS with tables := MdBase.addFact M.toS.tables (t.toNat, x) } : Md49.St) = ⟨M.cols, (M.tabs.set t.toNat (M.tabs.getD t.toNat [] ++ [x])).map MdBase.sorted, M.asked⟩
        rw [map_set', JpSort.sorted_snoc]
        unfold MdBase.addFact
        rw [hrows]
        rfl
theorem spec_ask (M : Mir) (l : List Int) : Md49.spec M.toS (.question l) = ((mAsk M l).1.toS, (mAsk M l).2) := by
  show (match Md49.atoms? M.cols 5 l with
    | none => (M.toS, [-1])
    | some as => ({ M.toS with asked := as }, [Md49.num as.length])) = _
  unfold mAsk
  cases Md49.atoms? M.cols 5 l <;> rfl
theorem spec_tree {M : Mir} (h : M.asked ≠ []) : Md49.spec M.toS .tree_ = (M.toS, treeAns M.toS) := by
  show (if M.asked = [] then (M.toS, [-5]) else _) = _
  rw [if_neg h]
  rfl
theorem spec_left {M : Mir} (h : M.asked ≠ []) (i : Int) : Md49.spec M.toS (.left_ i) = (M.toS, leftAns M i) := by
  show (if M.asked = [] then (M.toS, [-5]) else if i < 0 ∨ M.asked.length ≤ i.toNat then (M.toS, [-1]) else (M.toS, Md49.toldRows ((Md49.left M.toS).getD i.toNat []))) = _
  rw [if_neg h]
  unfold leftAns
  by_cases q : 0 ≤ i ∧ i < (M.asked.length : Int)
  · rw [if_neg (by omega), if_pos q]
  · rw [if_pos (by omega), if_neg q]
/-- no question -/
theorem spec_none {M : Mir} (h : M.asked = []) : Md49.spec M.toS .tree_ = (M.toS, [-5]) ∧ (∀ i, Md49.spec M.toS (.left_ i) = (M.toS, [-5])) ∧ Md49.spec M.toS .count = (M.toS, [-5]) ∧ (∀ l, Md49.spec M.toS (.answers l) = (M.toS, [-5])) ∧
    Md49.spec M.toS .order = (M.toS, [-5]) ∧ (∀ l, Md49.spec M.toS (.cost l) = (M.toS, [-5])) ∧ Md49.spec M.toS .plan = (M.toS, [-5]) := by
  refine ⟨?_, fun i => ?_, ?_, fun i => ?_, ?_, fun i => ?_, ?_⟩
  all_goals
    show (if M.asked = [] then (M.toS, [-5]) else _) = _
    rw [if_pos h]
end Jp
namespace Jp
open PySem PySem.Spec PyProof.Rows L2 LamX
open MdBase (Term Atom varsOf)
/-- all but the tables stays, the tables stay tables -/
structure Grow (T : List (Addr × Str)) (H H' : Hp) : Prop where
  stay : ∀ b o, H b = some o → (∀ ps, o ≠ .tbl ps) → H' b = some o
  back : ∀ b, H' b = none → H b = none
  tabs : Tabs T H → Tabs T H'
theorem Grow.refl (T : List (Addr × Str)) (H : Hp) : Grow T H H := ⟨fun _ _ e _ => e, fun _ e => e, id⟩
theorem Grow.of {T : List (Addr × Str)} {H H' : Hp} (s : Same H H') : Grow T H H' := ⟨fun b o e _ => s b o e, same_back s, fun t => t.ext s⟩
theorem Grow.trans {T : List (Addr × Str)} {H H1 H2 : Hp} (a : Grow T H H1) (b : Grow T H1 H2) : Grow T H H2 := ⟨fun c o e t => b.stay c o (a.stay c o e t) t, fun c e => a.back c (b.back c e), fun t => b.tabs (a.tabs t)⟩
theorem Grow.keep {T : List (Addr × Str)} {kn : Addr} {H H1 H2 : Hp} (s : Same H H1) (k : Keep T kn H1 H2) (hk : H kn = none) : Grow T H H2 := ⟨fun b o e t => k.stay b o (s _ _ e) (ne_of_none e hk) t, fun b e => same_back s b (k.back b e), fun t => k.tabs (t.ext s)⟩
def spTell (T : List (Addr × Str)) (CT CA : Addr) (ans : Mir → List Int) : Sp := fun vs H Q _ => ∃ (lq : Addr) (M : Mir), vs = [.ref lq] ∧ AskAt CT CA H lq M ∧ M.asked ≠ [] ∧ Tabs T H ∧ ∀ H' p, Grow T H H' → H p = none → H' p = some (.lst ((ans M).map V.int)) → Q (.ref p) H'
def spTellN (T : List (Addr × Str)) (K : PySem.W.Frag) (CT CA : Addr) (ans : Mir → List Int → List Int) : Sp := fun vs H Q _ => ∃ (lq ln : Addr) (M : Mir) (ns : List Int), vs = [.ref lq, .ref ln] ∧ AskAt CT CA H lq M ∧ M.asked ≠ [] ∧ Tabs T H ∧ SqL K H ln (ns.map V.int) ∧ ns.length ≤ 100 ∧ ∀ H' p, Grow T H H' → H p = none → H' p = some (.lst ((ans M ns).map V.int)) → Q (.ref p) H'
def orderAns (M : Mir) : List Int := Md49.num (Md49.orderCost M.toS (Md49.bestOrder M.toS)) :: Md49.nums (Md49.bestOrder M.toS)
def costAns (M : Mir) (l : List Int) : List Int := if (l.map Int.toNat).isPerm (Md49.places M.toS) = false ∨ l.all (fun (i : Int) => decide (0 ≤ i)) = false then [-1] else [Md49.num (Md49.orderCost M.toS (l.map Int.toNat))]
def planAns (M : Mir) : List Int := Md49.num (Md49.planCost M.toS (Md49.best M.toS)) :: Md49.toldPlan (Md49.best M.toS)
theorem natsI_toNat (l : List Nat) : (natsI l).map Int.toNat = l := by
  unfold natsI
  rw [List.map_map]
  exact (List.map_congr_left fun _ _ => rfl).trans (List.map_id l)
theorem best_perm (M : Mir) : (Md49.bestOrder M.toS).Perm (List.range M.asked.length) := by
  have e : Md49.bestOrder M.toS = (((Md49.orders (Md49.places M.toS)).map fun p => (Md49.orderCost M.toS p, p)).foldl pick (Md49.orderCost M.toS (Md49.places M.toS), Md49.places M.toS)).2 := rfl
  obtain ⟨h1, _, _⟩ := pick_min ((Md49.orders (Md49.places M.toS)).map fun p => (Md49.orderCost M.toS p, p)) (Md49.orderCost M.toS (Md49.places M.toS), Md49.places M.toS)
  rw [e]
  rcases h1 with h1 | h1
  · rw [h1]
    exact List.Perm.refl _
  · obtain ⟨q, hq, e2⟩ := List.mem_map.mp h1
    rw [← e2]
    exact mem_orders.mp hq
section
variable {P : Program} {w : World} {K : PySem.W.Frag} {mg : Str → Option Value} {base : Heap} {CT CA CW CP CL : Addr} {TT : List (Addr × Str)}
theorem sc_to2 : FnScope ["question", "counts", "order"] ["question"] (defScope sTellOrder) := ⟨rfl, rfl, rfl, by decide +kernel, rfl, by decide +kernel, by decide +kernel⟩
theorem ok_tellOrder (F : Has K mg "tell_order" sTellOrder ["question"]) (N : Plain mg) (T : Klass K mg "WayCounts" CW ["parts", "known"]) (MW : Made P w K mg base CW 6 ["self", "atoms"] (spWayInit CT CA CW CP))
    (GO : Ok P w K mg base "cheapest_order" 10 ["counts"] (spCheapestOrder TT CW CP)) (GC : Ok P w K mg base "order_cost" 7 ["counts", "order"] (spOrderCost TT K CW CP)) : Ok P w K mg base "tell_order" 11 ["question"] (spTell TT CT CA orderAns) := by
  obtain ⟨f, fd, F, M, kp, b⟩ := F
  refine ⟨f, fd, F.ok sc_to2 (fun vs H Q E h => ?_) (fun cdv A outer s H vs Q E hr h => ?_), M, kp, b⟩
  · obtain ⟨lq, M, rfl, _⟩ := h
    rfl
  · obtain ⟨lq, M, rfl, hA, hne, hT, k⟩ := h
    have hr7 : Room 7 _ := hr.mono (by decide)
    refine ⟨_, pss_cons (ps_set (i := 1) sc_to2.nd rfl (Or.inl rfl) (pe_new MW hr7 rfl T.mgC (pa_cons (pv 0) pa_nil)))
      (pss_cons (ps_set (i := 2) sc_to2.nd rfl (Or.inl rfl) (pe_ok GO hr rfl (pa_cons (pv 1) pa_nil)))
      (pss_one (ps_ret (pe_op op_cat (pe_lst (pa_cons (pe_ok GC hr7 rfl (pa_cons (pv 1) (pa_cons (pv 2) pa_nil))) pa_nil)) (pe_callTy call_list_of (by rfl) N.list (by decide +kernel) (pa_cons (pv 2) pa_nil)))))), ?_⟩
    refine ⟨_, rfl, fun c dx nc ndx ne => ⟨c, dx, lq, M, rfl, upd_same, ?_, fun H1 lp kn hC1 k1 hkn => ⟨rfl, ?_⟩⟩⟩
    · exact hA.same ((same_upd ndx).trans (same_upd (by rw [upd_ne ne.symm]; exact nc)))
    have s1 : Same H H1 := Same.made nc ndx k1
    have nkn : H kn = none := by
      cases e : H kn with
      | none => rfl
      | some o => rw [upd_ne (ne_of_none e nc), upd_ne (ne_of_none e ndx), e] at hkn; cases hkn
    -- order
    refine ⟨_, rfl, c, lp, kn, M, rfl, hC1, hT.ext s1, fun H2 t k2 hC2 ht2 => ?_⟩
    have hbp := best_perm M
    have hbl : (Md49.bestOrder M.toS).length = M.asked.length := by rw [hbp.length_eq, List.length_range]
    have h5 := hA.wf.a5
    refine ⟨_, rfl, _, rfl, c, t, lp, kn, M, _, rfl, hC2, .inr (SqT.of ht2), hbp.nodup_iff.mpr List.nodup_range, fun i hi => List.mem_range.mp (hbp.mem_iff.mp hi), fun H3 k3 hC3 => ?_⟩
    obtain ⟨kvs2, hk2⟩ := hC2.kn
    have ht3 := k3.tup hk2 ht2
    refine ⟨(by show 1 ≤ sizeLine; decide), fun p1 hp1 => ⟨_, rfl, t, _, rfl, Or.inr (SqT.of (same_upd hp1 _ _ ht3)), fun p2 hp2 => ?_⟩⟩
    refine ⟨p1, p2, _, _, rfl, rfl, same_upd hp2 _ _ upd_same, upd_same, (by rw [List.length_map]; show 1 + _ ≤ 2 ^ 24; omega), fun p3 hp3 => ?_⟩
    have s4 := ((same_upd hp1 (o := .lst [nV (Md49.orderCost M.toS (Md49.bestOrder M.toS))])).trans (same_upd hp2 (o := .lst ((Md49.bestOrder M.toS).map nV)))).trans (same_upd hp3 (o := .lst ([nV (Md49.orderCost M.toS (Md49.bestOrder M.toS))] ++ (Md49.bestOrder M.toS).map nV)))
    have g13 := Grow.keep (T := TT) s1 (k2.trans k3) nkn
    refine k _ p3 (g13.trans (Grow.of s4)) (g13.back _ (upd_back (upd_back hp3))) ?_
    rw [upd_same]
    unfold orderAns
    rw [List.map_cons, nums_V]
    rfl
theorem sc_tc : FnScope ["question", "order"] ["question", "order"] (defScope sTellCost) := ⟨rfl, rfl, rfl, by decide +kernel, rfl, by decide +kernel, by decide +kernel⟩
theorem ok_tellCost (F : Has K mg "tell_cost" sTellCost ["question", "order"]) (T : Klass K mg "WayCounts" CW ["parts", "known"]) (cw : IntC mg "WRONG" (-1)) (MW : Made P w K mg base CW 6 ["self", "atoms"] (spWayInit CT CA CW CP))
    (GI : Ok P w K mg base "is_order" 1 ["numbers", "atoms"] (spIsOrder K)) (GC : Ok P w K mg base "order_cost" 7 ["counts", "order"] (spOrderCost TT K CW CP)) : Ok P w K mg base "tell_cost" 8 ["question", "order"] (spTellN TT K CT CA costAns) := by
  obtain ⟨f, fd, F, M, kp, b⟩ := F
  refine ⟨f, fd, F.ok sc_tc (fun vs H Q E h => ?_) (fun cdv A outer s H vs Q E hr h => ?_), M, kp, b⟩
  · obtain ⟨lq, ln, M, ns, rfl, _⟩ := h
    rfl
  · obtain ⟨lq, ln, M, ns, rfl, hA, hne, hT, hns, hnl, k⟩ := h
    have hr1 : Room 1 _ := hr.mono (by decide)
    obtain ⟨as, hlq, hats⟩ := hA.ex
    have h5 := hA.wf.a5
    refine ⟨_, pss_cons (ps_if (pt_not (pt_val (pe_ok GI hr1 rfl (pa_cons (pv 1) (pa_cons (pv 0) pa_nil))))) (pss_one (ps_ret (pe_lst (pa_cons (pe_const cw rfl) pa_nil)))) pss_nil)
      (pss_one (ps_ret (pe_lst (pa_cons (pe_ok GC hr rfl (pa_cons (pe_new MW hr rfl T.mgC (pa_cons (pv 0) pa_nil)) (pa_cons (pv 1) pa_nil))) pa_nil)))), ?_⟩
    refine ⟨_, rfl, _, rfl, ln, lq, ns, as.map V.ref, rfl, hns, hnl, hlq, by rw [List.length_map, hats.1]; omega, fun H1 s1 => ?_⟩
    rw [List.length_map, hats.1]
    unfold costAns at k
    by_cases hp : ns.Perm (natsI (List.range M.asked.length))
    · obtain ⟨l, rfl, hl⟩ := nats_of_perm hp
      rw [natsI_toNat, if_neg (by
        have e1 : l.isPerm (Md49.places M.toS) = true := List.isPerm_iff.mpr hl
        have e2 : (natsI l).all (fun i => decide (0 ≤ i)) = true := by
          rw [List.all_eq_true]
          intro x hx
          obtain ⟨n, _, rfl⟩ := List.mem_map.mp hx
          exact decide_eq_true (by omega)
        rw [e1, e2]
        simp)] at k
      refine ⟨_, rfl, ifF (by rw [decide_eq_true hp]; rfl) ?_⟩
      refine ⟨_, rfl, fun c dx nc ndx ne => ⟨c, dx, lq, M, rfl, upd_same, ?_, fun H2 lp kn hC2 k2 hkn => ⟨rfl, ?_⟩⟩⟩
      · exact (hA.same s1).same ((same_upd ndx).trans (same_upd (by rw [upd_ne ne.symm]; exact nc)))
      have s2 : Same H1 H2 := Same.made nc ndx k2
      have nkn : H1 kn = none := by
        cases e : H1 kn with
        | none => rfl
        | some o => rw [upd_ne (ne_of_none e nc), upd_ne (ne_of_none e ndx), e] at hkn; cases hkn
      have hns2 := (s1.trans s2).seq hns
      rw [natsI_V] at hns2
      refine ⟨_, rfl, c, ln, lp, kn, M, l, rfl, hC2, .inl hns2, hl.nodup_iff.mpr List.nodup_range, fun i hi => List.mem_range.mp (hl.mem_iff.mp hi), fun H3 k3 hC3 => ⟨(by show 1 ≤ sizeLine; decide), fun p hp => ?_⟩⟩
      have g3 := Grow.keep (T := TT) (s1.trans s2) k3 (s1.free nkn)
      exact k _ p (g3.trans (Grow.of (same_upd hp))) (g3.back _ hp) upd_same
    · rw [if_pos (by
        by_cases e1 : (ns.map Int.toNat).isPerm (Md49.places M.toS) = true
        · refine Or.inr (Bool.eq_false_iff.mpr fun e2 => hp ?_)
          have h1 := List.isPerm_iff.mp e1
          have h2 : natsI (ns.map Int.toNat) = ns := by
            unfold natsI
            rw [List.map_map]
            refine (List.map_congr_left fun x hx => ?_).trans (List.map_id ns)
            have := of_decide_eq_true (List.all_eq_true.mp e2 x hx)
            show ((x.toNat : Nat) : Int) = x
            omega
          rw [← h2]
          exact h1.map _
        · exact Or.inl (Bool.eq_false_iff.mpr e1))] at k
      exact ⟨_, rfl, ifT (by rw [decide_eq_false hp]; rfl) ⟨(by show 1 ≤ sizeLine; decide), fun p hp => k _ p ((Grow.of s1).trans (Grow.of (same_upd hp))) (s1.free hp) upd_same⟩⟩
theorem sc_tp : FnScope ["question", "plan"] ["question"] (defScope sTellPlan) := ⟨rfl, rfl, rfl, by decide +kernel, rfl, by decide +kernel, by decide +kernel⟩
theorem ok_tellPlan (F : Has K mg "tell_plan" sTellPlan ["question"]) (T : Klass K mg "WayCounts" CW ["parts", "known"]) (TL : Klass K mg "Plan" CL ["cost", "steps"]) (MW : Made P w K mg base CW 6 ["self", "atoms"] (spWayInit CT CA CW CP))
    (GP : Ok P w K mg base "cheapest_plan" 17 ["counts"] (spCheapestPlan TT CW CP CL)) : Ok P w K mg base "tell_plan" 18 ["question"] (spTell TT CT CA planAns) := by
  obtain ⟨f, fd, F, M, kp, b⟩ := F
  refine ⟨f, fd, F.ok sc_tp (fun vs H Q E h => ?_) (fun cdv A outer s H vs Q E hr h => ?_), M, kp, b⟩
  · obtain ⟨lq, M, rfl, _⟩ := h
    rfl
  · obtain ⟨lq, M, rfl, hA, hne, hT, k⟩ := h
    have hr7 : Room 7 _ := hr.mono (by decide)
    refine ⟨_, pss_cons (ps_set (i := 1) sc_tp.nd rfl (Or.inl rfl) (pe_ok GP hr rfl (pa_cons (pe_new MW hr7 rfl T.mgC (pa_cons (pv 0) pa_nil)) pa_nil)))
      (pss_one (ps_ret (pe_op op_cat (pe_lst (pa_cons (pe_fld (pv 1) rfl) pa_nil)) (pe_fld (pv 1) rfl)))), ?_⟩
    refine ⟨_, rfl, fun c dx nc ndx ne => ⟨c, dx, lq, M, rfl, upd_same, ?_, fun H1 lp kn hC1 k1 hkn => ⟨rfl, ?_⟩⟩⟩
    · exact hA.same ((same_upd ndx).trans (same_upd (by rw [upd_ne ne.symm]; exact nc)))
    have s1 : Same H H1 := Same.made nc ndx k1
    have nkn : H kn = none := by
      cases e : H kn with
      | none => rfl
      | some o => rw [upd_ne (ne_of_none e nc), upd_ne (ne_of_none e ndx), e] at hkn; cases hkn
    refine ⟨c, lp, kn, M, rfl, hC1, hT.ext s1, hne, fun H2 q k2 hC2 ⟨ls, _, ⟨dq, e1⟩, e2⟩ => ?_⟩
    have hlv := leaves_perm M.toS M.asked.length (List.range M.asked.length) List.nodup_range (fun z => by
      have := congrArg List.length z
      rw [List.length_range] at this
      exact hne (List.eq_nil_of_length_eq_zero this)) (by rw [List.length_range]; exact Nat.le_refl _)
    have htl := told_len (Md49.best M.toS)
    have hll : (Md49.leaves (Md49.best M.toS)).length = M.asked.length := by
      have := hlv.length_eq
      rw [List.length_range] at this
      exact this
    have h5 := hA.wf.a5
    have g2 := Grow.keep (T := TT) s1 k2 nkn
    refine ⟨_, rfl, q, CL, dq, _, _, rfl, e1, TL.cl, TL.no _ (by simp), fs2_1, (by show 1 ≤ sizeLine; decide), fun p1 hp1 => ?_⟩
    refine ⟨_, rfl, q, CL, dq, _, _, rfl, same_upd hp1 _ _ e1, TL.cl, TL.no _ (by simp), fs2_2, p1, ls, _, _, rfl, rfl, upd_same, same_upd hp1 _ _ e2, (by rw [List.length_map]; show 1 + _ ≤ 2 ^ 24; omega), fun p2 hp2 => ?_⟩
    refine k _ p2 (g2.trans (Grow.of ((same_upd hp1).trans (same_upd hp2)))) (g2.back _ (upd_back hp2)) ?_
    rw [upd_same]
    rfl
end
end Jp
namespace Jp
open PySem PySem.Spec PyProof.Rows L2 LamX
open MdBase (Term Atom varsOf)
/-- an atom has this variable -/
def hasVar (M : Mir) (z : Int) : Bool := decide (0 ≤ z) && (List.range M.asked.length).any fun i => has (varsL M.asked) i z.toNat
def answersAns (M : Mir) (l : List Int) : List Int := if l.all (fun (v : Int) => decide (0 ≤ v) && (Md49.places M.toS).any fun (i : Nat) => (Md49.varsAt M.toS i).contains v.toNat) = false then [-1] else Md49.toldRows (MdBase.sorted ((Md49.together M.toS (Md49.places M.toS)).map (MdBase.values (l.map Int.toNat))))
theorem hasVar_eq {M : Mir} (hs : Small M.asked) (z : Int) : hasVar M z = (decide (0 ≤ z) && (Md49.places M.toS).any fun (i : Nat) => (Md49.varsAt M.toS i).contains z.toNat) := by
  unfold hasVar
  have e : ((List.range M.asked.length).any fun i => has (varsL M.asked) i z.toNat) = (Md49.places M.toS).any fun (i : Nat) => (Md49.varsAt M.toS i).contains z.toNat := any_congr fun i _ => has_eq (s := M.toS) hs i z.toNat
  rw [e]
theorem valV_entZ {ks : List Nat} {z : Int} : (valV (ks.map ent) (Sum.inl z : Key)).isSome = (decide (0 ≤ z) && decide (z.toNat ∈ ks)) := by
  by_cases h : 0 ≤ z
  · obtain ⟨n, rfl⟩ : ∃ n : Nat, z = (n : Int) := ⟨z.toNat, by omega⟩
    rw [valV_ent, decide_eq_true h, Bool.true_and]
    rfl
  · rw [decide_eq_false h, Bool.false_and, Option.isSome_eq_false_iff, Option.isNone_iff_eq_none]
    unfold valV
    rw [Option.map_eq_none_iff, List.find?_eq_none]
    intro e he q
    obtain ⟨k, _, rfl⟩ := List.mem_map.mp he
    have := Sum.inl.inj (of_decide_eq_true q)
    omega
theorem any_has (M : Mir) (z : Int) : ((M.asked.map fun a => decide (0 ≤ z) && decide (z.toNat ∈ vset a.args)).any id) = hasVar M z := by
  unfold hasVar
  rw [List.any_map, Bool.eq_iff_iff, List.any_eq_true, Bool.and_eq_true, List.any_eq_true]
  constructor
  · rintro ⟨a, ha, h⟩
    have h' := Bool.and_eq_true_iff.mp h
    obtain ⟨i, hi⟩ := List.mem_iff_getElem?.mp ha
    refine ⟨h'.1, i, List.mem_range.mpr (List.getElem?_eq_some_iff.mp hi).1, ?_⟩
    unfold has
    rw [varsL_get, List.getD_eq_getElem?_getD, hi]
    exact h'.2
  · rintro ⟨h0, i, hi, h⟩
    have hil := List.mem_range.mp hi
    refine ⟨M.asked[i], List.getElem_mem hil, Bool.and_eq_true_iff.mpr ⟨h0, ?_⟩⟩
    unfold has at h
    rw [varsL_get, List.getD_eq_getElem?_getD, List.getElem?_eq_getElem hil] at h
    exact h
theorem hasVar_of {M : Mir} {z : Int} (h : hasVar M z = true) : 0 ≤ z ∧ ∃ i ∈ List.range M.asked.length, z.toNat ∈ (partAtM M i).vars := by
  unfold hasVar at h
  rw [Bool.and_eq_true, List.any_eq_true] at h
  obtain ⟨h0, i, hi, h1⟩ := h
  refine ⟨of_decide_eq_true h0, i, hi, ?_⟩
  have hil := List.mem_range.mp hi
  rw [partAt_of M hil]
  unfold has at h1
  rw [varsL_get, List.getD_eq_getElem?_getD, List.getElem?_eq_getElem hil] at h1
  exact of_decide_eq_true h1
def spSomeHas (CT CA : Addr) : Sp := fun vs H Q _ => ∃ (lq : Addr) (z : Int) (M : Mir), vs = [.ref lq, .int z] ∧ AskAt CT CA H lq M ∧ ∀ H', Same H H' → Q (.bl (hasVar M z)) H'
section
variable {P : Program} {w : World} {K : PySem.W.Frag} {mg : Str → Option Value} {base : Heap} {CT CA CW CP CL CG : Addr} {TT : List (Addr × Str)}
theorem sc_sh : FnScope ["question", "variable", "atom"] ["question", "variable"] (defScope sSomeAtomHas) := ⟨rfl, rfl, rfl, by decide +kernel, rfl, by decide +kernel, by decide +kernel⟩
theorem ok_someHas (F : Has K mg "some_atom_has" sSomeAtomHas ["question", "variable"]) (N : Plain mg) (GV : Ok P w K mg base "variables_of" 1 ["atom"] (spVariablesOf CA)) : Ok P w K mg base "some_atom_has" 2 ["question", "variable"] (spSomeHas CT CA) := by
  obtain ⟨f, fd, F, M, kp, b⟩ := F
  refine ⟨f, fd, F.ok sc_sh (fun vs H Q E h => ?_) (fun cdv A outer s H vs Q E hr h => ?_), M, kp, b⟩
  · obtain ⟨lq, z, M, rfl, _⟩ := h
    rfl
  · obtain ⟨lq, z, M, rfl, hA, k⟩ := h
    have hu := hu_of hr
    obtain ⟨as, hlq, hats⟩ := hA.ex
    have wf := hA.wf
    have h5 := wf.a5
    refine ⟨_, pss_one (ps_ret (pe_callB (cr_any rfl) (by rfl) N.any (by decide +kernel) (pa_cons
        (pe_lc (own := [("atom", 2)]) (g := gName 2) (tt := tYes) rfl sc_sh.nd (pi_list (pv 0)) (blkOk_by (N := ["question", "variable", "atom"]) (sc := defScope sSomeAtomHas) (by decide +kernel))
          (fun _ _ _ _ _ => pg_name (i := 2) sc_sh.nd rfl (Or.inl rfl)) (fun _ _ _ _ _ => pts_nil)
          (fun _ _ _ _ _ => pe_cmp (pc_din hu (pv 1) (pe_ok GV hr rfl (pa_cons (pv 2) pa_nil))) rfl)) pa_nil))), ?_⟩
    refine ⟨_, rfl, lq, rfl, ⟨_, SqL.of hlq⟩, fun D hD => lc_val (bs := M.asked.map fun a => decide (0 ≤ z) && decide (z.toNat ∈ vset a.args)) (F := V.bl) walk_list (fun i H x H' _ y => y) (fun H' s' => s'.seq (SqL.of hlq)) hD (by rw [List.length_map, hats.1]; show _ ≤ 2 ^ 24; omega) (by rw [List.length_map, List.length_map, hats.1]) ?_ ?_⟩
    · intro m y u H1 Nn hm hy hu1 s1 hN
      obtain ⟨a, ha, rfl⟩ := get_map hy
      obtain ⟨x, hx, ta, l, lr, c, rps, f1, f2, f3, f4⟩ := hats.get ha
      rw [List.getElem?_map, hx] at hu1
      cases hu1
      have hxl := wf.fair.args x (List.mem_of_getElem? hx)
      refine ⟨rfl, _, rfl, _, rfl, a, ta, l, x.args, rfl, f1.same s1, by omega, fun H2 d s2 nd hd => ⟨d, _, rfl, .inl ⟨_, Sum.inl z, Or.inl hd, rfl, rfl⟩, ?_⟩⟩
      rw [valV_entZ]
      exact hN H2 s2
    · intro H1 s1 hD1
      refine ⟨D, _, rfl, SqL.of hD1, ?_⟩
      rw [any_has]
      exact k H1 s1
theorem sc_ta : FnScope ["question", "variables", "groups", "places", "told", "group", "variable"] ["question", "variables"] (defScope sTellAnswers) := ⟨rfl, rfl, rfl, by decide +kernel, rfl, by decide +kernel, by decide +kernel⟩
theorem ok_tellAnswers (F : Has K mg "tell_answers" sTellAnswers ["question", "variables"]) (N : Plain mg) (TG : Klass K mg "Groups" CG ["variables", "sizes"]) (cw : IntC mg "WRONG" (-1)) (GS : Ok P w K mg base "some_atom_has" 2 ["question", "variable"] (spSomeHas CT CA)) (GPs : Ok P w K mg base "parts_of" 5 ["atoms"] (spPartsOf CT CA CP))
    (GG : Ok P w K mg base "group_ways" 4 ["parts", "asked"] (spGroupWays K CP CG)) (GL : Ok P w K mg base "places_of" 1 ["variables", "among"] (spPlacesOf K)) (GP : Ok P w K mg base "pick" 1 ["source", "places"] spPick) : Ok P w K mg base "tell_answers" 6 ["question", "variables"] (spTellN TT K CT CA answersAns) := by
  obtain ⟨f, fd, F, M, kp, b⟩ := F
  refine ⟨f, fd, F.ok sc_ta (fun vs H Q E h => ?_) (fun cdv A outer s H vs Q E hr h => ?_), M, kp, b⟩
  · obtain ⟨lq, ln, M, ns, rfl, _⟩ := h
    rfl
  · obtain ⟨lq, ln, M, ns, rfl, hA, hne, hT, hns, hnl, k⟩ := h
    have hr1 : Room 1 _ := hr.mono (by decide)
    have hr2 : Room 2 _ := hr.mono (by decide)
    have hr4 : Room 4 _ := hr.mono (by decide)
    obtain ⟨as, hlq, hats⟩ := id hA.ex
    have wf := hA.wf
    have h5 := wf.a5
    refine ⟨_, pss_cons (ps_if (pt_not (pt_val (pe_callB (cr_all rfl) (by rfl) N.all (by decide +kernel) (pa_cons
        (pe_lc (own := [("variable", 6)]) (g := gName 6) (tt := tYes) rfl sc_ta.nd (pi_list (pv 1)) (blkOk_by (N := ["question", "variables", "groups", "places", "told", "group", "variable"]) (sc := defScope sTellAnswers) (by decide +kernel))
          (fun _ _ _ _ _ => pg_name (i := 6) sc_ta.nd rfl (Or.inl rfl)) (fun _ _ _ _ _ => pts_nil) (fun _ _ _ _ _ => pe_ok GS hr2 rfl (pa_cons (pv 0) (pa_cons (pv 6) pa_nil)))) pa_nil)))) (pss_one (ps_ret (pe_lst (pa_cons (pe_const cw rfl) pa_nil)))) pss_nil)
      (pss_cons (ps_set (i := 2) sc_ta.nd rfl (Or.inl rfl) (pe_ok GG hr4 rfl (pa_cons (pe_ok GPs hr rfl (pa_cons (pv 0) pa_nil)) (pa_cons (pv 1) pa_nil))))
      (pss_cons (ps_set (i := 3) sc_ta.nd rfl (Or.inl rfl) (pe_ok GL hr1 rfl (pa_cons (pv 1) (pa_cons (pe_fld (pv 2) rfl) pa_nil))))
      (pss_cons (ps_set (i := 4) sc_ta.nd rfl (Or.inl rfl) (pe_lst (pa_cons (pe_callB call_len_dT (by rfl) N.len PySem.boot_len (pa_cons (pe_fld (pv 2) rfl) pa_nil)) pa_nil)))
      (pss_cons (ps_for PassesOwn.never rfl (pi_list (pe_callB (cr_sortDT (groupM (partsM M.tabs M.asked) (ns.map Int.toNat)).vars.length rfl) (by rfl) N.sorted (by decide +kernel) (pa_cons (pe_fld (pv 2) rfl) pa_nil))) (pg_name (i := 5) sc_ta.nd rfl (Or.inl rfl))
        (pss_one (ps_expr (pe_bm PySem.F.plainAttrs_list PySem.F.slot_list_extend PySem.F.type_list_extend mt_extendT (pv 4) (pa_cons (pe_ok GP hr1 rfl (pa_cons (pv 5) (pa_cons (pv 3) pa_nil))) pa_nil)))))
      (pss_one (ps_ret (pv 4))))))), ?_⟩
    refine ⟨_, rfl, ln, rfl, ⟨_, hns⟩, fun D hD => lc_val (bs := ns.map (hasVar M)) (F := V.bl) walk_list (fun i H x H' _ y => y) (fun H' s' => s'.seq hns) hD (by rw [List.length_map]; show _ ≤ 2 ^ 24; omega) (by rw [List.length_map, List.length_map]) ?_ ?_⟩
    · intro m y u H1 Nn hm hy hu1 s1 hN
      obtain ⟨z, hz, rfl⟩ := get_map hy
      rw [List.getElem?_map, hz] at hu1
      cases hu1
      exact ⟨rfl, _, rfl, _, rfl, lq, z, M, rfl, hA.same s1, fun H2 s2 => hN H2 s2⟩
    intro H1 s1 hD1
    refine ⟨D, _, rfl, SqL.of hD1, _, rfl, ?_⟩
    have eall : (ns.map (hasVar M)).all id = ns.all fun v => decide (0 ≤ v) && (Md49.places M.toS).any fun i => (Md49.varsAt M.toS i).contains v.toNat := by
      rw [List.all_map]
      congr 1
      funext z
      exact hasVar_eq wf.small z
    unfold answersAns at k
    rw [← eall] at k
    cases hall : (ns.map (hasVar M)).all id with
    | false =>
      rw [hall, if_pos rfl] at k
      exact ifT rfl ⟨(by show 1 ≤ sizeLine; decide), fun p hp => k _ p ((Grow.of s1).trans (Grow.of (same_upd hp))) (s1.free hp) upd_same⟩
    | true =>
      rw [hall, if_neg (by decide)] at k
      refine ifF rfl ?_
      have hhas : ∀ z ∈ ns, hasVar M z = true := fun z hz => by
        rw [List.all_map, List.all_eq_true] at hall
        exact hall z hz
      have ens : ns = natsI (ns.map Int.toNat) := by
        unfold natsI
        rw [List.map_map]
        refine (List.map_id ns).symm.trans (List.map_congr_left fun x hx => ?_)
        have := (hasVar_of (hhas x hx)).1
        show x = ((x.toNat : Nat) : Int)
        omega
      have hvars : ∀ v ∈ ns.map Int.toNat, ∃ i ∈ List.range M.asked.length, v ∈ (partAtM M i).vars := fun v hv => by
        obtain ⟨z, hz, rfl⟩ := List.mem_map.mp hv
        exact (hasVar_of (hhas z hz)).2
      have hlen : (ns.map Int.toNat).length ≤ 100 := by rw [List.length_map]; exact hnl
      have hns' : SqL K H ln ((ns.map Int.toNat).map nV) := by
        rw [← natsI_V, ← ens]
        exact hns
      generalize ns.map Int.toNat = asked at hvars hlen hns' k ⊢
      have hrne : List.range M.asked.length ≠ [] := fun z => by
        have := congrArg List.length z
        rw [List.length_range] at this
        exact hne (List.eq_nil_of_length_eq_zero this)
      have fine : FineP (partsM M.tabs M.asked) := by
        rw [parts_list]
        exact parts_fine wf (by rw [List.length_range]; exact h5) fun i hi => List.mem_range.mp hi
      have gok := groupI_ok (ps := partsM M.tabs M.asked) (asked := asked) fine hlen _ (Nat.le_refl _)
      rw [groupI_all] at gok
      obtain ⟨g1, g2, g3⟩ := gok
      have htal := (group_ok (asked := asked) (partOf_all wf) (List.range M.asked.length)).2
      have hgv := group_vars (asked := asked) (partOf_all wf) hrne hvars
      have hga := @group_answers _ asked _ (List.range M.asked.length) (partOf_all wf) hrne hvars
      rw [← parts_list] at htal hgv hga
      have htog : (Md49.together M.toS (Md49.places M.toS)).map (MdBase.values asked) = (WF (famOf M.tabs M.asked) (fun _ => none) (List.range M.asked.length)).map (keyOf asked) := by
        have e : WF (famOf M.tabs M.asked) (fun _ => none) (List.range M.asked.length) = (Md49.together M.toS (List.range M.asked.length)).map fn := (together_fn (S := M.toS) (tabs := M.tabs) rfl wf.fair (l := List.range M.asked.length) fun i hi => List.mem_range.mp hi).symm
        rw [e, List.map_map]
        rfl
      rw [htog] at k
      refine ⟨_, rfl, lq, as, M.asked, M.tabs, rfl, s1 _ _ hlq, hats.mono (fun _ _ _ e => e.same s1), wf.fair, fun H2 lps s2 nlps hlps => ?_⟩
      have s12 := s1.trans s2
      refine ⟨_, rfl, lps, ln, partsM M.tabs M.asked, asked, rfl, hlps, s12.seq hns', fine, hlen, fun H3 q s3 nq ⟨lv, d, ⟨dq, hq⟩, hlv, hd⟩ => ?_⟩
      have s13 := s12.trans s3
      have hpl : (partsM M.tabs M.asked).length = M.asked.length := by rw [parts_list, List.length_map, List.length_range]
      rw [hpl] at g2
      generalize groupM (partsM M.tabs M.asked) asked = g at g1 g2 g3 htal hgv hga hlv hd ⊢
      have hsub : ∀ v ∈ asked, v ∈ g.vars := fun v hv => by
        rw [hgv]
        exact (mem_vadds asked []).mpr (Or.inr hv)
      -- places
      refine ⟨_, rfl, _, rfl, q, CG, dq, _, _, rfl, hq, TG.cl, TG.no _ (by simp), fs2_1, ln, lv, asked, g.vars, rfl, s13.seq hns', hlv, by omega, hsub, fun H4 lpl s4 nlpl hlpl => ?_⟩
      have s14 := s13.trans s4
      -- told
      refine ⟨_, rfl, q, CG, dq, _, _, rfl, s4 _ _ hq, TG.cl, TG.no _ (by simp), fs2_2, d, _, rfl, s4 _ _ hd, (by show 1 ≤ sizeLine; decide), fun p hp => ?_⟩
      rw [List.length_map]
      have s5 : Same H4 (upd H4 p (.lst [V.int ((g.sizes.length : Nat) : Int)])) := same_upd hp
      have hp5 : upd H4 p (.lst [V.int ((g.sizes.length : Nat) : Int)]) p = some (.lst [V.int ((g.sizes.length : Nat) : Int)]) := upd_same
      have np : H p = none := s14.free hp
      generalize upd H4 p (.lst [V.int ((g.sizes.length : Nat) : Int)]) = H5 at s5 hp5
      have s15 := s14.trans s5
      have hd5 : H5 d = some (.dT ((g.sizes.map fun e => (e.1, V.int (e.2 : Int))).map fun e => (kI e.1, e.2))) := by
        rw [s5 _ _ (s4 _ _ hd), List.map_map]
        rfl
      have hnd : (g.sizes.map (·.1)).Nodup := htal.nd
      have hone : 1 ≤ g.vars.length ∨ (g.sizes.map fun e => (e.1, V.int (e.2 : Int))).length < 2 := by
        rcases Nat.eq_zero_or_pos g.vars.length with h0 | h0
        · refine Or.inr ?_
          rw [List.length_map, ← List.length_map (f := (·.1)) (as := g.sizes)]
          refine Nat.lt_succ_of_le (List.Nodup.length_le_of_subset (l₂ := [[]]) hnd fun x hx => ?_)
          obtain ⟨e, he, rfl⟩ := List.mem_map.mp hx
          have := g3 e he
          rw [h0] at this
          exact List.mem_singleton.mpr (List.eq_nil_of_length_eq_zero this)
        · exact Or.inl h0
      refine ⟨_, rfl, q, CG, dq, _, _, rfl, s5 _ _ (s4 _ _ hq), TG.cl, TG.no _ (by simp), fs2_2, d, _, rfl, hd5, (fun e he => by obtain ⟨u, hu, rfl⟩ := List.mem_map.mp he; exact g3 u hu), hone, fun us bs lu hbs hperm hpw nlu => ?_⟩
      have ekeys : (g.sizes.map fun e => (e.1, V.int (e.2 : Int))).map (·.1) = g.sizes.map (·.1) := by
        rw [List.map_map]
        rfl
      rw [ekeys] at hbs
      have hrow : ∀ u ∈ us, RowAt H5 u (rowOf H5 u) ∧ (rowOf H5 u).length = g.vars.length := fun u hu => by
        obtain ⟨i, hi⟩ := List.mem_iff_getElem?.mp (hperm.mem_iff.mp hu)
        obtain ⟨y, hy, hr⟩ := hbs.get hi
        rw [hr.row]
        obtain ⟨e, he, rfl⟩ := get_mapA hy
        exact ⟨hr, g3 e (List.mem_of_getElem? he)⟩
      have hys : (us.map (rowOf H5)).Perm (g.sizes.map (·.1)) := by
        rw [rows_eq hbs]
        exact hperm.map _
      have hans := hga hys (List.pairwise_map.mpr hpw)
      rw [← hans] at k
      have hul : us.length = g.sizes.length := by rw [← List.length_map (f := rowOf H5), hys.length_eq, List.length_map]
      have hsl : g.sizes.length ≤ 100000 := by
        have : (10 : Nat) ^ M.asked.length ≤ 10 ^ 5 := Nat.pow_le_pow_right (by decide) h5
        have e5 : (10 : Nat) ^ 5 = 100000 := by decide
        omega
      have s6 : Same H5 (upd H5 lu (.lst (us.map V.ref))) := same_upd nlu
      have hlu6 : upd H5 lu (.lst (us.map V.ref)) lu = some (.lst (us.map V.ref)) := upd_same
      have npl : lu ≠ p := fun z => by rw [z, hp5] at nlu; cases nlu
      have hrow6 : ∀ u ∈ us, RowAt (upd H5 lu (.lst (us.map V.ref))) u (rowOf H5 u) ∧ (rowOf H5 u).length = g.vars.length := fun u hu => ⟨s6 _ _ (hrow u hu).1, (hrow u hu).2⟩
      generalize hR : rowOf H5 = R at hrow6 k hans hys
      generalize upd H5 lu (.lst (us.map V.ref)) = H6 at s6 hlu6 hrow6
      have hp6 := s6 _ _ hp5
      have hlpl6 : NumsAt H6 lpl (placesM asked g.vars) := s6 _ _ (s5 _ _ hlpl)
      refine ⟨lu, rfl, ⟨_, SqL.of hlu6⟩, ?_⟩
      have hplen : (placesM asked g.vars).length ≤ 100 := by
        unfold placesM
        rw [List.length_map]
        exact hlen
      have hflat : ∀ l : List Addr, ((l.map fun u => pickT (R u) (placesM asked g.vars)).flatten).length ≤ l.length * 100 := fun l => by
        induction l with
        | nil => exact Nat.zero_le _
        | cons u l ih =>
          rw [List.map_cons, List.flatten_cons, List.length_append, List.length_cons]
          have : (pickT (R u) (placesM asked g.vars)).length ≤ 100 := by
            unfold pickT
            rw [List.length_map]
            exact hplen
          omega
      refine for_list (K := K) (a := lu) (xs := us.map V.ref) (fun i σ H' => ∃ v5 : Option V, σ = [some (.ref lq), some (.ref ln), some (.ref q), some (.ref lpl), some (.ref p), v5, none] ∧ But p H6 H' ∧ H' p = some (.lst ((((g.sizes.length : Nat) : Int) :: ((us.take i).map fun u => pickT (R u) (placesM asked g.vars)).flatten).map V.int)))
        ⟨none, rfl, But.of_same (Same.refl _), by rw [hp6]; rfl⟩ (fun i σ H' _ ⟨_, _, bt, _⟩ => SqL.of (bt _ _ hlu6 npl)) ?_ ?_
      · rintro i y σ H7 hi ⟨v5, rfl, bt7, hp7⟩
        obtain ⟨u, hu, rfl⟩ := get_map hi
        have hil := (List.getElem?_eq_some_iff.mp hu).1
        obtain ⟨hru, hrl⟩ := hrow6 u (List.mem_of_getElem? hu)
        have hru7 : H7 u = some (.tup ((R u).map V.int)) := bt7 _ _ hru (ne_of hru hp6 (by intro z; cases z))
        have hlpl7 : NumsAt H7 lpl (placesM asked g.vars) := bt7 _ _ hlpl6 (ne_of_none (show H4 lpl = some (.lst ((placesM asked g.vars).map nV)) from hlpl) hp)
        refine ⟨_, rfl, .inl ⟨rfl, _, SqL.of hp7⟩, _, rfl, _, rfl, u, lpl, placesM asked g.vars, rfl, hlpl7, by omega, .inr ⟨R u, hru7, (fun x hx => by rw [hrl]; exact place_lt hsub x hx), fun H8 t s8 nt ht => ?_⟩⟩
        have hp8 := s8 _ _ hp7
        refine ⟨p, t, _, _, rfl, rfl, hp8, SqT.of ht, ?_, ⟨_, rfl, (bt7.trans (But.of_same s8)).upd, ?_⟩⟩
        · have h1 := hflat (us.take i)
          have h2 : (pickT (R u) (placesM asked g.vars)).length ≤ 100 := by
            unfold pickT
            rw [List.length_map]
            exact hplen
          rw [List.length_take] at h1
          rw [List.length_map, List.length_cons, List.length_map]
          show _ ≤ 2 ^ 24
          omega
        · rw [upd_same, take_snoc hu, List.map_append, List.flatten_append]
          simp
      · rintro σ H7 ⟨v5, rfl, bt7, hp7⟩
        rw [List.length_map, List.take_length] at hp7
        refine ⟨_, rfl, k H7 p (Grow.of fun c o e => bt7 _ _ (s6 _ _ (s15 _ _ e)) (ne_of_none e np)) np ?_⟩
        rw [hp7]
        unfold Md49.toldRows
        rw [List.length_map, List.length_map, hul, List.map_map]
        rfl
end
end Jp
/-! The flat list of calls, call by call. Plain Lean. -/
namespace JpFlat
open PyFlat PyMd49
theorem whole_id (c : List (List Int)) : whole c = c := by
  unfold whole
  split <;> rfl
theorem row_drop {l x t : List Int} (h : row l = some (x, t)) : ∃ n : Nat, l[0]? = some (n : Int) ∧ 1 + n ≤ l.length ∧ x = (l.drop 1).take n ∧ t = l.drop (1 + n) := by
  cases l with
  | nil => cases h
  | cons n r =>
    rw [row] at h
    by_cases q : 0 ≤ n ∧ n.toNat ≤ r.length
    · rw [if_pos q] at h
      cases h
      refine ⟨n.toNat, ?_, ?_, rfl, ?_⟩
      · show some n = some ((n.toNat : Nat) : Int)
        congr 1
        omega
      · rw [List.length_cons]
        omega
      · rw [Nat.add_comm]
        rfl
    · rw [if_neg q] at h
      cases h
/-- the shapes that there are -/
theorem shape_some {p : Int} {n k : Nat} (h : shape p = some (n, k)) : (n = 0 ∧ k = 0 ∧ (p = 0 ∨ p = 4 ∨ p = 6 ∨ p = 8 ∨ p = 10)) ∨ (n = 1 ∧ k = 0 ∧ (p = 1 ∨ p = 5)) ∨ (n = 0 ∧ k = 1 ∧ (p = 3 ∨ p = 7 ∨ p = 9)) ∨ (n = 1 ∧ k = 1 ∧ p = 2) := by
  unfold shape at h
  by_cases e0 : p = 0
  · rw [if_pos e0] at h
    cases h
    exact Or.inl ⟨rfl, rfl, by omega⟩
  rw [if_neg e0] at h
  by_cases e1 : p = 1
  · rw [if_pos e1] at h
    cases h
    exact Or.inr (Or.inl ⟨rfl, rfl, by omega⟩)
  rw [if_neg e1] at h
  by_cases e2 : p = 2
  · rw [if_pos e2] at h
    cases h
    exact Or.inr (Or.inr (Or.inr ⟨rfl, rfl, by omega⟩))
  rw [if_neg e2] at h
  by_cases e3 : p = 3
  · rw [if_pos e3] at h
    cases h
    exact Or.inr (Or.inr (Or.inl ⟨rfl, rfl, by omega⟩))
  rw [if_neg e3] at h
  by_cases e4 : p = 4
  · rw [if_pos e4] at h
    cases h
    exact Or.inl ⟨rfl, rfl, by omega⟩
  rw [if_neg e4] at h
  by_cases e5 : p = 5
  · rw [if_pos e5] at h
    cases h
    exact Or.inr (Or.inl ⟨rfl, rfl, by omega⟩)
  rw [if_neg e5] at h
  by_cases e6 : p = 6
  · rw [if_pos e6] at h
    cases h
    exact Or.inl ⟨rfl, rfl, by omega⟩
  rw [if_neg e6] at h
  by_cases e7 : p = 7
  · rw [if_pos e7] at h
    cases h
    exact Or.inr (Or.inr (Or.inl ⟨rfl, rfl, by omega⟩))
  rw [if_neg e7] at h
  by_cases e8 : p = 8
  · rw [if_pos e8] at h
    cases h
    exact Or.inl ⟨rfl, rfl, by omega⟩
  rw [if_neg e8] at h
  by_cases e9 : p = 9
  · rw [if_pos e9] at h
    cases h
    exact Or.inr (Or.inr (Or.inl ⟨rfl, rfl, by omega⟩))
  rw [if_neg e9] at h
  by_cases e10 : p = 10
  · rw [if_pos e10] at h
    cases h
    exact Or.inl ⟨rfl, rfl, by omega⟩
  rw [if_neg e10] at h
  cases h
/-- a call without numbers, with one, with a list, with both -/
inductive Is : List Int → List (List Int) → List Int → Prop
  | zero (p : Int) (t : List Int) : (p = 0 ∨ p = 4 ∨ p = 6 ∨ p = 8 ∨ p = 10) → Is (p :: t) [[p]] t
  | one (p a : Int) (t : List Int) : (p = 1 ∨ p = 5) → Is (p :: a :: t) [[p, a]] t
  | list (p : Int) (n : Nat) (r : List Int) : (p = 3 ∨ p = 7 ∨ p = 9) → n ≤ r.length → Is (p :: (n : Int) :: r) [[p], r.take n] (r.drop n)
  | both (a : Int) (n : Nat) (r : List Int) : n ≤ r.length → Is (2 :: a :: (n : Int) :: r) [[2, a], r.take n] (r.drop n)
theorem row_cons {l x t : List Int} (h : row l = some (x, t)) : ∃ (n : Nat) (r : List Int), l = (n : Int) :: r ∧ n ≤ r.length ∧ x = r.take n ∧ t = r.drop n := by
  cases l with
  | nil => cases h
  | cons n r =>
    rw [row] at h
    by_cases q : 0 ≤ n ∧ n.toNat ≤ r.length
    · rw [if_pos q] at h
      cases h
      refine ⟨n.toNat, r, ?_, q.2, rfl, rfl⟩
      congr 1
      omega
    · rw [if_neg q] at h
      cases h
theorem call_is {l : List Int} {c : List (List Int)} {t : List Int} (h : call shape l = some (c, t)) : Is l c t := by
  cases l with
  | nil => cases h
  | cons p r =>
    rw [call] at h
    cases hs : shape p with
    | none => rw [hs] at h; cases h
    | some nk =>
      obtain ⟨n, k⟩ := nk
      rw [hs] at h
      simp only at h
      by_cases hl : r.length < n
      · rw [if_pos hl] at h
        cases h
      · rw [if_neg hl] at h
        have r0 : ∀ (s : List Int), rows 0 s = some ([], s) := fun s => rfl
        have r1 : ∀ (s : List Int), rows 1 s = match row s with | none => none | some (x, s) => some ([x], s) := fun s => by
          show (match row s with | none => none | some (x, s) => match rows 0 s with | none => none | some (xs, t) => some (x :: xs, t)) = _
          cases row s <;> rfl
        have case0 : n = 0 → k = 0 → (p = 0 ∨ p = 4 ∨ p = 6 ∨ p = 8 ∨ p = 10) → Is (p :: r) c t := fun e1 e2 e3 => by
          subst e1 e2
          rw [List.drop_zero, r0] at h
          cases h
          exact .zero p _ e3
        have case1 : n = 1 → k = 0 → (p = 1 ∨ p = 5) → Is (p :: r) c t := fun e1 e2 e3 => by
          subst e1 e2
          cases r with
          | nil => exact absurd (Nat.zero_lt_one) hl
          | cons a r =>
            rw [List.drop_succ_cons, List.drop_zero, r0] at h
            cases h
            exact .one p a _ e3
        have case2 : n = 0 → k = 1 → (p = 3 ∨ p = 7 ∨ p = 9) → Is (p :: r) c t := fun e1 e2 e3 => by
          subst e1 e2
          rw [List.drop_zero, r1] at h
          cases hr : row r with
          | none => rw [hr] at h; cases h
          | some xs =>
            obtain ⟨x, s⟩ := xs
            rw [hr] at h
            cases h
            obtain ⟨m, r', rfl, hm, rfl, rfl⟩ := row_cons hr
            exact .list p m r' e3 hm
        have case3 : n = 1 → k = 1 → p = 2 → Is (p :: r) c t := fun e1 e2 e3 => by
          subst e1 e2 e3
          cases r with
          | nil => exact absurd (Nat.zero_lt_one) hl
          | cons a r =>
            rw [List.drop_succ_cons, List.drop_zero, r1] at h
            cases hr : row r with
            | none => rw [hr] at h; cases h
            | some xs =>
              obtain ⟨x, s⟩ := xs
              rw [hr] at h
              cases h
              obtain ⟨m, r', rfl, hm, rfl, rfl⟩ := row_cons hr
              exact .both a m r' hm
        rcases shape_some hs with ⟨a, b, d⟩ | ⟨a, b, d⟩ | ⟨a, b, d⟩ | ⟨a, b, d⟩
        · exact case0 a b d
        · exact case1 a b d
        · exact case2 a b d
        · exact case3 a b d
/-- a call takes one number at least; the rest is what stands behind -/
theorem Is.rest {l : List Int} {c : List (List Int)} {t : List Int} (h : Is l c t) : ∃ k, 1 ≤ k ∧ k ≤ l.length ∧ t = l.drop k := by
  cases h with
  | zero p t _ => exact ⟨1, Nat.le_refl _, by simp, rfl⟩
  | one p a t _ => exact ⟨2, by omega, by simp, rfl⟩
  | list p n r _ hn => exact ⟨2 + n, by omega, by simp; omega, by rw [Nat.add_comm 2 n]; rfl⟩
  | both a n r hn => exact ⟨3 + n, by omega, by simp; omega, by rw [Nat.add_comm 3 n]; rfl⟩
theorem calls_nil {f : Nat} {cs : List (List (List Int))} (h : PyFlat.calls shape f [] = some cs) : cs = [] := by
  cases f <;> (cases h; rfl)
theorem calls_cons {f : Nat} {l : List Int} {cs : List (List (List Int))} (hl : l ≠ []) (h : PyFlat.calls shape f l = some cs) : ∃ c cs' t f', cs = c :: cs' ∧ call shape l = some (c, t) ∧ PyFlat.calls shape f' t = some cs' := by
  cases l with
  | nil => exact absurd rfl hl
  | cons p r =>
    cases f with
    | zero => cases h
    | succ f =>
      rw [PyFlat.calls] at h
      cases hc : call shape (p :: r) with
      | none => rw [hc] at h; cases h
      | some ct =>
        obtain ⟨c, t⟩ := ct
        rw [hc] at h
        simp only at h
        cases hr : PyFlat.calls shape f t with
        | none => rw [hr] at h; cases h
        | some cs' =>
          rw [hr] at h
          cases h
          exact ⟨c, cs', t, f, rfl, rfl, hr⟩
/-- what is asked of a list, as far as it is used -/
theorem asked_of {l : List Int} (h : answers_asked l = true) : ∃ cs, PyFlat.calls shape l.length l = some cs ∧ (∀ c ∈ cs, Md49Neutral.asked1 c = true) ∧ answers l = told (played Md49Neutral.step Md49Neutral.start cs) ∧ (answers l).length ≤ 10000000 := by
  unfold answers_asked at h
  cases hc : PyFlat.calls shape l.length l with
  | none => rw [hc] at h; cases h
  | some cs =>
    rw [hc] at h
    simp only [Bool.and_eq_true] at h
    obtain ⟨⟨⟨⟨h1, h2⟩, h3⟩, h4⟩, h5⟩ := h
    have e : cs.map whole = cs := by
      have : cs.map whole = cs.map id := List.map_congr_left fun c _ => whole_id c
      rw [this, List.map_id]
    rw [e] at h4
    unfold Md49Neutral.asked at h4
    rw [Bool.and_eq_true, List.all_eq_true] at h4
    refine ⟨cs, rfl, h4.1, ?_, of_decide_eq_true h5⟩
    unfold answers PyMd49.calls
    rw [hc]
    simp only
    rw [e]
theorem told_cons (a : List Int) (r : List (List Int)) : told (a :: r) = (a.length : Int) :: a ++ told r := by
  unfold told
  rw [List.flatMap_cons]
theorem played_cons (s : Md49.St) (c : List (List Int)) (r : List (List (List Int))) : played Md49Neutral.step s (c :: r) = (Md49Neutral.step s c).2 :: played Md49Neutral.step (Md49Neutral.step s c).1 r := rfl
end JpFlat
namespace Jp
open PySem PySem.Spec PyProof.Rows L2 LamX
open MdBase (Term Atom varsOf)
theorem free_but {D : Addr} {H H1 : Hp} {u : HO} (b : But D H H1) (hD : H1 D = some u) {l : Addr} (h : H1 l = none) : H l = none := by
  cases q : H l with
  | none => rfl
  | some o =>
    by_cases e : l = D
    · rw [e, hD] at h
      cases h
    · rw [b l o q e] at h
      cases h
theorem Grow.seq {T : List (Addr × Str)} {K : PySem.W.Frag} {H H' : Hp} (g : Grow T H H') {b : Addr} {xs : List V} (e : SqL K H b xs) : SqL K H' b xs := by
  rcases e with e | e
  · rcases e with e | ⟨o, e⟩
    · exact .inl (.inl (g.stay _ _ e (by intro ps z; cases z)))
    · exact .inl (.inr ⟨o, g.stay _ _ e (by intro ps z; cases z)⟩)
  · exact .inr e
/-- behind a call: the state, the reader, the answer's list; all else but the tables stands -/
def CallPost (T : List (Addr × Str)) (CS CT CA CR : Addr) (H : Hp) (st rd ln : Addr) (L : Lay) (pl : Nat) (H' : Hp) (p : Addr) (S : Md49.St) (ans : List Int) : Prop :=
  ∃ L' M', M'.toS = S ∧ StAt CS CT CA H' st L' M' ∧ ReadAt CR H' rd ln pl ∧ (∀ b o, H b = some o → b ∉ st :: rd :: L.own → (∀ ps, o ≠ .tbl ps) → H' b = some o) ∧ (∀ b, b ∉ st :: rd :: L.own → H' b = none → H b = none) ∧ Tabs T H' ∧ (∀ l ∈ L'.own, l ∈ L.own ∨ H l = none) ∧ H p = none ∧ p ∉ L'.own ∧ H' p = some (.lst (ans.map V.int))
def spAnswerCall (T : List (Addr × Str)) (K : PySem.W.Frag) (CS CT CA CR : Addr) : Sp := fun vs H Q _ => ∃ (st rd ln : Addr) (L : Lay) (M : Mir) (pl pl' : Nat) (ns : List Int) (c : List (List Int)), vs = [.ref st, .ref rd] ∧ Tabs T H ∧ StAt CS CT CA H st L M ∧ ReadAt CR H rd ln pl ∧ SqL K H ln (ns.map V.int) ∧
  JpFlat.Is (ns.drop pl) c (ns.drop pl') ∧ pl < pl' ∧ pl' ≤ ns.length ∧ Md49Neutral.asked1 c = true ∧ (Md49Neutral.step M.toS c).2.length ≤ 10000000 ∧
  ∀ H' p, CallPost T CS CT CA CR H st rd ln L pl' H' p (Md49Neutral.step M.toS c).1 (Md49Neutral.step M.toS c).2 → Q (.ref p) H'
def spAnswers (T : List (Addr × Str)) (K : PySem.W.Frag) : Sp := fun vs H Q _ => ∃ (a : Addr) (ns : List Int), vs = [.ref a] ∧ Tabs T H ∧ SqL K H a (ns.map V.int) ∧ PyMd49.answers_asked ns = true ∧
  ∀ (H' : Hp) (p : Addr), H' p = some (.lst ((PyMd49.answers ns).map V.int)) → Q (.ref p) H'
section
variable {P : Program} {w : World} {K : PySem.W.Frag} {mg : Str → Option Value} {base : Heap} {CS CT CA CR : Addr} {TT : List (Addr × Str)}
theorem sc_an : FnScope ["calls", "store", "reader", "told", "numbers"] ["calls"] (defScope sAnswers) := ⟨rfl, rfl, rfl, by decide +kernel, rfl, by decide +kernel, by decide +kernel⟩
theorem fn_answers {k : Nat} {f : Addr} {fd : FuncData} (hk : 2 ≤ k) (F : Fun K "answers" "answers" sAnswers f fd) (N : Plain mg) (TS : Klass K mg "Store" CS ["tables", "question"]) (TR : Klass K mg "Reader" CR ["numbers", "place"]) (MS : Made P w K mg base CS 1 ["self"] (spStoreInit CS))
    (MR : Made P w K mg base CR 1 ["self", "numbers"] (spReaderInit CR)) (GM : OkM P w K mg base CR "has_more" 1 ["self"] (spHasMore K CR)) (GC : Ok P w K mg base "answer_call" k ["store", "reader"] (spAnswerCall TT K CS CT CA CR)) :
    FnOk P w K mg base CX0 (k + 1) f fd ["calls"] (spAnswers TT K) := by
  refine F.ok sc_an (fun vs H Q E h => ?_) (fun cdv A outer s H vs Q E hr h => ?_)
  · obtain ⟨a, ns, rfl, _⟩ := h
    rfl
  · obtain ⟨a, ns, rfl, hT, hns, hask, kq⟩ := h
    have hr1 : Room 1 _ := hr.mono (by omega)
    have hr2 : Room 2 _ := hr.mono hk
    refine ⟨_, pss_cons (ps_set (i := 1) sc_an.nd rfl (Or.inl rfl) (pe_new0 MS hr2 rfl TS.mgC))
      (pss_cons (ps_set (i := 2) sc_an.nd rfl (Or.inl rfl) (pe_new MR hr2 rfl TR.mgC (pa_cons (pv 0) pa_nil)))
      (pss_cons (ps_set (i := 3) sc_an.nd rfl (Or.inl rfl) (pe_lst pa_nil))
      (pss_cons (ps_while PassesOwn.never (pt_val (pe_okM0 GM TR.cl hr1 (pv 2)))
        (pss_cons (ps_set (i := 4) sc_an.nd rfl (Or.inl rfl) (pe_ok GC hr rfl (pa_cons (pv 1) (pa_cons (pv 2) pa_nil))))
        (pss_cons (ps_expr (pe_bm PySem.F.plainAttrs_list PySem.F.slot_list_append PySem.F.type_list_append mt_append (pv 3) (pa_cons (pe_callB call_len_seq (by rfl) N.len PySem.boot_len (pa_cons (pv 4) pa_nil)) pa_nil)))
        (pss_one (ps_expr (pe_bm PySem.F.plainAttrs_list PySem.F.slot_list_extend PySem.F.type_list_extend mt_extend (pv 3) (pa_cons (pv 4) pa_nil)))))))
      (pss_one (ps_ret (pv 3)))))), ?_⟩
    obtain ⟨cs, hcs, hall, hans, hlen⟩ := JpFlat.asked_of hask
    -- store = Store()
    intro st dx nst ndx nex
    refine ⟨st, dx, rfl, upd_same, fun H1 lt lq hst nlt nlq nltq hlt hlq k1 => ⟨rfl, ?_⟩⟩
    have s1 : Same H H1 := Same.made nst ndx k1
    have old : ∀ l, upd (upd H dx (.own st)) st (.ins CS dx []) l = none → H l = none := fun l q => by
      cases e : H l with
      | none => rfl
      | some o => rw [upd_ne (ne_of_none e nst), upd_ne (ne_of_none e ndx), e] at q; cases q
    have hS1 : StAt CS CT CA H1 st ⟨lt, lq, [], [], [], []⟩ Mir.start :=
      ⟨hst, hlt, hlq, rfl, rfl, fun i ta lr c h => by simp at h, AllAt.nil, rfl, rfl, fun i ta lr c h => by simp at h, by simp, by simpa using nltq.symm, fun l h => by simp at h, wf_start⟩
    -- reader = Reader(calls)
    refine ⟨_, rfl, fun rd dr nrd ndr ner => ⟨rd, dr, _, rfl, upd_same, fun H2 hrd k2 => ⟨rfl, ?_⟩⟩⟩
    have s2 : Same H1 H2 := Same.made nrd ndr k2
    -- told = []
    refine ⟨Nat.zero_le _, fun lo nlo => ?_⟩
    have s3 : Same H2 (upd H2 lo (.lst [])) := same_upd nlo
    have hlo3 : upd H2 lo (.lst []) lo = some (.lst []) := upd_same
    generalize upd H2 lo (.lst []) = H3 at s3 hlo3
    have nst0 : H st = none := nst
    have nrd0 : H rd = none := s1.free nrd
    have nlo0 : H lo = none := (s1.trans s2).free nlo
    have hlo_own : lo ∉ (⟨lt, lq, [], [], [], []⟩ : Lay).own := fun q => by
      obtain ⟨xs, e⟩ := (hS1.same s2).owned lo q
      rw [nlo] at e
      cases e
    refine ⟨fun m σ H' => ∃ (v4 : Option V) (L : Lay) (M : Mir) (pl fu : Nat) (cs : List (List (List Int))) (out : List Int), σ = [some (.ref a), some (.ref st), some (.ref rd), some (.ref lo), v4] ∧ Grow TT H H' ∧ StAt CS CT CA H' st L M ∧ (∀ l ∈ L.own, H l = none) ∧ ReadAt CR H' rd a pl ∧ pl ≤ ns.length ∧ lo ∉ L.own ∧
      H' lo = some (.lst (out.map V.int)) ∧ PyFlat.calls PyMd49.shape fu (ns.drop pl) = some cs ∧ (∀ c ∈ cs, Md49Neutral.asked1 c = true) ∧ PyMd49.answers ns = out ++ PyFlat.told (PyFlat.played Md49Neutral.step M.toS cs) ∧ m = ns.length - pl,
      ⟨_, none, ⟨lt, lq, [], [], [], []⟩, Mir.start, 0, ns.length, cs, [], rfl, Grow.of ((s1.trans s2).trans s3), (hS1.same s2).same s3, ?_, hrd.same s3, Nat.zero_le _, hlo_own, hlo3, by rw [List.drop_zero]; exact hcs, hall, by rw [List.nil_append]; exact hans, rfl⟩, ?_⟩
    · intro l hl
      simp [Lay.own] at hl
      rcases hl with rfl | rfl
      · exact old _ nlt
      · exact old _ nlq
    rintro m σ H4 ⟨v4, L, M, pl, fu, cs, out, rfl, s4, hS4, hown, hrd4, hpl, hlo, hlo4, hcs4, hall4, heq, rfl⟩
    obtain ⟨dr4, hrd4'⟩ := id hrd4
    refine ⟨_, rfl, rd, dr4, _, rfl, hrd4', fs2_no, rd, a, pl, ns, rfl, hrd4, s4.seq hns, ?_⟩
    refine ⟨_, rfl, ?_⟩
    by_cases hlt : pl < ns.length
    rotate_left
    · refine ifF (decide_eq_false hlt) ⟨_, rfl, kq H4 lo ?_⟩
      have e : ns.drop pl = [] := List.drop_eq_nil_of_le (by omega)
      rw [e] at hcs4
      rw [JpFlat.calls_nil hcs4] at heq
      rw [heq, hlo4]
      simp [PyFlat.told, PyFlat.played]
    have hne : ns.drop pl ≠ [] := fun q => by
      have := congrArg List.length q
      rw [List.length_drop] at this
      simp at this
      omega
    obtain ⟨c, cs', t, f', rfl, hcall, hrest⟩ := JpFlat.calls_cons hne hcs4
    have his := JpFlat.call_is hcall
    obtain ⟨kk, hk1, hk2, rfl⟩ := his.rest
    rw [List.length_drop] at hk2
    rw [List.drop_drop] at his hrest
    rw [JpFlat.played_cons, JpFlat.told_cons] at heq
    have hlen2 : (PyMd49.answers ns).length = out.length + (1 + (Md49Neutral.step M.toS c).2.length + (PyFlat.told (PyFlat.played Md49Neutral.step (Md49Neutral.step M.toS c).1 cs')).length) := by
      rw [heq]
      simp
      omega
    refine ifT (decide_eq_true hlt) ⟨_, fun σ' H' h => h, ?_⟩
    refine ⟨_, rfl, _, rfl, st, rd, a, L, M, pl, pl + kk, ns, c, rfl, s4.tabs hT, hS4, hrd4, s4.seq hns, his, by omega, by omega, hall4 c List.mem_cons_self, by omega, fun H5 p ⟨L', M', hM', hS5, hrd5, fr5, bk5, T5, own5, np, hpo, hp5⟩ => ?_⟩
    have nlost : lo ≠ st := fun q => by obtain ⟨d, e⟩ := hS4.store; rw [← q, hlo4] at e; cases e
    have nlord : lo ≠ rd := fun q => by rw [← q, hlo4] at hrd4'; cases hrd4'
    have hlo5 : H5 lo = some (.lst (out.map V.int)) := fr5 _ _ hlo4 (by simp [nlost, nlord, hlo]) (by intro ps z; cases z)
    have noW : ∀ x, x ∈ st :: rd :: L.own → H x = none := fun x q => by
      rcases List.mem_cons.mp q with q | q
      · rw [q]
        exact nst0
      rcases List.mem_cons.mp q with q | q
      · rw [q]
        exact nrd0
      · exact hown x q
    have s5 : Grow TT H H5 := ⟨fun x o e t => fr5 x o (s4.stay x o e t) (fun q => by rw [noW x q] at e; cases e) t, fun x e => by
      by_cases q : x ∈ st :: rd :: L.own
      · exact noW x q
      · exact s4.back x (bk5 x q e), fun _ => T5⟩
    have hlo' : lo ∉ L'.own := fun q => by
      rcases own5 lo q with q | q
      · exact hlo q
      · rw [hlo4] at q; cases q
    have npl : p ≠ lo := fun q => by rw [q, hlo4] at np; cases np
    -- told.append(len(numbers))
    refine ⟨_, rfl, .inl ⟨rfl, _, SqL.of hlo5⟩, _, rfl, p, _, rfl, Or.inl (SqL.of hp5), lo, _, _, rfl, rfl, hlo5, (by rw [List.length_map]; show _ < 2 ^ 24; omega), ?_⟩
    rw [List.length_map]
    have b6 : But lo H5 (upd H5 lo (.lst (out.map V.int ++ [V.int ((Md49Neutral.step M.toS c).2.length : Int)]))) := (But.of_same (Same.refl _)).upd
    have hlo6 : upd H5 lo (.lst (out.map V.int ++ [V.int ((Md49Neutral.step M.toS c).2.length : Int)])) lo = some (.lst (out.map V.int ++ [V.int ((Md49Neutral.step M.toS c).2.length : Int)])) := upd_same
    generalize upd H5 lo (.lst (out.map V.int ++ [V.int ((Md49Neutral.step M.toS c).2.length : Int)])) = H6 at b6 hlo6
    have hp6 := b6 _ _ hp5 npl
    -- told.extend(numbers)
    refine ⟨_, rfl, .inl ⟨rfl, _, SqL.of hlo6⟩, _, rfl, lo, p, _, _, rfl, rfl, hlo6, hp6, ?_, ?_⟩
    · rw [List.length_append, List.length_map, List.length_map, List.length_singleton]
      show _ ≤ 2 ^ 24
      omega
    have b7 : But lo H5 (upd H6 lo (.lst (out.map V.int ++ [V.int ((Md49Neutral.step M.toS c).2.length : Int)] ++ (Md49Neutral.step M.toS c).2.map V.int))) := b6.upd
    refine ⟨ns.length - (pl + kk), by omega, _, L', M', pl + kk, f', cs', out ++ ((Md49Neutral.step M.toS c).2.length : Int) :: (Md49Neutral.step M.toS c).2, rfl, ?_, hS5.but hlo5 hlo' b7, ?_, ?_, by omega, hlo', ?_, hrest, fun x hx => hall4 x (List.mem_cons_of_mem _ hx), ?_, rfl⟩
    · exact ⟨fun x o e t => b7 _ _ (s5.stay _ _ e t) (ne_of_none e nlo0), fun x e => s5.back x (free_but b7 upd_same e), fun _ => tabs_but T5 hlo5 (by intro ps z; cases z) (by intro c q z; unfold CodeO at z; cases z) b7⟩
    · intro l hl
      rcases own5 l hl with q | q
      · exact hown l q
      · exact s4.back _ q
    · obtain ⟨d5, e5⟩ := hrd5
      exact ⟨d5, b7 _ _ e5 (ne_of e5 hlo5 (by intro q; cases q))⟩
    · rw [upd_same]
      simp
    · rw [heq, hM']
      simp
end
end Jp
namespace Jp
open PySem PySem.Spec PyProof.Rows L2 LamX
open MdBase (Term Atom varsOf)
theorem drop_cons {ns r : List Int} {pl : Nat} {x : Int} (h : ns.drop pl = x :: r) : ns[pl]? = some x ∧ ns.drop (pl + 1) = r ∧ pl < ns.length := by
  have hl : pl < ns.length := by
    have := congrArg List.length h
    rw [List.length_drop, List.length_cons] at this
    omega
  rw [List.drop_eq_getElem_cons hl] at h
  refine ⟨?_, (List.cons.inj h).2, hl⟩
  rw [List.getElem?_eq_getElem hl, (List.cons.inj h).1]
theorem drop_len {ns : List Int} {a b : Nat} (ha : a ≤ ns.length) (hb : b ≤ ns.length) (h : ns.drop a = ns.drop b) : a = b := by
  have := congrArg List.length h
  rw [List.length_drop, List.length_drop] at this
  omega
theorem rd_out {CS CT CA CR : Addr} {H : Hp} {st rd ln : Addr} {L : Lay} {M : Mir} {pl : Nat} (hS : StAt CS CT CA H st L M) (hrd : ReadAt CR H rd ln pl) : rd ∉ st :: L.own := by
  obtain ⟨dr, e⟩ := hrd
  intro q
  rcases List.mem_cons.mp q with q | q
  · obtain ⟨d, e2⟩ := hS.store
    rw [q, e2] at e
    exact absurd (fs2_inj (HO.ins.inj (Option.some.inj e)).2.2) (by decide +kernel)
  · obtain ⟨xs, e2⟩ := hS.owned rd q
    rw [e2] at e
    cases e
theorem tabs_own {T : List (Addr × Str)} {CS CT CA : Addr} {H H' : Hp} {st : Addr} {L : Lay} {M : Mir} (t : Tabs T H) (hS : StAt CS CT CA H st L M) (fr : ∀ b o, H b = some o → b ∉ st :: L.own → H' b = some o) : Tabs T H' := fun p hp => by
  have no : ∀ b o, H b = some o → (∀ C dx fs, o ≠ .ins C dx fs) → (∀ xs, o ≠ .lst xs) → b ∉ st :: L.own := fun b o e n1 n2 q => by
    rcases List.mem_cons.mp q with q | q
    · obtain ⟨d, e2⟩ := hS.store
      rw [q, e2] at e
      exact n1 _ _ _ (Option.some.inj e).symm
    · obtain ⟨xs, e2⟩ := hS.owned b q
      rw [e2] at e
      exact n2 _ (Option.some.inj e).symm
  obtain ⟨ps, h1, h2, h3⟩ := t p hp
  refine ⟨ps, fr _ _ h1 (no _ _ h1 (by intro C dx fs z; cases z) (by intro xs z; cases z)), h2, fun pos cv hc => ?_⟩
  obtain ⟨c, e1, e2⟩ := h3 pos cv hc
  exact ⟨c, e1, fr _ _ e2 (no _ _ e2 (by intro C dx fs z; unfold CodeO at z; cases z) (by intro xs z; unfold CodeO at z; cases z))⟩
theorem tabs_rd {T : List (Addr × Str)} {CR : Addr} {H H1 : Hp} {rd ln : Addr} {pl : Nat} (t : Tabs T H) (hrd : ReadAt CR H rd ln pl) (b : But rd H H1) : Tabs T H1 := by
  obtain ⟨dr, e⟩ := hrd
  exact tabs_but t e (by intro ps z; cases z) (by intro c q z; unfold CodeO at z; cases z) b
/-- what a call does behind the numbers that were taken -/
theorem callPost_of {T : List (Addr × Str)} {CS CT CA CR : Addr} {H H1 H' : Hp} {st rd ln p : Addr} {L : Lay} {M M' : Mir} {pl : Nat} {ans : List Int} (t1 : Tabs T H1) (hS1 : StAt CS CT CA H1 st L M) (hrd1 : ReadAt CR H1 rd ln pl) (b1 : But rd H H1) (h : Post CS CT CA H1 st L H' p M' ans) : CallPost T CS CT CA CR H st rd ln L pl H' p M'.toS ans := by
  obtain ⟨L', hS', fr, own, np, hpo, hp⟩ := h
  have hout := rd_out hS1 hrd1
  obtain ⟨dr, e1⟩ := id hrd1
  have fr2 : ∀ b o, H b = some o → b ∉ st :: rd :: L.own → H' b = some o := fun b o e hb => by
    simp only [List.mem_cons, not_or] at hb
    exact fr _ _ (b1 _ _ e hb.2.1) (by simp [hb.1, hb.2.2])
  refine ⟨L', M', rfl, hS', ⟨dr, fr _ _ e1 hout⟩, fun b o e hb _ => fr2 b o e hb, fun b hb e => ?_, tabs_own t1 hS1 fr, fun l hl => ?_, free_but b1 e1 np, hpo, hp⟩
  · cases q : H b with
    | none => rfl
    | some o => rw [fr2 b o q hb] at e; cases e
  · exact (own l hl).imp id fun q => free_but b1 e1 q
theorem CallPost.from {T : List (Addr × Str)} {CS CT CA CR : Addr} {H H1 H' : Hp} {st rd ln p : Addr} {L : Lay} {pl pl0 : Nat} {S : Md49.St} {ans : List Int} (h : CallPost T CS CT CA CR H1 st rd ln L pl H' p S ans) (hrd1 : ReadAt CR H1 rd ln pl0) (b1 : But rd H H1) : CallPost T CS CT CA CR H st rd ln L pl H' p S ans := by
  obtain ⟨L', M', e, hS', hrd', fr, bk, t', own, np, hpo, hp⟩ := h
  obtain ⟨dr, e1⟩ := hrd1
  refine ⟨L', M', e, hS', hrd', fun b o e hb ht => ?_, fun b hb e => free_but b1 e1 (bk b hb e), t', fun l hl => (own l hl).imp id fun q => free_but b1 e1 q, free_but b1 e1 np, hpo, hp⟩
  have hb' := hb
  simp only [List.mem_cons, not_or] at hb'
  exact fr _ _ (b1 _ _ e hb'.2.1) hb ht
/-- the question was answered, the state is as it was -/
theorem callPost_grow {T : List (Addr × Str)} {CS CT CA CR : Addr} {H H1 H' : Hp} {st rd ln p : Addr} {L : Lay} {M : Mir} {pl : Nat} {ans : List Int} (t1 : Tabs T H1) (hS1 : StAt CS CT CA H1 st L M) (hrd1 : ReadAt CR H1 rd ln pl) (b1 : But rd H H1) (g : Grow T H1 H') (np : H1 p = none) (hp : H' p = some (.lst (ans.map V.int))) : CallPost T CS CT CA CR H st rd ln L pl H' p M.toS ans := by
  obtain ⟨dr, e1⟩ := id hrd1
  have hS' : StAt CS CT CA H' st L M := hS1.keep (fun _ _ _ _ _ _ _ e _ => g.stay _ _ e (by intro ps z; cases z)) (fun _ _ e _ => g.stay _ _ e (by intro ps z; cases z)) (fun _ _ e => g.stay _ _ e (by intro ps z; cases z))
  refine ⟨L, M, rfl, hS', ⟨dr, g.stay _ _ e1 (by intro ps z; cases z)⟩, fun b o e hb ht => ?_, fun b hb e => free_but b1 e1 (g.back b e), g.tabs t1, fun l hl => Or.inl hl, free_but b1 e1 np, fun q => ?_, hp⟩
  · simp only [List.mem_cons, not_or] at hb
    exact g.stay _ _ (b1 _ _ e hb.2.1) ht
  · obtain ⟨xs, e⟩ := hS1.owned p q
    rw [np] at e
    cases e
def spAnswerOfQuestion (T : List (Addr × Str)) (K : PySem.W.Frag) (CS CT CA CR : Addr) : Sp := fun vs H Q _ => ∃ (st rd ln : Addr) (c0 : Int) (L : Lay) (M : Mir) (pl pl' : Nat) (ns : List Int) (c : List (List Int)), vs = [.ref st, .int c0, .ref rd] ∧ Tabs T H ∧ StAt CS CT CA H st L M ∧ ReadAt CR H rd ln pl ∧ SqL K H ln (ns.map V.int) ∧
  JpFlat.Is (c0 :: ns.drop pl) c (ns.drop pl') ∧ pl ≤ pl' ∧ pl' ≤ ns.length ∧ 4 ≤ c0 ∧ Md49Neutral.asked1 c = true ∧ (Md49Neutral.step M.toS c).2.length ≤ 10000000 ∧
  ∀ H' p, CallPost T CS CT CA CR H st rd ln L pl' H' p (Md49Neutral.step M.toS c).1 (Md49Neutral.step M.toS c).2 → Q (.ref p) H'
theorem row_le {l : List Int} (h : Md49Neutral.row l = true) : l.length ≤ 100 := by
  unfold Md49Neutral.row at h
  rw [Bool.and_eq_true] at h
  exact of_decide_eq_true h.2
section
variable {P : Program} {w : World} {K : PySem.W.Frag} {mg : Str → Option Value} {base : Heap} {CS CT CA CR : Addr} {TT : List (Addr × Str)}
theorem sc_ac : FnScope ["store", "reader", "call", "number"] ["store", "reader"] (defScope sAnswerCall) := ⟨rfl, rfl, rfl, by decide +kernel, rfl, by decide +kernel, by decide +kernel⟩
theorem ok_answerCall {k : Nat} (hk : 5 ≤ k) (F : Has K mg "answer_call" sAnswerCall ["store", "reader"]) (TR : Klass K mg "Reader" CR ["numbers", "place"])
    (c0 : IntC mg "BEGIN" 0) (c1 : IntC mg "TABLE" 1) (c2 : IntC mg "ROW" 2) (c3 : IntC mg "QUESTION" 3) (GN : OkM P w K mg base CR "take_number" 1 ["self"] (spTakeNumber K CR)) (GL : OkM P w K mg base CR "take_list" 2 ["self"] (spTakeList K CR))
    (GB : Ok P w K mg base "begin" 1 ["store"] (spBegin CS CT CA)) (GT : Ok P w K mg base "add_table" 3 ["store", "columns"] (spAddTable CS CT CA)) (GR : Ok P w K mg base "add_row" 3 ["store", "number", "values"] (spAddRow CS CT CA))
    (GA : Ok P w K mg base "ask" 5 ["store", "numbers"] (spAsk CS CT CA)) (GQ : Ok P w K mg base "answer_of_question" k ["store", "call", "reader"] (spAnswerOfQuestion TT K CS CT CA CR)) :
    Ok P w K mg base "answer_call" (k + 1) ["store", "reader"] (spAnswerCall TT K CS CT CA CR) := by
  obtain ⟨f, fd, F, M, kp, b⟩ := F
  refine ⟨f, fd, F.ok sc_ac (fun vs H Q E h => ?_) (fun cdv A outer s H vs Q E hr h => ?_), M, kp, b⟩
  · obtain ⟨st, rd, ln, L, M, pl, pl', ns, c, rfl, _⟩ := h
    rfl
  · obtain ⟨st, rd, ln, L, M, pl, pl', ns, c, rfl, hT, hS, hrd, hns, his, hlt, hle, hask, hlen, kq⟩ := h
    have hr1 : Room 1 _ := hr.mono (by omega)
    have hr2 : Room 2 _ := hr.mono (by omega)
    have hr3 : Room 3 _ := hr.mono (by omega)
    have hr5 : Room 5 _ := hr.mono hk
    refine ⟨_, pss_cons (ps_set (i := 2) sc_ac.nd rfl (Or.inl rfl) (pe_okM0 GN TR.cl hr1 (pv 1)))
      (pss_cons (ps_if (pt_cmpR op_eq (pv 2) (pe_const c0 rfl) (nomark _)) (pss_one (ps_ret (pe_ok GB hr1 rfl (pa_cons (pv 0) pa_nil)))) pss_nil)
      (pss_cons (ps_if (pt_cmpR op_eq (pv 2) (pe_const c1 rfl) (nomark _)) (pss_one (ps_ret (pe_ok GT hr3 rfl (pa_cons (pv 0) (pa_cons (pe_okM0 GN TR.cl hr1 (pv 1)) pa_nil))))) pss_nil)
      (pss_cons (ps_if (pt_cmpR op_eq (pv 2) (pe_const c2 rfl) (nomark _)) (pss_cons (ps_set (i := 3) sc_ac.nd rfl (Or.inl rfl) (pe_okM0 GN TR.cl hr1 (pv 1))) (pss_one (ps_ret (pe_ok GR hr3 rfl (pa_cons (pv 0) (pa_cons (pv 3) (pa_cons (pe_okM0 GL TR.cl hr2 (pv 1)) pa_nil))))))) pss_nil)
      (pss_cons (ps_if (pt_cmpR op_eq (pv 2) (pe_const c3 rfl) (nomark _)) (pss_one (ps_ret (pe_ok GA hr5 rfl (pa_cons (pv 0) (pa_cons (pe_okM0 GL TR.cl hr2 (pv 1)) pa_nil))))) pss_nil)
      (pss_one (ps_ret (pe_ok GQ hr rfl (pa_cons (pv 0) (pa_cons (pv 2) (pa_cons (pv 1) pa_nil)))))))))), ?_⟩
    obtain ⟨dr, hrd'⟩ := id hrd
    obtain ⟨z, hz⟩ : ∃ z, ns[pl]? = some z := ⟨_, List.getElem?_eq_getElem (by omega)⟩
    have hd0 : ns.drop pl = z :: ns.drop (pl + 1) := by
      obtain ⟨hl, e⟩ := List.getElem?_eq_some_iff.mp hz
      rw [List.drop_eq_getElem_cons hl, e]
    rw [hd0] at his
    -- call = reader.take_number()
    refine ⟨_, rfl, rd, dr, _, rfl, hrd', fs2_no, rd, ln, pl, ns, z, rfl, hrd, hns, hz, fun H1 hrd1 b1 => ?_⟩
    obtain ⟨dr1, hrd1'⟩ := id hrd1
    have hS1 := hS.reader hrd' b1
    have hT1 := tabs_rd hT hrd b1
    have hns1 := sqL_ins hns hrd' b1
    have eqz : ∀ {x y : Int}, x = y → decide (V.int x = V.int y) = true := fun e => decide_eq_true (congrArg V.int e)
    have nez : ∀ {x y : Int}, ¬ x = y → decide (V.int x = V.int y) = false := fun e => decide_eq_false fun q => e (V.int.inj q)
    refine ⟨_, rfl, rfl, _, rfl, ?_⟩
    by_cases z0 : z = 0
    · subst z0
      refine ifT (eqz rfl) ⟨_, rfl, st, L, M, rfl, hS1, fun H' p hp => ?_⟩
      generalize ht : ns.drop pl' = t at his
      generalize hq : ns.drop (pl + 1) = u at his
      cases his with
      | zero p t hp0 =>
        have e := drop_len hle (by omega) (ht.trans hq.symm)
        subst e
        exact kq H' _ (callPost_of hT1 hS1 hrd1 b1 hp)
      | one p a t hp0 => omega
      | list p n r hp0 => omega
    refine ifF (nez z0) ⟨_, rfl, rfl, _, rfl, ?_⟩
    by_cases z1 : z = 1
    · subst z1
      refine ifT (eqz rfl) ?_
      generalize ht : ns.drop pl' = t at his
      generalize hq : ns.drop (pl + 1) = u at his
      cases his with
      | zero p t hp0 => omega
      | one p a t hp0 =>
        obtain ⟨e1, e2, e3⟩ := drop_cons hq
        have e := drop_len hle (by omega) (ht.trans e2.symm)
        subst e
        refine ⟨_, rfl, _, rfl, rd, dr1, _, rfl, hrd1', fs2_no, rd, ln, pl + 1, ns, a, rfl, hrd1, hns1, e1, fun H2 hrd2 b2 => ?_⟩
        have hS2 := hS1.reader hrd1' b2
        refine ⟨st, a, L, M, rfl, hS2, fun H' p hp => kq H' p ?_⟩
        have e := spec_table hS.wf a
        have e' : Md49Neutral.step M.toS [[1, a]] = Md49.spec M.toS (.table a) := rfl
        rw [e', e]
        exact callPost_of (tabs_rd hT1 hrd1 b2) hS2 hrd2 (b1.trans b2) hp
      | list p n r hp0 => omega
    refine ifF (nez z1) ⟨_, rfl, rfl, _, rfl, ?_⟩
    by_cases z2 : z = 2
    · subst z2
      refine ifT (eqz rfl) ?_
      generalize ht : ns.drop pl' = t at his
      generalize hq : ns.drop (pl + 1) = u at his
      cases his with
      | zero p t hp0 => omega
      | one p a t hp0 => omega
      | list p n r hp0 => omega
      | both a n r hn =>
        obtain ⟨e1, e2, e3⟩ := drop_cons hq
        obtain ⟨f1, f2, f3⟩ := drop_cons e2
        have hrl : r.length = ns.length - (pl + 1 + 1 + 1) := by rw [← f2, List.length_drop]
        have e : pl' = pl + 1 + 1 + 1 + n := drop_len hle (by omega) (by rw [ht, ← f2, List.drop_drop])
        subst e
        refine ⟨_, rfl, rd, dr1, _, rfl, hrd1', fs2_no, rd, ln, pl + 1, ns, a, rfl, hrd1, hns1, e1, fun H2 hrd2 b2 => ?_⟩
        obtain ⟨dr2, hrd2'⟩ := id hrd2
        have hS2 := hS1.reader hrd1' b2
        have hns2 := sqL_ins hns1 hrd1' b2
        refine ⟨_, rfl, _, rfl, _, rfl, rd, dr2, _, rfl, hrd2', fs2_no, rd, ln, pl + 1 + 1, n, ns, rfl, hrd2, hns2, f1, by omega, fun H3 lv hrd3 b3 nlv hlv => ?_⟩
        have hS3 := hS2.reader hrd2' b3
        rw [f2] at hlv
        have hnl : lv ∉ L.own := fun q => by
          obtain ⟨xs, e⟩ := hS2.owned lv q
          rw [nlv] at e
          cases e
        have hrow : Md49Neutral.row (r.take n) = true := by
          have h := hask
          simp only [Md49Neutral.asked1, Bool.and_eq_true] at h
          exact h.2
        have hrl2 := row_le hrow
        refine ⟨st, lv, a, r.take n, L, M, rfl, hS3, hlv, hnl, by omega, fun H' p hp => kq H' p ?_⟩
        have e := spec_row hS.wf a (r.take n)
        have e' : Md49Neutral.step M.toS [[2, a], r.take n] = Md49.spec M.toS (.row a (r.take n)) := rfl
        rw [e', e]
        exact callPost_of (tabs_rd (tabs_rd hT1 hrd1 b2) hrd2 b3) hS3 hrd3 ((b1.trans b2).trans b3) hp
    refine ifF (nez z2) ⟨_, rfl, rfl, _, rfl, ?_⟩
    by_cases z3 : z = 3
    · subst z3
      refine ifT (eqz rfl) ?_
      generalize ht : ns.drop pl' = t at his
      generalize hq : ns.drop (pl + 1) = u at his
      cases his with
      | zero p t hp0 => omega
      | one p a t hp0 => omega
      | list p n r hp0 hn =>
        obtain ⟨f1, f2, f3⟩ := drop_cons hq
        have hrl : r.length = ns.length - (pl + 1 + 1) := by rw [← f2, List.length_drop]
        have e : pl' = pl + 1 + 1 + n := drop_len hle (by omega) (by rw [ht, ← f2, List.drop_drop])
        subst e
        refine ⟨_, rfl, _, rfl, rd, dr1, _, rfl, hrd1', fs2_no, rd, ln, pl + 1, n, ns, rfl, hrd1, hns1, f1, by omega, fun H3 lv hrd3 b3 nlv hlv => ?_⟩
        have hS3 := hS1.reader hrd1' b3
        rw [f2] at hlv
        have hrow : Md49Neutral.row (r.take n) = true := hask
        have hrl2 := row_le hrow
        refine ⟨st, lv, r.take n, L, M, rfl, hS3, hlv, by omega, fun H' p hp => kq H' p ?_⟩
        have e' : Md49Neutral.step M.toS [[3], r.take n] = Md49.spec M.toS (.question (r.take n)) := rfl
        rw [e', spec_ask]
        exact callPost_of (tabs_rd hT1 hrd1 b3) hS3 hrd3 (b1.trans b3) hp
    refine ifF (nez z3) ?_
    have z4 : 4 ≤ z := by
      generalize ns.drop pl' = t at his
      generalize ns.drop (pl + 1) = u at his
      cases his with
      | zero p t hp0 => omega
      | one p a t hp0 => omega
      | list p n r hp0 hn => omega
      | both a n r hn => omega
    refine ⟨_, rfl, _, rfl, _, rfl, st, rd, ln, z, L, M, pl + 1, pl', ns, c, rfl, hT1, hS1, hrd1, hns1, his, by omega, hle, z4, hask, hlen, fun H' p hp => kq H' p (hp.from hrd1 b1)⟩
end
end Jp
namespace Jp
open PySem PySem.Spec PyProof.Rows L2 LamX
open MdBase (Term Atom varsOf)
def countAns (M : Mir) : List Int := [Md49.num (Md49.sizeOf_ M.toS (Md49.places M.toS))]
/-- what is answered where there is a question -/
def answerM (M : Mir) (c : Int) (xs : List Int) : List Int :=
  if c = 4 then treeAns M.toS else if c = 5 then leftAns M (xs.headD 0) else if c = 6 then countAns M else if c = 7 then answersAns M xs else if c = 8 then orderAns M else if c = 9 then costAns M xs else planAns M
theorem spec_count {M : Mir} (h : M.asked ≠ []) : Md49.spec M.toS .count = (M.toS, countAns M) := by
  show (if M.asked = [] then (M.toS, [-5]) else _) = _
  rw [if_neg h]
  rfl
theorem spec_answers {M : Mir} (h : M.asked ≠ []) (l : List Int) : Md49.spec M.toS (.answers l) = (M.toS, answersAns M l) := by
  show (if M.asked = [] then (M.toS, [-5]) else if l.all (fun (v : Int) => decide (0 ≤ v) && (Md49.places M.toS).any fun (i : Nat) => (Md49.varsAt M.toS i).contains v.toNat) = false then (M.toS, [-1]) else (M.toS, Md49.toldRows (MdBase.sorted ((Md49.together M.toS (Md49.places M.toS)).map (MdBase.values (l.map Int.toNat)))))) = _
  rw [if_neg h]
  unfold answersAns
  split <;> rfl
theorem spec_order {M : Mir} (h : M.asked ≠ []) : Md49.spec M.toS .order = (M.toS, orderAns M) := by
  show (if M.asked = [] then (M.toS, [-5]) else _) = _
  rw [if_neg h]
  rfl
theorem spec_cost {M : Mir} (h : M.asked ≠ []) (l : List Int) : Md49.spec M.toS (.cost l) = (M.toS, costAns M l) := by
  show (if M.asked = [] then (M.toS, [-5]) else if (l.map Int.toNat).isPerm (Md49.places M.toS) = false ∨ l.all (fun (i : Int) => decide (0 ≤ i)) = false then (M.toS, [-1]) else (M.toS, [Md49.num (Md49.orderCost M.toS (l.map Int.toNat))])) = _
  rw [if_neg h]
  unfold costAns
  split <;> rfl
theorem spec_plan {M : Mir} (h : M.asked ≠ []) : Md49.spec M.toS .plan = (M.toS, planAns M) := by
  show (if M.asked = [] then (M.toS, [-5]) else _) = _
  rw [if_neg h]
  rfl
def spAnswerWith (T : List (Addr × Str)) (CT CA : Addr) : Sp := fun vs H Q _ => ∃ (lq ln : Addr) (c : Int) (M : Mir) (xs : List Int), vs = [.ref lq, .int c, .ref ln] ∧ AskAt CT CA H lq M ∧ M.asked ≠ [] ∧ Tabs T H ∧ H ln = some (.lst (xs.map V.int)) ∧ xs.length ≤ 100 ∧ (c = 5 → xs ≠ []) ∧
  ∀ H' p, Grow T H H' → H p = none → H' p = some (.lst ((answerM M c xs).map V.int)) → Q (.ref p) H'
section
variable {P : Program} {w : World} {K : PySem.W.Frag} {mg : Str → Option Value} {base : Heap} {CS CT CA CR CP : Addr} {TT : List (Addr × Str)}
theorem sc_aw : FnScope ["question", "call", "numbers"] ["question", "call", "numbers"] (defScope sAnswerWith) := ⟨rfl, rfl, rfl, by decide +kernel, rfl, by decide +kernel, by decide +kernel⟩
theorem ok_answerWith (F : Has K mg "answer_with" sAnswerWith ["question", "call", "numbers"]) (c4 : IntC mg "TREE" 4) (c5 : IntC mg "LEFT" 5) (c6 : IntC mg "COUNT" 6) (c7 : IntC mg "ANSWERS" 7) (c8 : IntC mg "ORDER" 8) (c9 : IntC mg "COST" 9)
    (G4 : Ok P w K mg base "tell_tree" 5 ["question"] (spTellTree CT CA)) (G5 : Ok P w K mg base "tell_left" 7 ["question", "atom"] (spTellLeft CT CA)) (GCw : Ok P w K mg base "count_ways" 5 ["parts"] (spCountWays CP)) (GPs : Ok P w K mg base "parts_of" 5 ["atoms"] (spPartsOf CT CA CP))
    (G7 : Ok P w K mg base "tell_answers" 6 ["question", "variables"] (spTellN TT K CT CA answersAns)) (G8 : Ok P w K mg base "tell_order" 11 ["question"] (spTell TT CT CA orderAns)) (G9 : Ok P w K mg base "tell_cost" 8 ["question", "order"] (spTellN TT K CT CA costAns)) (G10 : Ok P w K mg base "tell_plan" 18 ["question"] (spTell TT CT CA planAns)) :
    Ok P w K mg base "answer_with" 19 ["question", "call", "numbers"] (spAnswerWith TT CT CA) := by
  obtain ⟨f, fd, F, M, kp, b⟩ := F
  refine ⟨f, fd, F.ok sc_aw (fun vs H Q E h => ?_) (fun cdv A outer s H vs Q E hr h => ?_), M, kp, b⟩
  · obtain ⟨lq, ln, c, M, xs, rfl, _⟩ := h
    rfl
  · obtain ⟨lq, ln, c, M, xs, rfl, hA, hne, hT, hln, hxl, hx5, k⟩ := h
    have hr5 : Room 5 _ := hr.mono (by decide)
    have hr6 : Room 6 _ := hr.mono (by decide)
    have hr7 : Room 7 _ := hr.mono (by decide)
    have hr8 : Room 8 _ := hr.mono (by decide)
    have hr11 : Room 11 _ := hr.mono (by decide)
    refine ⟨_, pss_cons (ps_if (pt_cmpR op_eq (pv 1) (pe_const c4 rfl) (nomark _)) (pss_one (ps_ret (pe_ok G4 hr5 rfl (pa_cons (pv 0) pa_nil)))) pss_nil)
      (pss_cons (ps_if (pt_cmpR op_eq (pv 1) (pe_const c5 rfl) (nomark _)) (pss_one (ps_ret (pe_ok G5 hr7 rfl (pa_cons (pv 0) (pa_cons (pe_ix (ixL K) (pv 2) pe_int (fun _ _ => rfl)) pa_nil))))) pss_nil)
      (pss_cons (ps_if (pt_cmpR op_eq (pv 1) (pe_const c6 rfl) (nomark _)) (pss_one (ps_ret (pe_lst (pa_cons (pe_ok GCw hr5 rfl (pa_cons (pe_ok GPs hr5 rfl (pa_cons (pv 0) pa_nil)) pa_nil)) pa_nil)))) pss_nil)
      (pss_cons (ps_if (pt_cmpR op_eq (pv 1) (pe_const c7 rfl) (nomark _)) (pss_one (ps_ret (pe_ok G7 hr6 rfl (pa_cons (pv 0) (pa_cons (pv 2) pa_nil))))) pss_nil)
      (pss_cons (ps_if (pt_cmpR op_eq (pv 1) (pe_const c8 rfl) (nomark _)) (pss_one (ps_ret (pe_ok G8 hr11 rfl (pa_cons (pv 0) pa_nil)))) pss_nil)
      (pss_cons (ps_if (pt_cmpR op_eq (pv 1) (pe_const c9 rfl) (nomark _)) (pss_one (ps_ret (pe_ok G9 hr8 rfl (pa_cons (pv 0) (pa_cons (pv 2) pa_nil))))) pss_nil)
      (pss_one (ps_ret (pe_ok G10 hr rfl (pa_cons (pv 0) pa_nil))))))))), ?_⟩
    have eqz : ∀ {x y : Int}, x = y → decide (V.int x = V.int y) = true := fun e => decide_eq_true (congrArg V.int e)
    have nez : ∀ {x y : Int}, ¬ x = y → decide (V.int x = V.int y) = false := fun e => decide_eq_false fun q => e (V.int.inj q)
    unfold answerM at k
    refine ⟨_, rfl, rfl, _, rfl, ?_⟩
    by_cases z4 : c = 4
    · rw [if_pos z4] at k
      exact ifT (eqz z4) ⟨_, rfl, lq, M, rfl, hA, hne, fun H' p s' np hp => k H' p (Grow.of s') np hp⟩
    rw [if_neg z4] at k
    refine ifF (nez z4) ⟨_, rfl, rfl, _, rfl, ?_⟩
    by_cases z5 : c = 5
    · rw [if_pos z5] at k
      obtain ⟨x, r, rfl⟩ : ∃ x r, xs = x :: r := by
        cases xs with
        | nil => exact absurd rfl (hx5 z5)
        | cons x r => exact ⟨x, r, rfl⟩
      exact ifT (eqz z5) ⟨_, rfl, _, rfl, ln, _, 0, .int x, rfl, rfl, SqL.of hln, atI_nat (j := 0) rfl, lq, x, M, rfl, hA, fun H' p s' np hp => k H' p (Grow.of s') np hp⟩
    rw [if_neg z5] at k
    refine ifF (nez z5) ⟨_, rfl, rfl, _, rfl, ?_⟩
    by_cases z6 : c = 6
    · rw [if_pos z6] at k
      obtain ⟨as, hlq, hats⟩ := id hA.ex
      have wf := hA.wf
      have h5 := wf.a5
      have fine : FineP (partsM M.tabs M.asked) := by
        rw [parts_list]
        exact parts_fine wf (by rw [List.length_range]; exact h5) fun i hi => List.mem_range.mp hi
      refine ifT (eqz z6) ⟨_, rfl, lq, as, M.asked, M.tabs, rfl, hlq, hats, wf.fair, fun H1 lps s1 nlps hlps => ⟨lps, _, rfl, hlps, fine, fun H2 s2 => ⟨(by show 1 ≤ sizeLine; decide), fun p hp => ?_⟩⟩⟩
      have s12 := s1.trans s2
      refine k _ p (Grow.of (s12.trans (same_upd hp))) (s12.free hp) ?_
      rw [upd_same, parts_list, count_size wf fun i hi => List.mem_range.mp hi]
      rfl
    rw [if_neg z6] at k
    refine ifF (nez z6) ⟨_, rfl, rfl, _, rfl, ?_⟩
    by_cases z7 : c = 7
    · rw [if_pos z7] at k
      exact ifT (eqz z7) ⟨_, rfl, _, rfl, lq, ln, M, xs, rfl, hA, hne, hT, SqL.of hln, hxl, k⟩
    rw [if_neg z7] at k
    refine ifF (nez z7) ⟨_, rfl, rfl, _, rfl, ?_⟩
    by_cases z8 : c = 8
    · rw [if_pos z8] at k
      exact ifT (eqz z8) ⟨_, rfl, lq, M, rfl, hA, hne, hT, k⟩
    rw [if_neg z8] at k
    refine ifF (nez z8) ⟨_, rfl, rfl, _, rfl, ?_⟩
    by_cases z9 : c = 9
    · rw [if_pos z9] at k
      exact ifT (eqz z9) ⟨_, rfl, _, rfl, lq, ln, M, xs, rfl, hA, hne, hT, SqL.of hln, hxl, k⟩
    rw [if_neg z9] at k
    exact ifF (nez z9) ⟨_, rfl, lq, M, rfl, hA, hne, hT, k⟩
end
end Jp
namespace Jp
open PySem PySem.Spec PyProof.Rows L2 LamX
open MdBase (Term Atom varsOf)
/-- what a call of a question answers -/
def qAns (M : Mir) (c : Int) (xs : List Int) : List Int := if M.asked = [] then [-5] else answerM M c xs
theorem step_zero {M : Mir} {c : Int} (h : c = 4 ∨ c = 6 ∨ c = 8 ∨ c = 10) (xs : List Int) : Md49Neutral.step M.toS [[c]] = (M.toS, qAns M c xs) := by
  unfold qAns
  by_cases hn : M.asked = []
  · rw [if_pos hn]
    obtain ⟨n1, n2, n3, n4, n5, n6, n7⟩ := spec_none hn
    rcases h with rfl | rfl | rfl | rfl
    · exact n1
    · exact n3
    · exact n5
    · exact n7
  · rw [if_neg hn]
    rcases h with rfl | rfl | rfl | rfl
    · exact spec_tree hn
    · exact spec_count hn
    · exact spec_order hn
    · exact spec_plan hn
theorem step_left (M : Mir) (a : Int) : Md49Neutral.step M.toS [[5, a]] = (M.toS, qAns M 5 [a]) := by
  unfold qAns
  by_cases hn : M.asked = []
  · rw [if_pos hn]
    exact (spec_none hn).2.1 a
  · rw [if_neg hn]
    exact spec_left hn a
theorem step_list {M : Mir} {c : Int} (h : c = 7 ∨ c = 9) (l : List Int) : Md49Neutral.step M.toS [[c], l] = (M.toS, qAns M c l) := by
  unfold qAns
  by_cases hn : M.asked = []
  · rw [if_pos hn]
    obtain ⟨n1, n2, n3, n4, n5, n6, n7⟩ := spec_none hn
    rcases h with rfl | rfl
    · exact n4 l
    · exact n6 l
  · rw [if_neg hn]
    rcases h with rfl | rfl
    · exact spec_answers hn l
    · exact spec_cost hn l
section
variable {P : Program} {w : World} {K : PySem.W.Frag} {mg : Str → Option Value} {base : Heap} {CS CT CA CR CP : Addr} {TT : List (Addr × Str)}
theorem sc_aq : FnScope ["store", "call", "reader", "numbers"] ["store", "call", "reader"] (defScope sAnswerOfQuestion) := ⟨rfl, rfl, rfl, by decide +kernel, rfl, by decide +kernel, by decide +kernel⟩
theorem ok_answerOfQuestion (F : Has K mg "answer_of_question" sAnswerOfQuestion ["store", "call", "reader"]) (N : Plain mg) (TS : Klass K mg "Store" CS ["tables", "question"]) (TR : Klass K mg "Reader" CR ["numbers", "place"]) (c5 : IntC mg "LEFT" 5) (c7 : IntC mg "ANSWERS" 7) (c9 : IntC mg "COST" 9) (cn : IntC mg "NO_QUESTION" (-5))
    (GN : OkM P w K mg base CR "take_number" 1 ["self"] (spTakeNumber K CR)) (GL : OkM P w K mg base CR "take_list" 2 ["self"] (spTakeList K CR)) (GW : Ok P w K mg base "answer_with" 19 ["question", "call", "numbers"] (spAnswerWith TT CT CA)) :
    Ok P w K mg base "answer_of_question" 20 ["store", "call", "reader"] (spAnswerOfQuestion TT K CS CT CA CR) := by
  obtain ⟨f, fd, F, M, kp, b⟩ := F
  refine ⟨f, fd, F.ok sc_aq (fun vs H Q E h => ?_) (fun cdv A outer s H vs Q E hr h => ?_), M, kp, b⟩
  · obtain ⟨st, rd, ln, c0, L, M, pl, pl', ns, c, rfl, _⟩ := h
    rfl
  · obtain ⟨st, rd, ln, c0, L, M, pl, pl', ns, c, rfl, hT, hS, hrd, hns, his, hle, hle', h4, hask, hlen, kq⟩ := h
    have hr1 : Room 1 _ := hr.mono (by decide)
    have hr2 : Room 2 _ := hr.mono (by decide)
    have eqz : ∀ {x y : Int}, x = y → decide (V.int x = V.int y) = true := fun e => decide_eq_true (congrArg V.int e)
    have nez : ∀ {x y : Int}, ¬ x = y → decide (V.int x = V.int y) = false := fun e => decide_eq_false fun q => e (V.int.inj q)
    have tail : ∃ t, PSs (cxOf CX0 P w K mg base ["store", "call", "reader", "numbers"] "answer_of_question" (defScope sAnswerOfQuestion) f cdv A outer s H E).nox ((defBody sAnswerOfQuestion).drop 2) t ∧
        ∀ (H1 : Hp) (q : Addr) (xs : List Int), But rd H H1 → StAt CS CT CA H1 st L M → ReadAt CR H1 rd ln pl' → Tabs TT H1 → H1 q = some (.lst (xs.map V.int)) → xs.length ≤ 100 → (c0 = 5 → xs ≠ []) → Md49Neutral.step M.toS c = (M.toS, qAns M c0 xs) →
          t { nx := fun _ H' => Q .non H', rt := Q } [some (.ref st), some (.int c0), some (.ref rd), some (.ref q)] H1 := by
      refine ⟨_, pss_cons (ps_if (pt_cmpR op_eq (pe_callB call_len_seq (by rfl) N.len PySem.boot_len (pa_cons (pe_fld (pv 0) rfl) pa_nil)) pe_int (nomark _)) (pss_one (ps_ret (pe_lst (pa_cons (pe_const cn rfl) pa_nil)))) pss_nil)
        (pss_one (ps_ret (pe_ok GW hr rfl (pa_cons (pe_fld (pv 0) rfl) (pa_cons (pv 1) (pa_cons (pv 3) pa_nil)))))), ?_⟩
      intro H1 q xs b1 hS1 hrd1 T1 hq hxl hx5 est
      obtain ⟨dst, hst⟩ := hS1.store
      have hlq := hS1.lq
      have hql := hS1.q1
      rw [est] at kq
      unfold qAns at kq
      refine ⟨_, rfl, st, CS, dst, _, _, rfl, hst, TS.cl, TS.no _ (by simp), fs2_2, L.lq, _, rfl, Or.inl (SqL.of hlq), rfl, _, rfl, ?_⟩
      rw [List.length_map, hql]
      by_cases hn : M.asked = []
      · rw [if_pos hn] at kq
        refine ifT (eqz (by rw [hn]; rfl)) ⟨(by show 1 ≤ sizeLine; decide), fun p hp => kq _ p ?_⟩
        exact callPost_grow T1 hS1 hrd1 b1 (Grow.of (same_upd hp)) hp upd_same
      · rw [if_neg hn] at kq
        refine ifF (nez (fun z => hn (List.eq_nil_of_length_eq_zero (by omega)))) ?_
        refine ⟨_, rfl, st, CS, dst, _, _, rfl, hst, TS.cl, TS.no _ (by simp), fs2_2, _, rfl, _, rfl, L.lq, q, c0, M, xs, rfl, hS1.ask, hn, T1, hq, hxl, hx5, fun H' p g np hp => kq H' p ?_⟩
        exact callPost_grow T1 hS1 hrd1 b1 g np hp
    obtain ⟨tt, htt, tail⟩ := tail
    refine ⟨_, pss_cons (ps_set (i := 3) sc_aq.nd rfl (Or.inl rfl) (pe_lst pa_nil))
      (pss_cons (ps_if (pt_cmpR op_eq (pv 1) (pe_const c5 rfl) (nomark _)) (pss_one (ps_set (i := 3) sc_aq.nd rfl (Or.inl rfl) (pe_lst (pa_cons (pe_okM0 GN TR.cl hr1 (pv 2)) pa_nil))))
        (pss_one (ps_if (PW.pt (pw_or (pt_cmpR op_eq (pv 1) (pe_const c7 rfl) (nomark _)) (pw_or1 (pt_cmpR op_eq (pv 1) (pe_const c9 rfl) (nomark _))))) (pss_one (ps_set (i := 3) sc_aq.nd rfl (Or.inl rfl) (pe_okM0 GL TR.cl hr2 (pv 2)))) pss_nil)))
      htt), ?_⟩
    refine ⟨Nat.zero_le _, fun q0 hq0 => ?_⟩
    have s0 : Same H (upd H q0 (.lst [])) := same_upd hq0
    have hq00 : upd H q0 (.lst []) q0 = some (.lst (([] : List Int).map V.int)) := upd_same
    generalize upd H q0 (.lst []) = H0 at s0 hq00
    have hS0 := hS.same s0
    have hrd0 := hrd.same s0
    have hT0 := hT.ext s0
    have hns0 := s0.seq hns
    obtain ⟨dr, hrd0'⟩ := id hrd0
    refine ⟨_, rfl, rfl, _, rfl, ?_⟩
    generalize ht : ns.drop pl' = t at his
    generalize hu : ns.drop pl = u at his
    cases his with
    | zero p t hp0 =>
      have e := drop_len hle' (by omega) (ht.trans hu.symm)
      subst e
      refine ifF (nez (by omega)) ⟨_, rfl, rfl, _, rfl, ifF (nez (by omega)) ⟨_, rfl, rfl, _, rfl, ifF (nez (by omega)) ?_⟩⟩
      exact tail H0 q0 [] (But.of_same s0) hS0 hrd0 hT0 hq00 (Nat.zero_le _) (fun z => by omega) (step_zero (by omega) [])
    | one p a t hp0 =>
      have e5 : c0 = 5 := by omega
      subst e5
      obtain ⟨e1, e2, e3⟩ := drop_cons hu
      have e := drop_len hle' (by omega) (ht.trans e2.symm)
      subst e
      refine ifT (eqz rfl) ⟨_, rfl, rd, dr, _, rfl, hrd0', fs2_no, rd, ln, pl, ns, a, rfl, hrd0, hns0, e1, fun H1 hrd1 b1 => ⟨(by show 1 ≤ sizeLine; decide), fun q hq => ?_⟩⟩
      have s2 := same_upd (o := .lst [V.int a]) hq
      exact tail _ q [a] (((But.of_same s0).trans b1).trans (But.of_same s2)) ((hS0.reader hrd0' b1).same s2) (hrd1.same s2) ((tabs_rd hT0 hrd0 b1).ext s2) upd_same (by simp) (fun _ z => by cases z) (step_left M a)
    | list p n r hp0 hn =>
      have hc : c0 = 7 ∨ c0 = 9 := by omega
      obtain ⟨f1, f2, f3⟩ := drop_cons hu
      have hrl : r.length = ns.length - (pl + 1) := by rw [← f2, List.length_drop]
      have e : pl' = pl + 1 + n := drop_len hle' (by omega) (by rw [ht, ← f2, List.drop_drop])
      subst e
      have hrow : Md49Neutral.row (r.take n) = true := by
        rcases hc with rfl | rfl
        · exact hask
        · exact hask
      have hrl2 := row_le hrow
      refine ifF (nez (by omega)) ?_
      refine ⟨_, rfl, rfl, _, rfl, ?_⟩
      have fin : ∀ (H1 : Hp) (lv : Addr), ReadAt CR H1 rd ln (pl + 1 + n) → But rd H0 H1 → H1 lv = some (.lst (((ns.drop (pl + 1)).take n).map V.int)) → tt { nx := fun _ H' => Q .non H', rt := Q } [some (.ref st), some (.int c0), some (.ref rd), some (.ref lv)] H1 := fun H1 lv hrd1 b1 hlv => by
        rw [f2] at hlv
        exact tail H1 lv (r.take n) ((But.of_same s0).trans b1) (hS0.reader hrd0' b1) hrd1 (tabs_rd hT0 hrd0 b1) hlv hrl2 (fun z => by omega) (step_list hc _)
      rcases hc with rfl | rfl
      · exact ifT (eqz rfl) (iteT ⟨_, rfl, rd, dr, _, rfl, hrd0', fs2_no, rd, ln, pl, n, ns, rfl, hrd0, hns0, f1, by omega, fun H1 lv hrd1 b1 _ hlv => fin H1 lv hrd1 b1 hlv⟩)
      · exact ifF (nez (by omega)) ⟨_, rfl, rfl, _, rfl, ifT (eqz rfl) ⟨_, rfl, rd, dr, _, rfl, hrd0', fs2_no, rd, ln, pl, n, ns, rfl, hrd0, hns0, f1, by omega, fun H1 lv hrd1 b1 _ hlv => fin H1 lv hrd1 b1 hlv⟩⟩
    | both a n r hn => omega
end
end Jp
/-! A call of a row with a specification, where tables of code objects may grow. -/
namespace Jp
open PySem PySem.Spec PyProof.Rows L2 LamX
open PySem.W (WData Codec OpenSpec WellAll ReadsW)
/-- the tables' addresses -/
abbrev tabsOf (cs : List (Addr × Addr)) : List Addr := cs.map (·.2)
/-- the arguments tracked, and the tables, empty as yet -/
def withT (cs : List (Addr × Addr)) (G : Hp) : Hp := fun b => if b ∈ tabsOf cs then some (.tbl #[]) else G b
theorem withT_in {cs : List (Addr × Addr)} {G : Hp} {b : Addr} (h : b ∈ tabsOf cs) : withT cs G b = some (.tbl #[]) := if_pos h
theorem withT_out {cs : List (Addr × Addr)} {G : Hp} {b : Addr} (h : b ∉ tabsOf cs) : withT cs G b = G b := if_neg h
/-- what the call asks of the def -/
structure EndsT (P : Program) (w : World) (K : PySem.W.Frag) (mg : Str → Option Value) (h : Heap) (k : Nat) (fa : Addr) (ps : List Str) (good : List V → Hp → (VK) → Prop) : Prop where
  ex : ∃ (fd : FuncData) (cs : List (Addr × Addr)) (sp : Sp), (∀ (s : Shared) (us : List Value), us.length = ps.length → BindsTo s fd ⟨us, []⟩ (ps.zip us)) ∧ (∀ p ∈ cs, h.get? p.2 = some { cls := .none, data := .fields #[] }) ∧ (∀ p ∈ cs, K.lookup p.2 = none) ∧ (∀ p ∈ cs, PySem.W.CodeHd h p.1 p.2) ∧
    (∀ base : Heap, K.In base → base.Ns mainGlobals mg → (∀ p ∈ cs, TabB base mg p.1 p.2) → FnOk P w K mg base CX0 k fa fd ps sp) ∧
    ∀ (G H : Hp) (xs : List V) (Q : VK), Same G H → (∀ p ∈ cs, H p.2 = some (.tbl #[])) → good xs G Q → sp xs H Q fun _ _ _ => False
theorem call_specT {P : Program} {w : World} {K : PySem.W.Frag} {mg mb : Str → Option Value} {k : Nat} {fa : Addr} {ps : List Str} {good : List V → Hp → VK → Prop} {s1 : Shared} {vals : List Value} {ds : List WData} {R : PySem.W.WRecords} {cl : Str → Option Addr} {d0 : WData}
    (inK : K.In s1.heap) (nsG : s1.heap.Ns mainGlobals mg) (nsB : s1.heap.Ns builtinsNs mb) (bb : ∀ x : Str, x ≠ "__name__" → mb x = bootBuiltins x) (lim : s1.heap.NoLimit) (ng : s1.gens = #[])
    (bmod : ∃ (bm : Addr) (ob : Obj), mg "__builtins__" = some (.ref bm) ∧ bm ≠ builtinsNs ∧ s1.heap.get? bm = some ob ∧ ob.cls = .type "module" ∧ ob.dict = some builtinsNs ∧ ob.data = .plain)
    (wl : WellAll w.params s1.heap vals ds) (pl : plWs ds = true) (wt : ∀ d ∈ ds, d.weight ≤ 1048576) (room : Room k callerA) (E : EndsT P w K mg s1.heap k fa ps good) (len : ds.length = ps.length)
    (asks : ∀ (G : Hp) (xs : List V), DwAll K G xs ds → good xs G fun v H' => Dw K H' v d0) :
    codeAny (model P w) callerA (.call (.ref fa) ⟨vals, []⟩) (fun r s' => ∃ u as, r = .ok (.ret u) ∧ ReadsW R cl s'.heap u d0 as ∧ OldK s1.heap s'.heap ∧ s'.os = s1.os ∧ AllBare s'.gens) s1 := by
  obtain ⟨fd, cs, sp, binds, tabAt, tabK, code, fnok, told⟩ := E.ex
  obtain ⟨A, okA, ar⟩ := area_all ds vals wl pl wt
  have tabObj : ∀ b, b ∈ tabsOf cs → s1.heap.get? b = some { cls := .none, data := .fields #[] } := fun b hb => by
    obtain ⟨p, hp, rfl⟩ := List.mem_map.mp hb
    exact tabAt p hp
  have inTabs : ∀ p ∈ cs, p.2 ∈ tabsOf cs := fun p hp => List.mem_map.mpr ⟨p, hp, rfl⟩
  have isArg : ∀ b u, argH K s1.heap A b = some u → b ∉ tabsOf cs := fun b u e hb => by
    have e1 := tabObj b hb
    obtain ⟨_, vs, _, _, ⟨e2, _⟩ | ⟨e2, _⟩⟩ := argH_is ar e
    · rw [e1] at e2
      cases e2
    · rw [e1] at e2
      cases e2
  have sameG : Same (argH K s1.heap A) (withT cs (argH K s1.heap A)) := fun b u e => (withT_out (isArg b u e)).trans e
  have args := dw_all inK ar ds vals wl pl okA
  have rel := vals_toV okA
  have goodH := told _ _ _ _ sameG (fun p hp => withT_in (inTabs p hp)) (asks _ _ args)
  -- what may be tracked
  have kinds : ∀ b u, withT cs (argH K s1.heap A) b = some u → (b ∈ tabsOf cs ∧ u = .tbl #[]) ∨ (b ∉ tabsOf cs ∧ argH K s1.heap A b = some u) := fun b u e => by
    by_cases hb : b ∈ tabsOf cs
    · rw [withT_in hb] at e
      exact .inl ⟨hb, (Option.some.inj e).symm⟩
    · rw [withT_out hb] at e
      exact .inr ⟨hb, e⟩
  have okH : HOk P w (withT cs (argH K s1.heap A)) s1.heap := fun b u e => by
    rcases kinds b u e with ⟨hb, rfl⟩ | ⟨_, e⟩
    · exact tabObj b hb
    · obtain ⟨_, vs, l1, l2, ⟨e1, rfl⟩ | ⟨e1, rfl⟩⟩ := argH_is ar e
      · exact ⟨e1, (by rw [List.length_map]; exact l1), vs, _, vals_toV l2, e1⟩
      · exact ⟨e1, (by rw [List.length_map]; exact l1), vs, vals_toV l2, _, e1, rfl, _, rfl⟩
  have notK : ∀ b o, K.lookup b = some o → withT cs (argH K s1.heap A) b = none := fun b o e => by
    cases q : withT cs (argH K s1.heap A) b with
    | none => rfl
    | some u =>
      rcases kinds b u q with ⟨hb, _⟩ | ⟨_, q'⟩
      · obtain ⟨p, hp, rfl⟩ := List.mem_map.mp hb
        rw [tabK p hp] at e
        cases e
      · rw [(argH_is ar q').1] at e
        cases e
  have frozen : ∀ b u, withT cs (argH K s1.heap A) b = some u → b ∉ tabsOf cs → ∃ o v, u = .frz o v := fun b u e hb => by
    rcases kinds b u e with ⟨hb', _⟩ | ⟨_, e⟩
    · exact absurd hb' hb
    · obtain ⟨_, vs, _, _, ⟨_, rfl⟩ | ⟨_, rfl⟩⟩ := argH_is ar e
      · exact ⟨_, _, rfl⟩
      · exact ⟨_, _, rfl⟩
  -- an object that is no sequence and no empty record of values is not tracked
  have untracked : ∀ {b : Addr} {o : Obj}, s1.heap.get? b = some o → (∀ vs n, o.data ≠ .seq vs n) → o.data ≠ .fields #[] → withT cs (argH K s1.heap A) b = none := fun {b o} e n1 n2 => by
    cases q : withT cs (argH K s1.heap A) b with
    | none => rfl
    | some u =>
      rcases kinds b u q with ⟨hb, _⟩ | ⟨_, q'⟩
      · have e2 := tabObj b hb
        rw [e] at e2
        exact absurd (congrArg Obj.data (Option.some.inj e2)) n2
      · obtain ⟨_, vs, _, _, ⟨e2, _⟩ | ⟨e2, _⟩⟩ := argH_is ar q'
        · rw [e] at e2
          exact absurd (congrArg Obj.data (Option.some.inj e2)) (n1 _ _)
        · rw [e] at e2
          exact absurd (congrArg Obj.data (Option.some.inj e2)) (n1 _ _)
  have tabH : ∀ p ∈ cs, withT cs (argH K s1.heap A) p.2 = some (.tbl #[]) := fun p hp => withT_in (inTabs p hp)
  generalize withT cs (argH K s1.heap A) = H at goodH okH notK frozen untracked tabH
  -- the heap without what is tracked
  have left : ∀ {b : Addr} {o : Obj}, s1.heap.get? b = some o → H b = none → (hidT s1.heap H).get? b = some o := fun e n => hidT_get e n
  have dictL : ∀ {b : Addr} {m : Str → Option Value}, s1.heap.Ns b m → (hidT s1.heap H).Ns b m := fun {b m} x => by
    obtain ⟨o, es, ep, e, d, rest⟩ := x
    refine ⟨o, es, ep, left e (untracked e (fun vs n z => ?_) fun z => ?_), d, rest⟩
    · rw [d] at z
      cases z
    · rw [d] at z
      cases z
  have inB : K.In (hidT s1.heap H) := fun b o e => left (inK b o e) (notK b o e)
  have md : L2.Mod K mg (hidT s1.heap H) := by
    refine ⟨inB, dictL nsG, ⟨mb, dictL nsB, bb⟩, ?_⟩
    obtain ⟨mc, l1, l2⟩ := lim
    exact ⟨mc, dictL l1, l2⟩
  have tb : ∀ p ∈ cs, TabB (hidT s1.heap H) mg p.1 p.2 := fun p hp => by
    have atP := tabAt p hp
    refine ⟨?_, ?_, fun z => ?_⟩
    · obtain ⟨o, us, fl, tf, fg, tg, inF, tx, tt, e1, r1, r2, r3, rest⟩ := code p hp
      refine ⟨o, us, fl, tf, fg, tg, inF, tx, tt, left e1 (untracked e1 (fun vs n z => ?_) fun z => ?_), r1, r2, r3, rest⟩
      · rw [r2] at z
        cases z
      · rw [r2] at z
        cases z
        simp at r3
    · obtain ⟨bm, ob, b1, b2, b3, b4, b5, b6⟩ := bmod
      refine ⟨bm, ob, b1, b2, fun q => ?_, fun q => ?_, left b3 (untracked b3 (fun vs n z => ?_) fun z => ?_), b4, b5, b6⟩
      · obtain ⟨o, es, ep, e, d, _⟩ := nsG
        rw [q, e] at b3
        cases b3
        rw [d] at b6
        cases b6
      · rw [q, atP] at b3
        cases b3
        cases b6
      · rw [b6] at z
        cases z
      · rw [b6] at z
        cases z
    · obtain ⟨o, es, ep, e, d, _⟩ := nsG
      rw [z, atP] at e
      cases e
      cases d
  have env : Env0 P w K mg (hidT s1.heap H) callerA [] s1 H :=
    ⟨rfl, md, (fun b o e => of_hidT e), Nat.le_of_eq (hidT_size _ _), trivial, (fun b hb => absurd (show b ∈ ([] : List Addr) from hb) List.not_mem_nil), okH, .of_eq ng⟩
  have lenV : vals.length = ps.length := (wellAll_len wl).trans len
  refine codeAny_mono ((fnok _ inB (dictL nsG) tb).run callerA [] s1 H ⟨vals, []⟩ vals (vals.map toV) _ _ room env (binds s1 vals lenV) rel goodH) fun res s2 out => ?_
  cases res with
  | error e => exact False.elim out
  | ok fl =>
    cases fl with
    | next => exact out.elim
    | brk => exact out.elim
    | cont => exact out.elim
    | ret u =>
      obtain ⟨v, H2, os2, bare2, un, okH2, rv, dv⟩ := out
      have kept : ∀ b o, b ∉ tabsOf cs → s1.heap.get? b = some o → s2.heap.get? b = some o := fun b o hb e => by
        rcases Option.eq_none_or_eq_some (H b) with n | ⟨x, hx⟩
        · exact un.keep b o e n (fun z => absurd (show b ∈ ([] : List Addr) from z) List.not_mem_nil) List.not_mem_nil
        · obtain ⟨ob, y, rfl⟩ := frozen b x hx hb
          obtain ⟨e1, _⟩ := okH b _ hx
          obtain ⟨e2, _⟩ := okH2 b _ (un.frzs b ob _ hx)
          rw [e] at e1
          cases e1
          exact e2
      have grown : ∀ p ∈ cs, ∃ more : Array Value, s2.heap.get? p.2 = some { cls := .none, data := .fields more } := fun p hp => by
        obtain ⟨more, z⟩ := un.tbls p.2 #[] (tabH p hp)
        exact ⟨_, okH2 p.2 _ z⟩
      have inK2 : K.In s2.heap := fun b o e => kept b o (fun hb => by
        obtain ⟨p, hp, rfl⟩ := List.mem_map.mp hb
        rw [tabK p hp] at e
        cases e) (inK b o e)
      obtain ⟨as, rd⟩ := Dw.reads (R := R) (cl := cl) okH2 inK2 d0 v u dv rv
      refine ⟨u, as, rfl, rd, ⟨fun b o e => ?_, fun b o e => ?_⟩, os2, bare2⟩
      · by_cases hb : b ∈ tabsOf cs
        · obtain ⟨p, hp, rfl⟩ := List.mem_map.mp hb
          obtain ⟨more, hm⟩ := grown p hp
          have e0 := tabAt p hp
          rw [e0] at e
          cases e
          refine .inr (.inl ⟨((code p hp).tab e0).isCodeTable, rfl, #[], more, rfl, ?_⟩)
          rw [Array.empty_append]
          exact hm
        · exact .inl (kept b o hb e)
      · by_cases hb : b ∈ tabsOf cs
        · obtain ⟨p, hp, rfl⟩ := List.mem_map.mp hb
          obtain ⟨more, hm⟩ := grown p hp
          exact ⟨_, hm⟩
        · exact ⟨o, kept b o hb e⟩
/-- the row's walk from what is known at the head's heap -/
theorem walk_specT {r : OpenSpec} {k : Nat} {q : Program} {loose : List Str} {XP : (Str → Option Value) → Heap → Prop} {YP : World → Heap → Prop} {d : DefRec} {K : Params → PySem.W.Frag} {ps : List Str} {good : PySem.W.Frag → List V → Hp → VK → Prop}
    (well : r.wellSaid = true) (len : r.args.length = ps.length) (room : Room k callerA) (hY : ∀ (w : World) (h : Heap), YP w h → (K w.params).In h)
    (F : ∀ (w : World) (mean : ExcName → Option Value) (mg mb : Str → Option Value) (fa : Addr) (h : Heap), (K w.params).In h → Top q (PySem.W.looseW q loose) mean mg mb h → mg d.name = some (.ref fa) → EndsT r.prog w (K w.params) mg h k fa ps (good (K w.params)))
    (asks : ∀ (K : PySem.W.Frag) (G : Hp) (xs : List V) (a : Codec.denoteAll r.args), Codec.withinAll r.args a = true → Codec.app r.args r.asked a = true → DwAll K G xs (Codec.encAll r.args a) → good K xs G fun v H' => Dw K H' v (r.ret.enc (Codec.app r.args r.f a))) :
    PySem.W.WalkOS q loose XP YP r d [] (fun f vs => PySem.call f vs) := by
  intro w s0 s1 mg mb G Y fa o pm cd doc dV kV ho hd hcd hD hmg hg args vals as hpre hlay hrd hwl hlo
  obtain ⟨a, e1, e2⟩ := PySem.W.os_pre_some hpre
  obtain ⟨rfl, within⟩ := Codec.encAll_of_decAll r.args args a e1
  have inK := hY w _ Y
  refine PySem.W.enter_call (codeAny_mono (call_specT (R := []) (cl := classAt s0.heap) (d0 := r.ret.enc (Codec.app r.args r.f a)) inK G.T.g G.T.b G.T.builtins G.T.nolimit hg G.T.bmain hwl (pl_encAll _ _) (layable_weight hlay) room (F w _ mg mb fa _ inK G.T hmg) (by rw [encAll_len]; exact len) fun G' xs x => asks _ G' xs a within e2 x) fun res s2 out => ?_)
  obtain ⟨u, as2, rfl, o1, o2, o3, o4⟩ := out
  exact ⟨.inl ⟨u, _, as2, rfl, (fun _ => rfl), o1, (OpenSpec.post_iff well within _ _).mpr rfl, fun z => Bool.noConfusion (show false = true from z)⟩, o2, o3, o4⟩
end Jp
namespace Jp
open PySem PySem.Spec PyProof.Rows L2 LamX
/-- the defs of points 1 to 3, each by those that it calls -/
structure Low (P : Program) (w : World) (K : PySem.W.Frag) (mg : Str → Option Value) (base : Heap) (CT CS CA CF CR : Addr) : Prop where
  begin_ : Ok P w K mg base "begin" 1 ["store"] (spBegin CS CT CA)
  table : Ok P w K mg base "add_table" 3 ["store", "columns"] (spAddTable CS CT CA)
  row : Ok P w K mg base "add_row" 3 ["store", "number", "values"] (spAddRow CS CT CA)
  ask : Ok P w K mg base "ask" 5 ["store", "numbers"] (spAsk CS CT CA)
  fits : Ok P w K mg base "fitting_rows" 3 ["atom"] (spFittingRows CT CA CF)
  agree : Ok P w K mg base "agree" 1 ["bound", "other"] spAgree
  vars : Ok P w K mg base "variables_of" 1 ["atom"] (spVariablesOf CA)
  tree : Ok P w K mg base "tell_tree" 5 ["question"] (spTellTree CT CA)
  left : Ok P w K mg base "tell_left" 7 ["question", "atom"] (spTellLeft CT CA)
  number : OkM P w K mg base CR "take_number" 1 ["self"] (spTakeNumber K CR)
  list : OkM P w K mg base CR "take_list" 2 ["self"] (spTakeList K CR)
  more : OkM P w K mg base CR "has_more" 1 ["self"] (spHasMore K CR)
  store : Made P w K mg base CS 1 ["self"] (spStoreInit CS)
  reader : Made P w K mg base CR 1 ["self", "numbers"] (spReaderInit CR)
theorem low_ok {P : Program} {w : World} {K : PySem.W.Frag} {mg : Str → Option Value} {base : Heap} {CT CS CA CF CH CR : Addr} (N : Plain mg)
    (TT : Klass K mg "Table" CT ["columns", "rows"]) (IT : HasInit K "Table.__init__" CT sTableInit ["self", "columns"]) (TS : Klass K mg "Store" CS ["tables", "question"]) (IS : HasInit K "Store.__init__" CS sStoreInit ["self"])
    (TA : Klass K mg "Atom" CA ["table", "terms"]) (IA : HasInit K "Atom.__init__" CA sAtomInit ["self", "table", "terms"]) (TF : Klass K mg "FittingRow" CF ["row", "bound"]) (IF : HasInit K "FittingRow.__init__" CF sFitInit ["self", "row", "bound"])
    (TH : Klass K mg "Hanging" CH ["taken", "standing"]) (IH : HasInit K "Hanging.__init__" CH sHangInit ["self", "taken", "standing"]) (TR : Klass K mg "Reader" CR ["numbers", "place"]) (IR : HasInit K "Reader.__init__" CR sReaderInit ["self", "numbers"])
    (M1 : HasM K CR "has_more" "Reader.has_more" sHasMore ["self"]) (M2 : HasM K CR "take_number" "Reader.take_number" sTakeNumber ["self"]) (M3 : HasM K CR "take_list" "Reader.take_list" sTakeList ["self"])
    (d1 : Has K mg "is_value" sIsValue ["number"]) (d2 : Has K mg "is_row_of" sIsRowOf ["table", "numbers"]) (d3 : Has K mg "is_term" sIsTerm ["kind", "number"]) (d4 : Has K mg "read_atom" sReadAtom ["tables", "numbers", "place"]) (d5 : Has K mg "read_atoms" sReadAtoms ["tables", "numbers"])
    (d6 : Has K mg "variables_of" sVariablesOf ["atom"]) (d7 : Has K mg "bind" sBind ["atom", "row"]) (d8 : Has K mg "fitting_rows" sFittingRows ["atom"]) (d9 : Has K mg "agree" sAgree ["bound", "other"]) (d10 : Has K mg "is_shared" sIsShared ["variable", "atom", "variables", "standing"])
    (d11 : Has K mg "find_holder" sFindHolder ["atom", "variables", "standing"]) (d12 : Has K mg "find_pair" sFindPair ["variables", "standing"]) (d13 : Has K mg "take_off" sTakeOff ["atoms"]) (d14 : Has K mg "has_partner" sHasPartner ["fitting", "others"]) (d15 : Has K mg "stays" sStays ["fitting", "atom", "kept"])
    (d16 : Has K mg "staying_rows" sStayingRows ["atom", "kept"]) (d17 : Has K mg "throw_out" sThrowOut ["kept"]) (d18 : Has K mg "how_many_rows" sHowMany ["kept"]) (d19 : Has K mg "rows_left" sRowsLeft ["atoms"]) (d20 : Has K mg "begin" sBegin ["store"])
    (d21 : Has K mg "add_table" sAddTable ["store", "columns"]) (d22 : Has K mg "add_row" sAddRow ["store", "number", "values"]) (d23 : Has K mg "ask" sAsk ["store", "numbers"]) (d24 : Has K mg "tell_tree" sTellTree ["question"]) (d25 : Has K mg "tell_left" sTellLeft ["question", "atom"])
    (c1 : IntC mg "LEAST_VALUE" (-1000000000)) (c2 : IntC mg "GREATEST_VALUE" 1000000000) (c3 : IntC mg "MOST_ATOMS" 5) (c4 : IntC mg "GREATEST_VARIABLE" 9) (c5 : IntC mg "VALUE_TERM" 0) (c6 : IntC mg "VARIABLE_TERM" 1)
    (c7 : IntC mg "WRONG" (-1)) (c8 : IntC mg "FULL" (-6)) (c9 : IntC mg "MOST_TABLES" 6) (c10 : IntC mg "MOST_COLUMNS" 4) (c11 : IntC mg "MOST_ROWS" 10) : Low P w K mg base CT CS CA CF CR := by
  have gv : Ok P w K mg base "is_value" 1 ["number"] spIsValue := ok_isValue d1 c1 c2
  have gr : Ok P w K mg base "is_row_of" 2 ["table", "numbers"] (spIsRowOf K CT) := ok_isRowOf d2 N TT gv
  have gt := ok_isTerm d3 c5 c6 c4 gv
  have ga := ok_readAtoms d5 N TA c3 (ok_readAtom d4 N TT TA (ok_atomInit IA TA) gt)
  have gf : Ok P w K mg base "fitting_rows" 3 ["atom"] (spFittingRows CT CA CF) := ok_fittingRows d8 N TT TA TF (ok_fitInit IF TF) (ok_bind d7 N TA c5)
  have gg : Ok P w K mg base "agree" 1 ["bound", "other"] spAgree := ok_agree d9
  have gw : Ok P w K mg base "variables_of" 1 ["atom"] (spVariablesOf CA) := ok_variablesOf d6 TA c6
  have gl := ok_rowsLeft d19 gf (ok_throwOut d17 N (ok_stayingRows d16 (ok_stays d15 N (ok_hasPartner d14 N TF gg)))) (ok_howMany d18 N)
  have go := ok_takeOff d13 N TH (ok_hangInit IH TH) gw (ok_findPair d12 (ok_findHolder d11 N (ok_isShared d10 N)))
  have gn : OkM P w K mg base CR "take_number" 1 ["self"] (spTakeNumber K CR) := ok_takeNumber M2 TR
  exact ⟨ok_begin d20 TS, ok_addTable d21 N TS TT (ok_tableInit IT TT) c7 c8 c10 c9, ok_addRow d22 N TS TT gr c7 c8 c11, ok_ask d23 N TS ga c7, gf, gg, gw, ok_tellTree d24 N TH go, ok_tellLeft d25 N TF gl c7, gn, ok_takeList M3 TR gn, ok_hasMore M1 N TR, ok_storeInit IS TS, ok_readerInit IR TR⟩
/-- what is asked of a call of answers -/
def goodA (K : PySem.W.Frag) : List V → Hp → VK → Prop := fun xs G Q => ∃ (a : Addr) (ns : List Int), xs = [.ref a] ∧ SqL K G a (ns.map V.int) ∧ PyMd49.answers_asked ns = true ∧ ∀ (H' : Hp) (p : Addr), H' p = some (.lst ((PyMd49.answers ns).map V.int)) → Q (.ref p) H'
theorem good_sp {K : PySem.W.Frag} {c1 P1 c2 P2 : Addr} (G H : Hp) (xs : List V) (Q : VK) (s : Same G H) (t : ∀ p ∈ [(c1, P1), (c2, P2)], H p.2 = some (.tbl #[])) (g : goodA K xs G Q) : spAnswers [(P1, qCheap), (P2, qPlan)] K xs H Q fun _ _ _ => False := by
  obtain ⟨a, ns, rfl, h1, h2, h3⟩ := g
  refine ⟨a, ns, rfl, fun p hp => ?_, s.seq h1, h2, h3⟩
  rcases List.mem_cons.mp hp with rfl | hp
  · exact TabS.nil (t (c1, P1) List.mem_cons_self)
  · rw [List.mem_singleton.mp hp]
    exact TabS.nil (t (c2, P2) (List.mem_cons_of_mem _ List.mem_cons_self))
theorem top_ok {P : Program} {w : World} {K : PySem.W.Frag} {mg : Str → Option Value} {base : Heap} {CT CS CA CF CR CP CG CW CL c1 P1 c2 P2 f : Addr} {fd : FuncData} (N : Plain mg) (low : Low P w K mg base CT CS CA CF CR) (hP : P1 ≠ P2)
    (TS : Klass K mg "Store" CS ["tables", "question"]) (TF : Klass K mg "FittingRow" CF ["row", "bound"]) (TR : Klass K mg "Reader" CR ["numbers", "place"]) (TP : Klass K mg "Part" CP ["variables", "rows"]) (IP : HasInit K "Part.__init__" CP sPartInit ["self", "variables", "rows"])
    (TG : Klass K mg "Groups" CG ["variables", "sizes"]) (IG : HasInit K "Groups.__init__" CG sGroupsInit ["self", "variables", "sizes"]) (TW : Klass K mg "WayCounts" CW ["parts", "known"]) (IW : HasInit K "WayCounts.__init__" CW sWayCountsInit ["self", "atoms"]) (MW : HasM K CW "ways_of" "WayCounts.ways_of" sWaysOf ["self", "numbers"])
    (TL : Klass K mg "Plan" CL ["cost", "steps"]) (IL : HasInit K "Plan.__init__" CL sPlanInit ["self", "cost", "steps"])
    (d1 : Has K mg "pick" sPick ["source", "places"]) (d2 : Has K mg "part_of" sPartOf ["atom"]) (d3 : Has K mg "parts_of" sPartsOf ["atoms"]) (d4 : Has K mg "places_of" sPlacesOf ["variables", "among"]) (d5 : Has K mg "rows_by" sRowsBy ["part", "variables"]) (d6 : Has K mg "joined_with" sJoinedWith ["groups", "part", "wanted"])
    (d7 : Has K mg "still_wanted" sStillWanted ["asked", "behind"]) (d8 : Has K mg "group_ways" sGroupWays ["parts", "asked"]) (d9 : Has K mg "count_ways" sCountWays ["parts"]) (d10 : Has K mg "is_order" sIsOrder ["numbers", "atoms"]) (d11 : Has K mg "order_cost" sOrderCost ["counts", "order"])
    (d12 : Has K mg "lengthened" sLengthened ["orders", "how_many"]) (d13 : Has K mg "all_orders" sAllOrders ["how_many"]) (d14 : HasC K mg "cheapest_order" sCheapestOrder ["counts"] c1) (d15 : Has K mg "widened" sWidened ["sides", "some"]) (d16 : Has K mg "first_sides" sFirstSides ["some"])
    (d17 : Has K mg "joined_plan" sJoinedPlan ["counts", "some", "side"]) (d18 : HasC K mg "plan_of" sPlanOf ["counts", "some"] c2) (d19 : Has K mg "cheapest_plan" sCheapestPlan ["counts"]) (d20 : Has K mg "some_atom_has" sSomeAtomHas ["question", "variable"]) (d21 : Has K mg "tell_answers" sTellAnswers ["question", "variables"])
    (d22 : Has K mg "tell_order" sTellOrder ["question"]) (d23 : Has K mg "tell_cost" sTellCost ["question", "order"]) (d24 : Has K mg "tell_plan" sTellPlan ["question"]) (d25 : Has K mg "answer_with" sAnswerWith ["question", "call", "numbers"]) (d26 : Has K mg "answer_of_question" sAnswerOfQuestion ["store", "call", "reader"])
    (d27 : Has K mg "answer_call" sAnswerCall ["store", "reader"]) (F : Fun K "answers" "answers" sAnswers f fd)
    (k0 : IntC mg "BEGIN" 0) (k1 : IntC mg "TABLE" 1) (k2 : IntC mg "ROW" 2) (k3 : IntC mg "QUESTION" 3) (k4 : IntC mg "TREE" 4) (k5 : IntC mg "LEFT" 5) (k6 : IntC mg "COUNT" 6) (k7 : IntC mg "ANSWERS" 7) (k8 : IntC mg "ORDER" 8) (k9 : IntC mg "COST" 9) (kw : IntC mg "WRONG" (-1)) (kn : IntC mg "NO_QUESTION" (-5)) (kj : IntC mg "JOINING" (-1))
    (tb : ∀ p ∈ [(c1, P1), (c2, P2)], TabB base mg p.1 p.2) : FnOk P w K mg base CX0 22 f fd ["calls"] (spAnswers [(P1, qCheap), (P2, qPlan)] K) := by
  have tb1 := tb (c1, P1) List.mem_cons_self
  have tb2 := tb (c2, P2) (List.mem_cons_of_mem _ List.mem_cons_self)
  generalize hT : [(P1, qCheap), (P2, qPlan)] = TT
  have hm1 : (P1, qCheap) ∈ TT := hT ▸ List.mem_cons_self
  have hm2 : (P2, qPlan) ∈ TT := hT ▸ List.mem_cons_of_mem _ List.mem_cons_self
  have hu1 : ∀ p ∈ TT, p.1 = P1 → p.2 = qCheap := fun p hp e => by
    rw [← hT] at hp
    rcases List.mem_cons.mp hp with rfl | hp
    · rfl
    · rw [List.mem_singleton.mp hp] at e
      exact absurd e.symm hP
  have hu2 : ∀ p ∈ TT, p.1 = P2 → p.2 = qPlan := fun p hp e => by
    rw [← hT] at hp
    rcases List.mem_cons.mp hp with rfl | hp
    · exact absurd e hP
    · rw [List.mem_singleton.mp hp]
  have gp : Ok P w K mg base "pick" 1 ["source", "places"] spPick := ok_pick d1 N
  have gl : Ok P w K mg base "places_of" 1 ["variables", "among"] (spPlacesOf K) := ok_placesOf d4
  have gps : Ok P w K mg base "parts_of" 5 ["atoms"] (spPartsOf CT CA CP) := ok_partsOf d3 (ok_partOf d2 N TP TF (ok_partInit IP TP) low.vars low.fits gp)
  have gg : Ok P w K mg base "group_ways" 4 ["parts", "asked"] (spGroupWays K CP CG) := ok_groupWays d8 N TG (ok_groupsInit IG TG) (ok_joinedWith d6 TP TG (ok_groupsInit IG TG) gl gp (ok_rowsBy d5 TP gl gp)) (ok_stillWanted d7 N TP)
  have gc : Ok P w K mg base "count_ways" 5 ["parts"] (spCountWays CP) := ok_countWays d9 N TG gg
  have mw : Made P w K mg base CW 6 ["self", "atoms"] (spWayInit CT CA CW CP) := ok_wayInit IW TW gps
  have gw : OkM P w K mg base CW "ways_of" 6 ["self", "numbers"] (spWaysOf TT K CW CP) := ok_waysOf MW N TW gc
  have go : Ok P w K mg base "order_cost" 7 ["counts", "order"] (spOrderCost TT K CW CP) := ok_orderCost d11 N TW gw
  have gco : Ok P w K mg base "cheapest_order" 10 ["counts"] (spCheapestOrder TT CW CP) := ok_cheapestOrder d14 tb1 hm1 hu1 N TW (ok_allOrders d13 N (ok_lengthened d12 N)) go
  have ml : Made P w K mg base CL 1 ["self", "cost", "steps"] (spInit2 CL "cost" "steps") := ok_planInit IL TL
  have gf : Ok P w K mg base "first_sides" 2 ["some"] spFirstSides := ok_firstSides d16 N (ok_widened d15)
  have gpl : ∀ n : Nat, Ok P w K mg base "plan_of" (2 * n + 6) ["counts", "some"] (spPlanOf n TT CW CP CL) := fun n => by
    induction n with
    | zero => exact ok_planOf0 d18
    | succ n ih => exact ok_planOf1 d18 tb2 hm2 hu2 N TL ml gf (ok_joinedPlan d17 N TW TL ml kj gw ih)
  have gcp : Ok P w K mg base "cheapest_plan" 17 ["counts"] (spCheapestPlan TT CW CP CL) := ok_cheapestPlan d19 N TW (gpl 5)
  have g7 : Ok P w K mg base "tell_answers" 6 ["question", "variables"] (spTellN TT K CT CA answersAns) := ok_tellAnswers d21 N TG kw (ok_someHas d20 N low.vars) gps gg gl gp
  have g8 : Ok P w K mg base "tell_order" 11 ["question"] (spTell TT CT CA orderAns) := ok_tellOrder d22 N TW mw gco go
  have g9 : Ok P w K mg base "tell_cost" 8 ["question", "order"] (spTellN TT K CT CA costAns) := ok_tellCost d23 TW kw mw (ok_isOrder d10 N) go
  have g10 : Ok P w K mg base "tell_plan" 18 ["question"] (spTell TT CT CA planAns) := ok_tellPlan d24 TW TL mw gcp
  have gaw : Ok P w K mg base "answer_with" 19 ["question", "call", "numbers"] (spAnswerWith TT CT CA) := ok_answerWith d25 k4 k5 k6 k7 k8 k9 low.tree low.left gc gps g7 g8 g9 g10
  have gq : Ok P w K mg base "answer_of_question" 20 ["store", "call", "reader"] (spAnswerOfQuestion TT K CS CT CA CR) := ok_answerOfQuestion d26 N TS TR k5 k7 k9 kn low.number low.list gaw
  have gac := ok_answerCall (k := 20) (by decide) d27 TR k0 k1 k2 k3 low.number low.list low.begin_ low.table low.row low.ask gq
  exact fn_answers (k := 21) (by decide) F N TS TR low.store low.reader low.more gac
end Jp
namespace Jp
open PySem PySem.Spec PyProof.Rows L2
/-! ### The end: what the top has written -/
theorem has_mk {K : PySem.W.Frag} {h : Heap} {mg : Str → Option Value} (X : K.In h) (G : h.Ns mainGlobals mg) {x : Str} {st : Stmt} {ps : List Str} {f : Addr} {oc : Value} {od an : Option Addr} {sl : Array (Option Value)} {kV dc pm cd ct : Value} (a : PySem.W.nsIn K mainGlobals x = some (some (.ref f)))
    (l : K.lookup f = some ⟨oc, od, .func (PySem.W.fnOf x x (defArgs st) (defBody st) (defScope st) .none kV dc pm an cd ct), sl⟩) (c : PySem.W.codeIn K cd x = true) (k : PySem.W.keepIn K (.ref f) = true)
    (hb : ∀ (kV doc pm : Value) (an : Option Addr) (cdv ct : Value) (us : List Value), us.length = ps.length → bindArgs (PySem.W.fnOf x x (defArgs st) (defBody st) (defScope st) .none kV doc pm an cdv ct) ⟨us, []⟩ = pure (ps.zip us)) : Has K mg x st ps :=
  ⟨f, _, fun_mk (st := st) l c k, PySem.W.mg_of X G a, k, (fun_mk (st := st) l c k).binds hb⟩
abbrev HasK {K : PySem.W.Frag} {h : Heap} (_ : K.In h) (mg : Str → Option Value) (x : Str) (st : Stmt) (ps : List Str) : Prop := Has K mg x st ps
abbrev NoK {K : PySem.W.Frag} {h : Heap} (_ : K.In h) (x : Str) : Prop := PySem.W.nsIn K mainGlobals x = some none
theorem init_mk {K : PySem.W.Frag} {q : Str} {C : Addr} {st : Stmt} {ps : List Str} {f : Addr} {oc : Value} {od an : Option Addr} {sl : Array (Option Value)} {kV dc pm cd ct : Value} (a : PySem.W.findIn K (.ref C) "__init__" = some (some (.ref f))) (i : PySem.W.isFn K (.ref f) = true)
    (l : K.lookup f = some ⟨oc, od, .func (PySem.W.fnOf "__init__" q (defArgs st) (defBody st) (defScope st) .none kV dc pm an cd ct), sl⟩) (c : PySem.W.codeIn K cd q = true) (k : PySem.W.keepIn K (.ref f) = true) (mk : PySem.W.makesIn K C = true) (kc : PySem.W.keepIn K (.ref C) = true)
    (hb : ∀ (kV doc pm : Value) (an : Option Addr) (cdv ct : Value) (us : List Value), us.length = ps.length → bindArgs (PySem.W.fnOf "__init__" q (defArgs st) (defBody st) (defScope st) .none kV doc pm an cdv ct) ⟨us, []⟩ = pure (ps.zip us)) : HasInit K q C st ps :=
  ⟨f, _, fun_mk (st := st) l c k, ⟨mk, a, i, kc⟩, (fun_mk (st := st) l c k).binds hb⟩
theorem meth_mk {K : PySem.W.Frag} {m q : Str} {C : Addr} {st : Stmt} {ps : List Str} {f : Addr} {oc : Value} {od an : Option Addr} {sl : Array (Option Value)} {kV dc pm cd ct : Value} (a : PySem.W.findIn K (.ref C) m = some (some (.ref f))) (i : PySem.W.isFn K (.ref f) = true)
    (l : K.lookup f = some ⟨oc, od, .func (PySem.W.fnOf m q (defArgs st) (defBody st) (defScope st) .none kV dc pm an cd ct), sl⟩) (c : PySem.W.codeIn K cd q = true) (k : PySem.W.keepIn K (.ref f) = true)
    (hb : ∀ (kV doc pm : Value) (an : Option Addr) (cdv ct : Value) (us : List Value), us.length = ps.length → bindArgs (PySem.W.fnOf m q (defArgs st) (defBody st) (defScope st) .none kV doc pm an cdv ct) ⟨us, []⟩ = pure (ps.zip us)) : HasM K C m q st ps :=
  ⟨f, _, fun_mk (st := st) l c k, ⟨a, i, k⟩, (fun_mk (st := st) l c k).binds hb⟩
theorem plain_mk {K : PySem.W.Frag} {h : Heap} {mg : Str → Option Value} (X : K.In h) (G : h.Ns mainGlobals mg) (z0 : PySem.W.nsIn K mainGlobals "len" = some none) (z1 : PySem.W.nsIn K mainGlobals "all" = some none) (z2 : PySem.W.nsIn K mainGlobals "any" = some none) (z3 : PySem.W.nsIn K mainGlobals "sum" = some none) (z4 : PySem.W.nsIn K mainGlobals "range" = some none) (z5 : PySem.W.nsIn K mainGlobals "zip" = some none) (z6 : PySem.W.nsIn K mainGlobals "sorted" = some none) (z7 : PySem.W.nsIn K mainGlobals "list" = some none) (z8 : PySem.W.nsIn K mainGlobals "tuple" = some none) (z9 : PySem.W.nsIn K mainGlobals "enumerate" = some none) (z10 : PySem.W.nsIn K mainGlobals "min" = some none) : Plain mg :=
  ⟨PySem.W.mg_none_of X G z0, PySem.W.mg_none_of X G z1, PySem.W.mg_none_of X G z2, PySem.W.mg_none_of X G z3, PySem.W.mg_none_of X G z4, PySem.W.mg_none_of X G z5, PySem.W.mg_none_of X G z6, PySem.W.mg_none_of X G z7, PySem.W.mg_none_of X G z8, PySem.W.mg_none_of X G z9, PySem.W.mg_none_of X G z10⟩
theorem hasC_mk {K : PySem.W.Frag} {h : Heap} {mg : Str → Option Value} (X : K.In h) (G : h.Ns mainGlobals mg) {x : Str} {st : Stmt} {ps : List Str} {f c : Addr} {oc : Value} {od an : Option Addr} {sl : Array (Option Value)} {kV dc pm ct : Value} (a : PySem.W.nsIn K mainGlobals x = some (some (.ref f)))
    (l : K.lookup f = some ⟨oc, od, .func (PySem.W.fnOf x x (defArgs st) (defBody st) (defScope st) .none kV dc pm an (.ref c) ct), sl⟩) (cd : PySem.W.codeIn K (.ref c) x = true) (k : PySem.W.keepIn K (.ref f) = true)
    (hb : ∀ (kV doc pm : Value) (an : Option Addr) (cdv ct : Value) (us : List Value), us.length = ps.length → bindArgs (PySem.W.fnOf x x (defArgs st) (defBody st) (defScope st) .none kV doc pm an cdv ct) ⟨us, []⟩ = pure (ps.zip us)) : HasC K mg x st ps c :=
  ⟨f, _, fun_mk (st := st) l cd k, rfl, PySem.W.mg_of X G a, k, (fun_mk (st := st) l cd k).binds hb⟩
/-- the code object of a def and its table, empty -/
theorem tab_mk {K : PySem.W.Frag} {p : Program} {loose : List Str} {mean : ExcName → Option Value} {mg mb : Str → Option Value} {h : Heap} (T : Top p loose mean mg mb h) (X : K.In h) {x : Str} {f c Pt : Addr} {fd : FuncData} {oc cc : Value} {od ocd : Option Addr} {sl csl : Array (Option Value)} {vs : Array Value}
    (hr : (recsOf p).any (fun e => e.name == x) = true) (a : PySem.W.nsIn K mainGlobals x = some (some (.ref f))) (l : K.lookup f = some ⟨oc, od, .func fd, sl⟩) (hc : fd.code = .ref c) (lc : K.lookup c = some ⟨cc, ocd, .fields vs, csl⟩) (hv : vs[11]? = some (.ref Pt)) :
    PySem.W.CodeHd h c Pt ∧ h.get? Pt = some { cls := .none, data := .fields #[] } := by
  obtain ⟨d, hd, hn⟩ := List.any_eq_true.mp hr
  have hn : d.name = x := beq_iff_eq.mp hn
  obtain ⟨a2, o2, fd2, c2, P2, t1, t2, t3, t4, t5, t6⟩ := T.tab d hd
  rw [hn, PySem.W.mg_of X T.g a] at t1
  cases t1
  rw [X _ _ l] at t2
  cases t2
  cases t3
  rw [hc] at t4
  cases t4
  have t7 := t6
  obtain ⟨⟨o3, vs3, u1, u2, u3, u4⟩, u5⟩ := t7
  rw [X _ _ lc] at u1
  cases u1
  cases u3
  rw [hv] at u4
  cases u4
  exact ⟨PySem.W.CodeHd.of t5 t6, u5⟩
/-- the two defs that make a lambda -/
structure Two (K : PySem.W.Frag) (mg : Str → Option Value) (h : Heap) (c1 P1 c2 P2 : Addr) : Prop where
  d1 : HasC K mg "cheapest_order" sCheapestOrder ["counts"] c1
  d2 : HasC K mg "plan_of" sPlanOf ["counts", "some"] c2
  t1 : PySem.W.CodeHd h c1 P1 ∧ h.get? P1 = some { cls := .none, data := .fields #[] }
  t2 : PySem.W.CodeHd h c2 P2 ∧ h.get? P2 = some { cls := .none, data := .fields #[] }
  n1 : K.lookup P1 = none
  n2 : K.lookup P2 = none
  ne : P1 ≠ P2
theorem two_mk {K : PySem.W.Frag} {p : Program} {loose : List Str} {mean : ExcName → Option Value} {mg mb : Str → Option Value} {h : Heap} (T : Top p loose mean mg mb h) (X : K.In h)
    {f1 c1 Q1 : Addr} {oc1 cc1 : Value} {od1 an1 ocd1 : Option Addr} {sl1 csl1 : Array (Option Value)} {kV1 dc1 pm1 ct1 : Value} {vs1 : Array Value} (r1 : (recsOf p).any (fun e => e.name == "cheapest_order") = true) (a1 : PySem.W.nsIn K mainGlobals "cheapest_order" = some (some (.ref f1)))
    (l1 : K.lookup f1 = some ⟨oc1, od1, .func (PySem.W.fnOf "cheapest_order" "cheapest_order" (defArgs sCheapestOrder) (defBody sCheapestOrder) (defScope sCheapestOrder) .none kV1 dc1 pm1 an1 (.ref c1) ct1), sl1⟩) (e1 : PySem.W.codeIn K (.ref c1) "cheapest_order" = true) (k1 : PySem.W.keepIn K (.ref f1) = true)
    (lc1 : K.lookup c1 = some ⟨cc1, ocd1, .fields vs1, csl1⟩) (hv1 : vs1[11]? = some (.ref Q1)) (n1 : K.lookup Q1 = none)
    {f2 c2 Q2 : Addr} {oc2 cc2 : Value} {od2 an2 ocd2 : Option Addr} {sl2 csl2 : Array (Option Value)} {kV2 dc2 pm2 ct2 : Value} {vs2 : Array Value} (r2 : (recsOf p).any (fun e => e.name == "plan_of") = true) (a2 : PySem.W.nsIn K mainGlobals "plan_of" = some (some (.ref f2)))
    (l2 : K.lookup f2 = some ⟨oc2, od2, .func (PySem.W.fnOf "plan_of" "plan_of" (defArgs sPlanOf) (defBody sPlanOf) (defScope sPlanOf) .none kV2 dc2 pm2 an2 (.ref c2) ct2), sl2⟩) (e2 : PySem.W.codeIn K (.ref c2) "plan_of" = true) (k2 : PySem.W.keepIn K (.ref f2) = true)
    (lc2 : K.lookup c2 = some ⟨cc2, ocd2, .fields vs2, csl2⟩) (hv2 : vs2[11]? = some (.ref Q2)) (n2 : K.lookup Q2 = none) (ne : Q1 ≠ Q2) : ∃ c1 P1 c2 P2, Two K mg h c1 P1 c2 P2 :=
  ⟨c1, Q1, c2, Q2, hasC_mk (st := sCheapestOrder) (ps := ["counts"]) X T.g a1 l1 e1 k1 (fun _ _ _ _ _ _ us hl => match us, hl with | [_], _ => rfl), hasC_mk (st := sPlanOf) (ps := ["counts", "some"]) X T.g a2 l2 e2 k2 (fun _ _ _ _ _ _ us hl => match us, hl with | [_, _], _ => rfl),
    tab_mk T X r1 a1 l1 rfl lc1 hv1, tab_mk T X r2 a2 l2 rfl lc2 hv2, n1, n2, ne⟩
theorem ends_mk {P : Program} {w : World} {K : PySem.W.Frag} {h : Heap} {mg : Str → Option Value} {fa c1 P1 c2 P2 : Addr} (X : K.In h) (G : h.Ns mainGlobals mg) (hfa : mg "answers" = some (.ref fa)) (two : Two K mg h c1 P1 c2 P2) {f : Addr} {oc : Value} {od an : Option Addr} {sl : Array (Option Value)} {kV dc pm cd ct : Value}
    (a : PySem.W.nsIn K mainGlobals "answers" = some (some (.ref f))) (l : K.lookup f = some ⟨oc, od, .func (PySem.W.fnOf "answers" "answers" (defArgs sAnswers) (defBody sAnswers) (defScope sAnswers) .none kV dc pm an cd ct), sl⟩) (c : PySem.W.codeIn K cd "answers" = true) (k : PySem.W.keepIn K (.ref f) = true)
    (ok : ∀ (base : Heap) (f : Addr) (fd : FuncData), Fun K "answers" "answers" sAnswers f fd → (∀ p ∈ [(c1, P1), (c2, P2)], LamX.TabB base mg p.1 p.2) → FnOk P w K mg base CX0 22 f fd ["calls"] (spAnswers [(P1, qCheap), (P2, qPlan)] K)) : EndsT P w K mg h 22 fa ["calls"] (goodA K) := by
  have e := hfa.symm.trans (PySem.W.mg_of X G a)
  cases e
  have each : ∀ {C : Addr × Addr → Prop}, C (c1, P1) → C (c2, P2) → ∀ p ∈ [(c1, P1), (c2, P2)], C p := fun {C} h1 h2 p hp => by
    rcases List.mem_cons.mp hp with rfl | hp
    · exact h1
    · rw [List.mem_singleton.mp hp]
      exact h2
  refine ⟨⟨_, [(c1, P1), (c2, P2)], _, fun s us hu => match us, hu with | [_], _ => .of_eq rfl, each two.t1.2 two.t2.2, each two.n1 two.n2, each two.t1.1 two.t2.1, fun base _ _ tb => ok base _ _ (fun_mk (st := sAnswers) l c k) tb, good_sp⟩⟩


theorem cls_Table {K : PySem.W.Frag} {h : Heap} {mg : Str → Option Value} (X : K.In h) (G : h.Ns mainGlobals mg) {C : Addr} (aC : PySem.W.nsIn K mainGlobals "Table" = some (some (.ref C))) (pg : PySem.W.plainGet K C Str.empty = true) (hd : PySem.W.hasDictIn K C = true) (po : PySem.W.plainOver K C = true)
    (sa : PySem.W.findIn K (.ref C) "__setattr__" = some (some (.builtin "object.__setattr__"))) (mk : PySem.W.makesIn K C = true) (kc : PySem.W.keepIn K (.ref C) = true)
    (n0 : PySem.W.findIn K (.ref C) "columns" = some none) (n1 : PySem.W.findIn K (.ref C) "rows" = some none)
    {f0 : Addr} {oc0 : Value} {od0 an0 : Option Addr} {sl0 : Array (Option Value)} {kV0 dc0 pm0 cd0 ct0 : Value} (a0 : PySem.W.findIn K (.ref C) "__init__" = some (some (.ref f0))) (i0 : PySem.W.isFn K (.ref f0) = true)
    (l0 : K.lookup f0 = some ⟨oc0, od0, .func (PySem.W.fnOf "__init__" "Table.__init__" (defArgs sTableInit) (defBody sTableInit) (defScope sTableInit) .none kV0 dc0 pm0 an0 cd0 ct0), sl0⟩) (c0 : PySem.W.codeIn K cd0 "Table.__init__" = true) (k0 : PySem.W.keepIn K (.ref f0) = true)
    (hb0 : ∀ (kV doc pm : Value) (an : Option Addr) (cdv ct : Value) (us : List Value), us.length = (["self", "columns"] : List Str).length → bindArgs (PySem.W.fnOf "__init__" "Table.__init__" (defArgs sTableInit) (defBody sTableInit) (defScope sTableInit) .none kV doc pm an cdv ct) ⟨us, []⟩ = pure ((["self", "columns"] : List Str).zip us))
    : ∃ C, Klass K mg "Table" C ["columns", "rows"] ∧ HasInit K "Table.__init__" C sTableInit ["self", "columns"] :=
  ⟨C, ⟨⟨pg, hd, po, sa⟩, fun f hf => by simp only [List.mem_cons, List.not_mem_nil, or_false] at hf; rcases hf with rfl | rfl <;> first | exact n0 | exact n1, PySem.W.mg_of X G aC⟩, init_mk (st := sTableInit) (q := "Table.__init__") (ps := ["self", "columns"]) a0 i0 l0 c0 k0 mk kc hb0⟩
theorem cls_Store {K : PySem.W.Frag} {h : Heap} {mg : Str → Option Value} (X : K.In h) (G : h.Ns mainGlobals mg) {C : Addr} (aC : PySem.W.nsIn K mainGlobals "Store" = some (some (.ref C))) (pg : PySem.W.plainGet K C Str.empty = true) (hd : PySem.W.hasDictIn K C = true) (po : PySem.W.plainOver K C = true)
    (sa : PySem.W.findIn K (.ref C) "__setattr__" = some (some (.builtin "object.__setattr__"))) (mk : PySem.W.makesIn K C = true) (kc : PySem.W.keepIn K (.ref C) = true)
    (n0 : PySem.W.findIn K (.ref C) "tables" = some none) (n1 : PySem.W.findIn K (.ref C) "question" = some none)
    {f0 : Addr} {oc0 : Value} {od0 an0 : Option Addr} {sl0 : Array (Option Value)} {kV0 dc0 pm0 cd0 ct0 : Value} (a0 : PySem.W.findIn K (.ref C) "__init__" = some (some (.ref f0))) (i0 : PySem.W.isFn K (.ref f0) = true)
    (l0 : K.lookup f0 = some ⟨oc0, od0, .func (PySem.W.fnOf "__init__" "Store.__init__" (defArgs sStoreInit) (defBody sStoreInit) (defScope sStoreInit) .none kV0 dc0 pm0 an0 cd0 ct0), sl0⟩) (c0 : PySem.W.codeIn K cd0 "Store.__init__" = true) (k0 : PySem.W.keepIn K (.ref f0) = true)
    (hb0 : ∀ (kV doc pm : Value) (an : Option Addr) (cdv ct : Value) (us : List Value), us.length = (["self"] : List Str).length → bindArgs (PySem.W.fnOf "__init__" "Store.__init__" (defArgs sStoreInit) (defBody sStoreInit) (defScope sStoreInit) .none kV doc pm an cdv ct) ⟨us, []⟩ = pure ((["self"] : List Str).zip us))
    : ∃ C, Klass K mg "Store" C ["tables", "question"] ∧ HasInit K "Store.__init__" C sStoreInit ["self"] :=
  ⟨C, ⟨⟨pg, hd, po, sa⟩, fun f hf => by simp only [List.mem_cons, List.not_mem_nil, or_false] at hf; rcases hf with rfl | rfl <;> first | exact n0 | exact n1, PySem.W.mg_of X G aC⟩, init_mk (st := sStoreInit) (q := "Store.__init__") (ps := ["self"]) a0 i0 l0 c0 k0 mk kc hb0⟩
theorem cls_Atom {K : PySem.W.Frag} {h : Heap} {mg : Str → Option Value} (X : K.In h) (G : h.Ns mainGlobals mg) {C : Addr} (aC : PySem.W.nsIn K mainGlobals "Atom" = some (some (.ref C))) (pg : PySem.W.plainGet K C Str.empty = true) (hd : PySem.W.hasDictIn K C = true) (po : PySem.W.plainOver K C = true)
    (sa : PySem.W.findIn K (.ref C) "__setattr__" = some (some (.builtin "object.__setattr__"))) (mk : PySem.W.makesIn K C = true) (kc : PySem.W.keepIn K (.ref C) = true)
    (n0 : PySem.W.findIn K (.ref C) "table" = some none) (n1 : PySem.W.findIn K (.ref C) "terms" = some none)
    {f0 : Addr} {oc0 : Value} {od0 an0 : Option Addr} {sl0 : Array (Option Value)} {kV0 dc0 pm0 cd0 ct0 : Value} (a0 : PySem.W.findIn K (.ref C) "__init__" = some (some (.ref f0))) (i0 : PySem.W.isFn K (.ref f0) = true)
    (l0 : K.lookup f0 = some ⟨oc0, od0, .func (PySem.W.fnOf "__init__" "Atom.__init__" (defArgs sAtomInit) (defBody sAtomInit) (defScope sAtomInit) .none kV0 dc0 pm0 an0 cd0 ct0), sl0⟩) (c0 : PySem.W.codeIn K cd0 "Atom.__init__" = true) (k0 : PySem.W.keepIn K (.ref f0) = true)
    (hb0 : ∀ (kV doc pm : Value) (an : Option Addr) (cdv ct : Value) (us : List Value), us.length = (["self", "table", "terms"] : List Str).length → bindArgs (PySem.W.fnOf "__init__" "Atom.__init__" (defArgs sAtomInit) (defBody sAtomInit) (defScope sAtomInit) .none kV doc pm an cdv ct) ⟨us, []⟩ = pure ((["self", "table", "terms"] : List Str).zip us))
    : ∃ C, Klass K mg "Atom" C ["table", "terms"] ∧ HasInit K "Atom.__init__" C sAtomInit ["self", "table", "terms"] :=
  ⟨C, ⟨⟨pg, hd, po, sa⟩, fun f hf => by simp only [List.mem_cons, List.not_mem_nil, or_false] at hf; rcases hf with rfl | rfl <;> first | exact n0 | exact n1, PySem.W.mg_of X G aC⟩, init_mk (st := sAtomInit) (q := "Atom.__init__") (ps := ["self", "table", "terms"]) a0 i0 l0 c0 k0 mk kc hb0⟩
theorem cls_FittingRow {K : PySem.W.Frag} {h : Heap} {mg : Str → Option Value} (X : K.In h) (G : h.Ns mainGlobals mg) {C : Addr} (aC : PySem.W.nsIn K mainGlobals "FittingRow" = some (some (.ref C))) (pg : PySem.W.plainGet K C Str.empty = true) (hd : PySem.W.hasDictIn K C = true) (po : PySem.W.plainOver K C = true)
    (sa : PySem.W.findIn K (.ref C) "__setattr__" = some (some (.builtin "object.__setattr__"))) (mk : PySem.W.makesIn K C = true) (kc : PySem.W.keepIn K (.ref C) = true)
    (n0 : PySem.W.findIn K (.ref C) "row" = some none) (n1 : PySem.W.findIn K (.ref C) "bound" = some none)
    {f0 : Addr} {oc0 : Value} {od0 an0 : Option Addr} {sl0 : Array (Option Value)} {kV0 dc0 pm0 cd0 ct0 : Value} (a0 : PySem.W.findIn K (.ref C) "__init__" = some (some (.ref f0))) (i0 : PySem.W.isFn K (.ref f0) = true)
    (l0 : K.lookup f0 = some ⟨oc0, od0, .func (PySem.W.fnOf "__init__" "FittingRow.__init__" (defArgs sFitInit) (defBody sFitInit) (defScope sFitInit) .none kV0 dc0 pm0 an0 cd0 ct0), sl0⟩) (c0 : PySem.W.codeIn K cd0 "FittingRow.__init__" = true) (k0 : PySem.W.keepIn K (.ref f0) = true)
    (hb0 : ∀ (kV doc pm : Value) (an : Option Addr) (cdv ct : Value) (us : List Value), us.length = (["self", "row", "bound"] : List Str).length → bindArgs (PySem.W.fnOf "__init__" "FittingRow.__init__" (defArgs sFitInit) (defBody sFitInit) (defScope sFitInit) .none kV doc pm an cdv ct) ⟨us, []⟩ = pure ((["self", "row", "bound"] : List Str).zip us))
    : ∃ C, Klass K mg "FittingRow" C ["row", "bound"] ∧ HasInit K "FittingRow.__init__" C sFitInit ["self", "row", "bound"] :=
  ⟨C, ⟨⟨pg, hd, po, sa⟩, fun f hf => by simp only [List.mem_cons, List.not_mem_nil, or_false] at hf; rcases hf with rfl | rfl <;> first | exact n0 | exact n1, PySem.W.mg_of X G aC⟩, init_mk (st := sFitInit) (q := "FittingRow.__init__") (ps := ["self", "row", "bound"]) a0 i0 l0 c0 k0 mk kc hb0⟩
theorem cls_Hanging {K : PySem.W.Frag} {h : Heap} {mg : Str → Option Value} (X : K.In h) (G : h.Ns mainGlobals mg) {C : Addr} (aC : PySem.W.nsIn K mainGlobals "Hanging" = some (some (.ref C))) (pg : PySem.W.plainGet K C Str.empty = true) (hd : PySem.W.hasDictIn K C = true) (po : PySem.W.plainOver K C = true)
    (sa : PySem.W.findIn K (.ref C) "__setattr__" = some (some (.builtin "object.__setattr__"))) (mk : PySem.W.makesIn K C = true) (kc : PySem.W.keepIn K (.ref C) = true)
    (n0 : PySem.W.findIn K (.ref C) "taken" = some none) (n1 : PySem.W.findIn K (.ref C) "standing" = some none)
    {f0 : Addr} {oc0 : Value} {od0 an0 : Option Addr} {sl0 : Array (Option Value)} {kV0 dc0 pm0 cd0 ct0 : Value} (a0 : PySem.W.findIn K (.ref C) "__init__" = some (some (.ref f0))) (i0 : PySem.W.isFn K (.ref f0) = true)
    (l0 : K.lookup f0 = some ⟨oc0, od0, .func (PySem.W.fnOf "__init__" "Hanging.__init__" (defArgs sHangInit) (defBody sHangInit) (defScope sHangInit) .none kV0 dc0 pm0 an0 cd0 ct0), sl0⟩) (c0 : PySem.W.codeIn K cd0 "Hanging.__init__" = true) (k0 : PySem.W.keepIn K (.ref f0) = true)
    (hb0 : ∀ (kV doc pm : Value) (an : Option Addr) (cdv ct : Value) (us : List Value), us.length = (["self", "taken", "standing"] : List Str).length → bindArgs (PySem.W.fnOf "__init__" "Hanging.__init__" (defArgs sHangInit) (defBody sHangInit) (defScope sHangInit) .none kV doc pm an cdv ct) ⟨us, []⟩ = pure ((["self", "taken", "standing"] : List Str).zip us))
    : ∃ C, Klass K mg "Hanging" C ["taken", "standing"] ∧ HasInit K "Hanging.__init__" C sHangInit ["self", "taken", "standing"] :=
  ⟨C, ⟨⟨pg, hd, po, sa⟩, fun f hf => by simp only [List.mem_cons, List.not_mem_nil, or_false] at hf; rcases hf with rfl | rfl <;> first | exact n0 | exact n1, PySem.W.mg_of X G aC⟩, init_mk (st := sHangInit) (q := "Hanging.__init__") (ps := ["self", "taken", "standing"]) a0 i0 l0 c0 k0 mk kc hb0⟩
theorem cls_Part {K : PySem.W.Frag} {h : Heap} {mg : Str → Option Value} (X : K.In h) (G : h.Ns mainGlobals mg) {C : Addr} (aC : PySem.W.nsIn K mainGlobals "Part" = some (some (.ref C))) (pg : PySem.W.plainGet K C Str.empty = true) (hd : PySem.W.hasDictIn K C = true) (po : PySem.W.plainOver K C = true)
    (sa : PySem.W.findIn K (.ref C) "__setattr__" = some (some (.builtin "object.__setattr__"))) (mk : PySem.W.makesIn K C = true) (kc : PySem.W.keepIn K (.ref C) = true)
    (n0 : PySem.W.findIn K (.ref C) "variables" = some none) (n1 : PySem.W.findIn K (.ref C) "rows" = some none)
    {f0 : Addr} {oc0 : Value} {od0 an0 : Option Addr} {sl0 : Array (Option Value)} {kV0 dc0 pm0 cd0 ct0 : Value} (a0 : PySem.W.findIn K (.ref C) "__init__" = some (some (.ref f0))) (i0 : PySem.W.isFn K (.ref f0) = true)
    (l0 : K.lookup f0 = some ⟨oc0, od0, .func (PySem.W.fnOf "__init__" "Part.__init__" (defArgs sPartInit) (defBody sPartInit) (defScope sPartInit) .none kV0 dc0 pm0 an0 cd0 ct0), sl0⟩) (c0 : PySem.W.codeIn K cd0 "Part.__init__" = true) (k0 : PySem.W.keepIn K (.ref f0) = true)
    (hb0 : ∀ (kV doc pm : Value) (an : Option Addr) (cdv ct : Value) (us : List Value), us.length = (["self", "variables", "rows"] : List Str).length → bindArgs (PySem.W.fnOf "__init__" "Part.__init__" (defArgs sPartInit) (defBody sPartInit) (defScope sPartInit) .none kV doc pm an cdv ct) ⟨us, []⟩ = pure ((["self", "variables", "rows"] : List Str).zip us))
    : ∃ C, Klass K mg "Part" C ["variables", "rows"] ∧ HasInit K "Part.__init__" C sPartInit ["self", "variables", "rows"] :=
  ⟨C, ⟨⟨pg, hd, po, sa⟩, fun f hf => by simp only [List.mem_cons, List.not_mem_nil, or_false] at hf; rcases hf with rfl | rfl <;> first | exact n0 | exact n1, PySem.W.mg_of X G aC⟩, init_mk (st := sPartInit) (q := "Part.__init__") (ps := ["self", "variables", "rows"]) a0 i0 l0 c0 k0 mk kc hb0⟩
theorem cls_Groups {K : PySem.W.Frag} {h : Heap} {mg : Str → Option Value} (X : K.In h) (G : h.Ns mainGlobals mg) {C : Addr} (aC : PySem.W.nsIn K mainGlobals "Groups" = some (some (.ref C))) (pg : PySem.W.plainGet K C Str.empty = true) (hd : PySem.W.hasDictIn K C = true) (po : PySem.W.plainOver K C = true)
    (sa : PySem.W.findIn K (.ref C) "__setattr__" = some (some (.builtin "object.__setattr__"))) (mk : PySem.W.makesIn K C = true) (kc : PySem.W.keepIn K (.ref C) = true)
    (n0 : PySem.W.findIn K (.ref C) "variables" = some none) (n1 : PySem.W.findIn K (.ref C) "sizes" = some none)
    {f0 : Addr} {oc0 : Value} {od0 an0 : Option Addr} {sl0 : Array (Option Value)} {kV0 dc0 pm0 cd0 ct0 : Value} (a0 : PySem.W.findIn K (.ref C) "__init__" = some (some (.ref f0))) (i0 : PySem.W.isFn K (.ref f0) = true)
    (l0 : K.lookup f0 = some ⟨oc0, od0, .func (PySem.W.fnOf "__init__" "Groups.__init__" (defArgs sGroupsInit) (defBody sGroupsInit) (defScope sGroupsInit) .none kV0 dc0 pm0 an0 cd0 ct0), sl0⟩) (c0 : PySem.W.codeIn K cd0 "Groups.__init__" = true) (k0 : PySem.W.keepIn K (.ref f0) = true)
    (hb0 : ∀ (kV doc pm : Value) (an : Option Addr) (cdv ct : Value) (us : List Value), us.length = (["self", "variables", "sizes"] : List Str).length → bindArgs (PySem.W.fnOf "__init__" "Groups.__init__" (defArgs sGroupsInit) (defBody sGroupsInit) (defScope sGroupsInit) .none kV doc pm an cdv ct) ⟨us, []⟩ = pure ((["self", "variables", "sizes"] : List Str).zip us))
    : ∃ C, Klass K mg "Groups" C ["variables", "sizes"] ∧ HasInit K "Groups.__init__" C sGroupsInit ["self", "variables", "sizes"] :=
  ⟨C, ⟨⟨pg, hd, po, sa⟩, fun f hf => by simp only [List.mem_cons, List.not_mem_nil, or_false] at hf; rcases hf with rfl | rfl <;> first | exact n0 | exact n1, PySem.W.mg_of X G aC⟩, init_mk (st := sGroupsInit) (q := "Groups.__init__") (ps := ["self", "variables", "sizes"]) a0 i0 l0 c0 k0 mk kc hb0⟩
theorem cls_WayCounts {K : PySem.W.Frag} {h : Heap} {mg : Str → Option Value} (X : K.In h) (G : h.Ns mainGlobals mg) {C : Addr} (aC : PySem.W.nsIn K mainGlobals "WayCounts" = some (some (.ref C))) (pg : PySem.W.plainGet K C Str.empty = true) (hd : PySem.W.hasDictIn K C = true) (po : PySem.W.plainOver K C = true)
    (sa : PySem.W.findIn K (.ref C) "__setattr__" = some (some (.builtin "object.__setattr__"))) (mk : PySem.W.makesIn K C = true) (kc : PySem.W.keepIn K (.ref C) = true)
    (n0 : PySem.W.findIn K (.ref C) "parts" = some none) (n1 : PySem.W.findIn K (.ref C) "known" = some none)
    {f0 : Addr} {oc0 : Value} {od0 an0 : Option Addr} {sl0 : Array (Option Value)} {kV0 dc0 pm0 cd0 ct0 : Value} (a0 : PySem.W.findIn K (.ref C) "__init__" = some (some (.ref f0))) (i0 : PySem.W.isFn K (.ref f0) = true)
    (l0 : K.lookup f0 = some ⟨oc0, od0, .func (PySem.W.fnOf "__init__" "WayCounts.__init__" (defArgs sWayCountsInit) (defBody sWayCountsInit) (defScope sWayCountsInit) .none kV0 dc0 pm0 an0 cd0 ct0), sl0⟩) (c0 : PySem.W.codeIn K cd0 "WayCounts.__init__" = true) (k0 : PySem.W.keepIn K (.ref f0) = true)
    (hb0 : ∀ (kV doc pm : Value) (an : Option Addr) (cdv ct : Value) (us : List Value), us.length = (["self", "atoms"] : List Str).length → bindArgs (PySem.W.fnOf "__init__" "WayCounts.__init__" (defArgs sWayCountsInit) (defBody sWayCountsInit) (defScope sWayCountsInit) .none kV doc pm an cdv ct) ⟨us, []⟩ = pure ((["self", "atoms"] : List Str).zip us))
    {f1 : Addr} {oc1 : Value} {od1 an1 : Option Addr} {sl1 : Array (Option Value)} {kV1 dc1 pm1 cd1 ct1 : Value} (a1 : PySem.W.findIn K (.ref C) "ways_of" = some (some (.ref f1))) (i1 : PySem.W.isFn K (.ref f1) = true)
    (l1 : K.lookup f1 = some ⟨oc1, od1, .func (PySem.W.fnOf "ways_of" "WayCounts.ways_of" (defArgs sWaysOf) (defBody sWaysOf) (defScope sWaysOf) .none kV1 dc1 pm1 an1 cd1 ct1), sl1⟩) (c1 : PySem.W.codeIn K cd1 "WayCounts.ways_of" = true) (k1 : PySem.W.keepIn K (.ref f1) = true)
    (hb1 : ∀ (kV doc pm : Value) (an : Option Addr) (cdv ct : Value) (us : List Value), us.length = (["self", "numbers"] : List Str).length → bindArgs (PySem.W.fnOf "ways_of" "WayCounts.ways_of" (defArgs sWaysOf) (defBody sWaysOf) (defScope sWaysOf) .none kV doc pm an cdv ct) ⟨us, []⟩ = pure ((["self", "numbers"] : List Str).zip us))
    : ∃ C, Klass K mg "WayCounts" C ["parts", "known"] ∧ HasInit K "WayCounts.__init__" C sWayCountsInit ["self", "atoms"] ∧ HasM K C "ways_of" "WayCounts.ways_of" sWaysOf ["self", "numbers"] :=
  ⟨C, ⟨⟨pg, hd, po, sa⟩, fun f hf => by simp only [List.mem_cons, List.not_mem_nil, or_false] at hf; rcases hf with rfl | rfl <;> first | exact n0 | exact n1, PySem.W.mg_of X G aC⟩, init_mk (st := sWayCountsInit) (q := "WayCounts.__init__") (ps := ["self", "atoms"]) a0 i0 l0 c0 k0 mk kc hb0, meth_mk (st := sWaysOf) (q := "WayCounts.ways_of") (m := "ways_of") (ps := ["self", "numbers"]) a1 i1 l1 c1 k1 hb1⟩
theorem cls_Plan {K : PySem.W.Frag} {h : Heap} {mg : Str → Option Value} (X : K.In h) (G : h.Ns mainGlobals mg) {C : Addr} (aC : PySem.W.nsIn K mainGlobals "Plan" = some (some (.ref C))) (pg : PySem.W.plainGet K C Str.empty = true) (hd : PySem.W.hasDictIn K C = true) (po : PySem.W.plainOver K C = true)
    (sa : PySem.W.findIn K (.ref C) "__setattr__" = some (some (.builtin "object.__setattr__"))) (mk : PySem.W.makesIn K C = true) (kc : PySem.W.keepIn K (.ref C) = true)
    (n0 : PySem.W.findIn K (.ref C) "cost" = some none) (n1 : PySem.W.findIn K (.ref C) "steps" = some none)
    {f0 : Addr} {oc0 : Value} {od0 an0 : Option Addr} {sl0 : Array (Option Value)} {kV0 dc0 pm0 cd0 ct0 : Value} (a0 : PySem.W.findIn K (.ref C) "__init__" = some (some (.ref f0))) (i0 : PySem.W.isFn K (.ref f0) = true)
    (l0 : K.lookup f0 = some ⟨oc0, od0, .func (PySem.W.fnOf "__init__" "Plan.__init__" (defArgs sPlanInit) (defBody sPlanInit) (defScope sPlanInit) .none kV0 dc0 pm0 an0 cd0 ct0), sl0⟩) (c0 : PySem.W.codeIn K cd0 "Plan.__init__" = true) (k0 : PySem.W.keepIn K (.ref f0) = true)
    (hb0 : ∀ (kV doc pm : Value) (an : Option Addr) (cdv ct : Value) (us : List Value), us.length = (["self", "cost", "steps"] : List Str).length → bindArgs (PySem.W.fnOf "__init__" "Plan.__init__" (defArgs sPlanInit) (defBody sPlanInit) (defScope sPlanInit) .none kV doc pm an cdv ct) ⟨us, []⟩ = pure ((["self", "cost", "steps"] : List Str).zip us))
    : ∃ C, Klass K mg "Plan" C ["cost", "steps"] ∧ HasInit K "Plan.__init__" C sPlanInit ["self", "cost", "steps"] :=
  ⟨C, ⟨⟨pg, hd, po, sa⟩, fun f hf => by simp only [List.mem_cons, List.not_mem_nil, or_false] at hf; rcases hf with rfl | rfl <;> first | exact n0 | exact n1, PySem.W.mg_of X G aC⟩, init_mk (st := sPlanInit) (q := "Plan.__init__") (ps := ["self", "cost", "steps"]) a0 i0 l0 c0 k0 mk kc hb0⟩
theorem cls_Reader {K : PySem.W.Frag} {h : Heap} {mg : Str → Option Value} (X : K.In h) (G : h.Ns mainGlobals mg) {C : Addr} (aC : PySem.W.nsIn K mainGlobals "Reader" = some (some (.ref C))) (pg : PySem.W.plainGet K C Str.empty = true) (hd : PySem.W.hasDictIn K C = true) (po : PySem.W.plainOver K C = true)
    (sa : PySem.W.findIn K (.ref C) "__setattr__" = some (some (.builtin "object.__setattr__"))) (mk : PySem.W.makesIn K C = true) (kc : PySem.W.keepIn K (.ref C) = true)
    (n0 : PySem.W.findIn K (.ref C) "numbers" = some none) (n1 : PySem.W.findIn K (.ref C) "place" = some none)
    {f0 : Addr} {oc0 : Value} {od0 an0 : Option Addr} {sl0 : Array (Option Value)} {kV0 dc0 pm0 cd0 ct0 : Value} (a0 : PySem.W.findIn K (.ref C) "__init__" = some (some (.ref f0))) (i0 : PySem.W.isFn K (.ref f0) = true)
    (l0 : K.lookup f0 = some ⟨oc0, od0, .func (PySem.W.fnOf "__init__" "Reader.__init__" (defArgs sReaderInit) (defBody sReaderInit) (defScope sReaderInit) .none kV0 dc0 pm0 an0 cd0 ct0), sl0⟩) (c0 : PySem.W.codeIn K cd0 "Reader.__init__" = true) (k0 : PySem.W.keepIn K (.ref f0) = true)
    (hb0 : ∀ (kV doc pm : Value) (an : Option Addr) (cdv ct : Value) (us : List Value), us.length = (["self", "numbers"] : List Str).length → bindArgs (PySem.W.fnOf "__init__" "Reader.__init__" (defArgs sReaderInit) (defBody sReaderInit) (defScope sReaderInit) .none kV doc pm an cdv ct) ⟨us, []⟩ = pure ((["self", "numbers"] : List Str).zip us))
    {f1 : Addr} {oc1 : Value} {od1 an1 : Option Addr} {sl1 : Array (Option Value)} {kV1 dc1 pm1 cd1 ct1 : Value} (a1 : PySem.W.findIn K (.ref C) "has_more" = some (some (.ref f1))) (i1 : PySem.W.isFn K (.ref f1) = true)
    (l1 : K.lookup f1 = some ⟨oc1, od1, .func (PySem.W.fnOf "has_more" "Reader.has_more" (defArgs sHasMore) (defBody sHasMore) (defScope sHasMore) .none kV1 dc1 pm1 an1 cd1 ct1), sl1⟩) (c1 : PySem.W.codeIn K cd1 "Reader.has_more" = true) (k1 : PySem.W.keepIn K (.ref f1) = true)
    (hb1 : ∀ (kV doc pm : Value) (an : Option Addr) (cdv ct : Value) (us : List Value), us.length = (["self"] : List Str).length → bindArgs (PySem.W.fnOf "has_more" "Reader.has_more" (defArgs sHasMore) (defBody sHasMore) (defScope sHasMore) .none kV doc pm an cdv ct) ⟨us, []⟩ = pure ((["self"] : List Str).zip us))
    {f2 : Addr} {oc2 : Value} {od2 an2 : Option Addr} {sl2 : Array (Option Value)} {kV2 dc2 pm2 cd2 ct2 : Value} (a2 : PySem.W.findIn K (.ref C) "take_number" = some (some (.ref f2))) (i2 : PySem.W.isFn K (.ref f2) = true)
    (l2 : K.lookup f2 = some ⟨oc2, od2, .func (PySem.W.fnOf "take_number" "Reader.take_number" (defArgs sTakeNumber) (defBody sTakeNumber) (defScope sTakeNumber) .none kV2 dc2 pm2 an2 cd2 ct2), sl2⟩) (c2 : PySem.W.codeIn K cd2 "Reader.take_number" = true) (k2 : PySem.W.keepIn K (.ref f2) = true)
    (hb2 : ∀ (kV doc pm : Value) (an : Option Addr) (cdv ct : Value) (us : List Value), us.length = (["self"] : List Str).length → bindArgs (PySem.W.fnOf "take_number" "Reader.take_number" (defArgs sTakeNumber) (defBody sTakeNumber) (defScope sTakeNumber) .none kV doc pm an cdv ct) ⟨us, []⟩ = pure ((["self"] : List Str).zip us))
    {f3 : Addr} {oc3 : Value} {od3 an3 : Option Addr} {sl3 : Array (Option Value)} {kV3 dc3 pm3 cd3 ct3 : Value} (a3 : PySem.W.findIn K (.ref C) "take_list" = some (some (.ref f3))) (i3 : PySem.W.isFn K (.ref f3) = true)
    (l3 : K.lookup f3 = some ⟨oc3, od3, .func (PySem.W.fnOf "take_list" "Reader.take_list" (defArgs sTakeList) (defBody sTakeList) (defScope sTakeList) .none kV3 dc3 pm3 an3 cd3 ct3), sl3⟩) (c3 : PySem.W.codeIn K cd3 "Reader.take_list" = true) (k3 : PySem.W.keepIn K (.ref f3) = true)
    (hb3 : ∀ (kV doc pm : Value) (an : Option Addr) (cdv ct : Value) (us : List Value), us.length = (["self"] : List Str).length → bindArgs (PySem.W.fnOf "take_list" "Reader.take_list" (defArgs sTakeList) (defBody sTakeList) (defScope sTakeList) .none kV doc pm an cdv ct) ⟨us, []⟩ = pure ((["self"] : List Str).zip us))
    : ∃ C, Klass K mg "Reader" C ["numbers", "place"] ∧ HasInit K "Reader.__init__" C sReaderInit ["self", "numbers"] ∧ HasM K C "has_more" "Reader.has_more" sHasMore ["self"] ∧ HasM K C "take_number" "Reader.take_number" sTakeNumber ["self"] ∧ HasM K C "take_list" "Reader.take_list" sTakeList ["self"] :=
  ⟨C, ⟨⟨pg, hd, po, sa⟩, fun f hf => by simp only [List.mem_cons, List.not_mem_nil, or_false] at hf; rcases hf with rfl | rfl <;> first | exact n0 | exact n1, PySem.W.mg_of X G aC⟩, init_mk (st := sReaderInit) (q := "Reader.__init__") (ps := ["self", "numbers"]) a0 i0 l0 c0 k0 mk kc hb0, meth_mk (st := sHasMore) (q := "Reader.has_more") (m := "has_more") (ps := ["self"]) a1 i1 l1 c1 k1 hb1, meth_mk (st := sTakeNumber) (q := "Reader.take_number") (m := "take_number") (ps := ["self"]) a2 i2 l2 c2 k2 hb2, meth_mk (st := sTakeList) (q := "Reader.take_list") (m := "take_list") (ps := ["self"]) a3 i3 l3 c3 k3 hb3⟩
end Jp
open PySem PySem.W PyProof.Rows
set_option maxRecDepth 100000 in
set_option maxHeartbeats 0 in
theorem PySem.Challenge.cw_joinplans_s01_answers_holds : PySem.Challenge.rw_joinplans_s01_answers.Holds := by
  w_on; k_headS; (case hw => exact ⟨[.list [.int 0]], by decide +kernel, by decide +kernel⟩)
  k_fillS
  refine Jp.walk_specT (r := PySem.Challenge.rw_joinplans_s01_answers) (k := 22) (ps := ["calls"]) (good := Jp.goodA) (by decide +kernel) rfl ⟨rfl, by decide, by decide⟩ (fun w h Y => PySem.W.kIn_of Y) ?F ?S
  case F =>
    intro w mean mg mb fa h KX T hmg
    have G := T.g
    obtain ⟨CTable, TTable, ITable⟩ := by
      refine' Jp.cls_Table KX G ?aC ?pg ?hd ?po ?sa ?mk ?kc ?n0 ?n1 ?a0 ?i0 ?l0 ?c0 ?k0 ?hb0
      (case aC => k_is); (case pg => k_is); (case hd => k_is); (case po => k_is); (case sa => k_is); (case mk => k_is); (case kc => k_is); (case n0 => k_is); (case n1 => k_is); (case a0 => k_is); (case i0 => k_is); (case l0 => k_is); (case c0 => k_is); (case k0 => k_is)
      (case hb0 => exact fun _ _ _ _ _ _ us hl => match us, hl with | [_, _], _ => rfl)
    obtain ⟨CStore, TStore, IStore⟩ := by
      refine' Jp.cls_Store KX G ?aC ?pg ?hd ?po ?sa ?mk ?kc ?n0 ?n1 ?a0 ?i0 ?l0 ?c0 ?k0 ?hb0
      (case aC => k_is); (case pg => k_is); (case hd => k_is); (case po => k_is); (case sa => k_is); (case mk => k_is); (case kc => k_is); (case n0 => k_is); (case n1 => k_is); (case a0 => k_is); (case i0 => k_is); (case l0 => k_is); (case c0 => k_is); (case k0 => k_is)
      (case hb0 => exact fun _ _ _ _ _ _ us hl => match us, hl with | [_], _ => rfl)
    obtain ⟨CAtom, TAtom, IAtom⟩ := by
      refine' Jp.cls_Atom KX G ?aC ?pg ?hd ?po ?sa ?mk ?kc ?n0 ?n1 ?a0 ?i0 ?l0 ?c0 ?k0 ?hb0
      (case aC => k_is); (case pg => k_is); (case hd => k_is); (case po => k_is); (case sa => k_is); (case mk => k_is); (case kc => k_is); (case n0 => k_is); (case n1 => k_is); (case a0 => k_is); (case i0 => k_is); (case l0 => k_is); (case c0 => k_is); (case k0 => k_is)
      (case hb0 => exact fun _ _ _ _ _ _ us hl => match us, hl with | [_, _, _], _ => rfl)
    obtain ⟨CFittingRow, TFittingRow, IFittingRow⟩ := by
      refine' Jp.cls_FittingRow KX G ?aC ?pg ?hd ?po ?sa ?mk ?kc ?n0 ?n1 ?a0 ?i0 ?l0 ?c0 ?k0 ?hb0
      (case aC => k_is); (case pg => k_is); (case hd => k_is); (case po => k_is); (case sa => k_is); (case mk => k_is); (case kc => k_is); (case n0 => k_is); (case n1 => k_is); (case a0 => k_is); (case i0 => k_is); (case l0 => k_is); (case c0 => k_is); (case k0 => k_is)
      (case hb0 => exact fun _ _ _ _ _ _ us hl => match us, hl with | [_, _, _], _ => rfl)
    obtain ⟨CHanging, THanging, IHanging⟩ := by
      refine' Jp.cls_Hanging KX G ?aC ?pg ?hd ?po ?sa ?mk ?kc ?n0 ?n1 ?a0 ?i0 ?l0 ?c0 ?k0 ?hb0
      (case aC => k_is); (case pg => k_is); (case hd => k_is); (case po => k_is); (case sa => k_is); (case mk => k_is); (case kc => k_is); (case n0 => k_is); (case n1 => k_is); (case a0 => k_is); (case i0 => k_is); (case l0 => k_is); (case c0 => k_is); (case k0 => k_is)
      (case hb0 => exact fun _ _ _ _ _ _ us hl => match us, hl with | [_, _, _], _ => rfl)
    obtain ⟨CPart, TPart, IPart⟩ := by
      refine' Jp.cls_Part KX G ?aC ?pg ?hd ?po ?sa ?mk ?kc ?n0 ?n1 ?a0 ?i0 ?l0 ?c0 ?k0 ?hb0
      (case aC => k_is); (case pg => k_is); (case hd => k_is); (case po => k_is); (case sa => k_is); (case mk => k_is); (case kc => k_is); (case n0 => k_is); (case n1 => k_is); (case a0 => k_is); (case i0 => k_is); (case l0 => k_is); (case c0 => k_is); (case k0 => k_is)
      (case hb0 => exact fun _ _ _ _ _ _ us hl => match us, hl with | [_, _, _], _ => rfl)
    obtain ⟨CGroups, TGroups, IGroups⟩ := by
      refine' Jp.cls_Groups KX G ?aC ?pg ?hd ?po ?sa ?mk ?kc ?n0 ?n1 ?a0 ?i0 ?l0 ?c0 ?k0 ?hb0
      (case aC => k_is); (case pg => k_is); (case hd => k_is); (case po => k_is); (case sa => k_is); (case mk => k_is); (case kc => k_is); (case n0 => k_is); (case n1 => k_is); (case a0 => k_is); (case i0 => k_is); (case l0 => k_is); (case c0 => k_is); (case k0 => k_is)
      (case hb0 => exact fun _ _ _ _ _ _ us hl => match us, hl with | [_, _, _], _ => rfl)
    obtain ⟨CWayCounts, TWayCounts, IWayCounts, MWaysOf⟩ := by
      refine' Jp.cls_WayCounts KX G ?aC ?pg ?hd ?po ?sa ?mk ?kc ?n0 ?n1 ?a0 ?i0 ?l0 ?c0 ?k0 ?hb0 ?a1 ?i1 ?l1 ?c1 ?k1 ?hb1
      (case aC => k_is); (case pg => k_is); (case hd => k_is); (case po => k_is); (case sa => k_is); (case mk => k_is); (case kc => k_is); (case n0 => k_is); (case n1 => k_is); (case a0 => k_is); (case i0 => k_is); (case l0 => k_is); (case c0 => k_is); (case k0 => k_is); (case a1 => k_is); (case i1 => k_is); (case l1 => k_is); (case c1 => k_is); (case k1 => k_is)
      (case hb0 => exact fun _ _ _ _ _ _ us hl => match us, hl with | [_, _], _ => rfl)
      (case hb1 => exact fun _ _ _ _ _ _ us hl => match us, hl with | [_, _], _ => rfl)
    obtain ⟨CPlan, TPlan, IPlan⟩ := by
      refine' Jp.cls_Plan KX G ?aC ?pg ?hd ?po ?sa ?mk ?kc ?n0 ?n1 ?a0 ?i0 ?l0 ?c0 ?k0 ?hb0
      (case aC => k_is); (case pg => k_is); (case hd => k_is); (case po => k_is); (case sa => k_is); (case mk => k_is); (case kc => k_is); (case n0 => k_is); (case n1 => k_is); (case a0 => k_is); (case i0 => k_is); (case l0 => k_is); (case c0 => k_is); (case k0 => k_is)
      (case hb0 => exact fun _ _ _ _ _ _ us hl => match us, hl with | [_, _, _], _ => rfl)
    obtain ⟨CReader, TReader, IReader, MHasMore, MTakeNumber, MTakeList⟩ := by
      refine' Jp.cls_Reader KX G ?aC ?pg ?hd ?po ?sa ?mk ?kc ?n0 ?n1 ?a0 ?i0 ?l0 ?c0 ?k0 ?hb0 ?a1 ?i1 ?l1 ?c1 ?k1 ?hb1 ?a2 ?i2 ?l2 ?c2 ?k2 ?hb2 ?a3 ?i3 ?l3 ?c3 ?k3 ?hb3
      (case aC => k_is); (case pg => k_is); (case hd => k_is); (case po => k_is); (case sa => k_is); (case mk => k_is); (case kc => k_is); (case n0 => k_is); (case n1 => k_is); (case a0 => k_is); (case i0 => k_is); (case l0 => k_is); (case c0 => k_is); (case k0 => k_is); (case a1 => k_is); (case i1 => k_is); (case l1 => k_is); (case c1 => k_is); (case k1 => k_is); (case a2 => k_is); (case i2 => k_is); (case l2 => k_is); (case c2 => k_is); (case k2 => k_is); (case a3 => k_is); (case i3 => k_is); (case l3 => k_is); (case c3 => k_is); (case k3 => k_is)
      (case hb0 => exact fun _ _ _ _ _ _ us hl => match us, hl with | [_, _], _ => rfl)
      (case hb1 => exact fun _ _ _ _ _ _ us hl => match us, hl with | [_], _ => rfl)
      (case hb2 => exact fun _ _ _ _ _ _ us hl => match us, hl with | [_], _ => rfl)
      (case hb3 => exact fun _ _ _ _ _ _ us hl => match us, hl with | [_], _ => rfl)
    have D_is_value : Jp.HasK KX mg "is_value" Jp.sIsValue ["number"] := by
      refine' Jp.has_mk KX G ?a ?l ?c ?k ?b
      (case a => k_is); (case l => k_is); (case c => k_is); (case k => k_is)
      (case b => exact fun _ _ _ _ _ _ us hl => match us, hl with | [_], _ => rfl)
    have D_is_row_of : Jp.HasK KX mg "is_row_of" Jp.sIsRowOf ["table", "numbers"] := by
      refine' Jp.has_mk KX G ?a ?l ?c ?k ?b
      (case a => k_is); (case l => k_is); (case c => k_is); (case k => k_is)
      (case b => exact fun _ _ _ _ _ _ us hl => match us, hl with | [_, _], _ => rfl)
    have D_is_term : Jp.HasK KX mg "is_term" Jp.sIsTerm ["kind", "number"] := by
      refine' Jp.has_mk KX G ?a ?l ?c ?k ?b
      (case a => k_is); (case l => k_is); (case c => k_is); (case k => k_is)
      (case b => exact fun _ _ _ _ _ _ us hl => match us, hl with | [_, _], _ => rfl)
    have D_read_atom : Jp.HasK KX mg "read_atom" Jp.sReadAtom ["tables", "numbers", "place"] := by
      refine' Jp.has_mk KX G ?a ?l ?c ?k ?b
      (case a => k_is); (case l => k_is); (case c => k_is); (case k => k_is)
      (case b => exact fun _ _ _ _ _ _ us hl => match us, hl with | [_, _, _], _ => rfl)
    have D_read_atoms : Jp.HasK KX mg "read_atoms" Jp.sReadAtoms ["tables", "numbers"] := by
      refine' Jp.has_mk KX G ?a ?l ?c ?k ?b
      (case a => k_is); (case l => k_is); (case c => k_is); (case k => k_is)
      (case b => exact fun _ _ _ _ _ _ us hl => match us, hl with | [_, _], _ => rfl)
    have D_variables_of : Jp.HasK KX mg "variables_of" Jp.sVariablesOf ["atom"] := by
      refine' Jp.has_mk KX G ?a ?l ?c ?k ?b
      (case a => k_is); (case l => k_is); (case c => k_is); (case k => k_is)
      (case b => exact fun _ _ _ _ _ _ us hl => match us, hl with | [_], _ => rfl)
    have D_bind : Jp.HasK KX mg "bind" Jp.sBind ["atom", "row"] := by
      refine' Jp.has_mk KX G ?a ?l ?c ?k ?b
      (case a => k_is); (case l => k_is); (case c => k_is); (case k => k_is)
      (case b => exact fun _ _ _ _ _ _ us hl => match us, hl with | [_, _], _ => rfl)
    have D_fitting_rows : Jp.HasK KX mg "fitting_rows" Jp.sFittingRows ["atom"] := by
      refine' Jp.has_mk KX G ?a ?l ?c ?k ?b
      (case a => k_is); (case l => k_is); (case c => k_is); (case k => k_is)
      (case b => exact fun _ _ _ _ _ _ us hl => match us, hl with | [_], _ => rfl)
    have D_agree : Jp.HasK KX mg "agree" Jp.sAgree ["bound", "other"] := by
      refine' Jp.has_mk KX G ?a ?l ?c ?k ?b
      (case a => k_is); (case l => k_is); (case c => k_is); (case k => k_is)
      (case b => exact fun _ _ _ _ _ _ us hl => match us, hl with | [_, _], _ => rfl)
    have D_is_shared : Jp.HasK KX mg "is_shared" Jp.sIsShared ["variable", "atom", "variables", "standing"] := by
      refine' Jp.has_mk KX G ?a ?l ?c ?k ?b
      (case a => k_is); (case l => k_is); (case c => k_is); (case k => k_is)
      (case b => exact fun _ _ _ _ _ _ us hl => match us, hl with | [_, _, _, _], _ => rfl)
    have D_find_holder : Jp.HasK KX mg "find_holder" Jp.sFindHolder ["atom", "variables", "standing"] := by
      refine' Jp.has_mk KX G ?a ?l ?c ?k ?b
      (case a => k_is); (case l => k_is); (case c => k_is); (case k => k_is)
      (case b => exact fun _ _ _ _ _ _ us hl => match us, hl with | [_, _, _], _ => rfl)
    have D_find_pair : Jp.HasK KX mg "find_pair" Jp.sFindPair ["variables", "standing"] := by
      refine' Jp.has_mk KX G ?a ?l ?c ?k ?b
      (case a => k_is); (case l => k_is); (case c => k_is); (case k => k_is)
      (case b => exact fun _ _ _ _ _ _ us hl => match us, hl with | [_, _], _ => rfl)
    have D_take_off : Jp.HasK KX mg "take_off" Jp.sTakeOff ["atoms"] := by
      refine' Jp.has_mk KX G ?a ?l ?c ?k ?b
      (case a => k_is); (case l => k_is); (case c => k_is); (case k => k_is)
      (case b => exact fun _ _ _ _ _ _ us hl => match us, hl with | [_], _ => rfl)
    have D_has_partner : Jp.HasK KX mg "has_partner" Jp.sHasPartner ["fitting", "others"] := by
      refine' Jp.has_mk KX G ?a ?l ?c ?k ?b
      (case a => k_is); (case l => k_is); (case c => k_is); (case k => k_is)
      (case b => exact fun _ _ _ _ _ _ us hl => match us, hl with | [_, _], _ => rfl)
    have D_stays : Jp.HasK KX mg "stays" Jp.sStays ["fitting", "atom", "kept"] := by
      refine' Jp.has_mk KX G ?a ?l ?c ?k ?b
      (case a => k_is); (case l => k_is); (case c => k_is); (case k => k_is)
      (case b => exact fun _ _ _ _ _ _ us hl => match us, hl with | [_, _, _], _ => rfl)
    have D_staying_rows : Jp.HasK KX mg "staying_rows" Jp.sStayingRows ["atom", "kept"] := by
      refine' Jp.has_mk KX G ?a ?l ?c ?k ?b
      (case a => k_is); (case l => k_is); (case c => k_is); (case k => k_is)
      (case b => exact fun _ _ _ _ _ _ us hl => match us, hl with | [_, _], _ => rfl)
    have D_throw_out : Jp.HasK KX mg "throw_out" Jp.sThrowOut ["kept"] := by
      refine' Jp.has_mk KX G ?a ?l ?c ?k ?b
      (case a => k_is); (case l => k_is); (case c => k_is); (case k => k_is)
      (case b => exact fun _ _ _ _ _ _ us hl => match us, hl with | [_], _ => rfl)
    have D_how_many_rows : Jp.HasK KX mg "how_many_rows" Jp.sHowMany ["kept"] := by
      refine' Jp.has_mk KX G ?a ?l ?c ?k ?b
      (case a => k_is); (case l => k_is); (case c => k_is); (case k => k_is)
      (case b => exact fun _ _ _ _ _ _ us hl => match us, hl with | [_], _ => rfl)
    have D_rows_left : Jp.HasK KX mg "rows_left" Jp.sRowsLeft ["atoms"] := by
      refine' Jp.has_mk KX G ?a ?l ?c ?k ?b
      (case a => k_is); (case l => k_is); (case c => k_is); (case k => k_is)
      (case b => exact fun _ _ _ _ _ _ us hl => match us, hl with | [_], _ => rfl)
    have D_pick : Jp.HasK KX mg "pick" Jp.sPick ["source", "places"] := by
      refine' Jp.has_mk KX G ?a ?l ?c ?k ?b
      (case a => k_is); (case l => k_is); (case c => k_is); (case k => k_is)
      (case b => exact fun _ _ _ _ _ _ us hl => match us, hl with | [_, _], _ => rfl)
    have D_part_of : Jp.HasK KX mg "part_of" Jp.sPartOf ["atom"] := by
      refine' Jp.has_mk KX G ?a ?l ?c ?k ?b
      (case a => k_is); (case l => k_is); (case c => k_is); (case k => k_is)
      (case b => exact fun _ _ _ _ _ _ us hl => match us, hl with | [_], _ => rfl)
    have D_parts_of : Jp.HasK KX mg "parts_of" Jp.sPartsOf ["atoms"] := by
      refine' Jp.has_mk KX G ?a ?l ?c ?k ?b
      (case a => k_is); (case l => k_is); (case c => k_is); (case k => k_is)
      (case b => exact fun _ _ _ _ _ _ us hl => match us, hl with | [_], _ => rfl)
    have D_places_of : Jp.HasK KX mg "places_of" Jp.sPlacesOf ["variables", "among"] := by
      refine' Jp.has_mk KX G ?a ?l ?c ?k ?b
      (case a => k_is); (case l => k_is); (case c => k_is); (case k => k_is)
      (case b => exact fun _ _ _ _ _ _ us hl => match us, hl with | [_, _], _ => rfl)
    have D_rows_by : Jp.HasK KX mg "rows_by" Jp.sRowsBy ["part", "variables"] := by
      refine' Jp.has_mk KX G ?a ?l ?c ?k ?b
      (case a => k_is); (case l => k_is); (case c => k_is); (case k => k_is)
      (case b => exact fun _ _ _ _ _ _ us hl => match us, hl with | [_, _], _ => rfl)
    have D_joined_with : Jp.HasK KX mg "joined_with" Jp.sJoinedWith ["groups", "part", "wanted"] := by
      refine' Jp.has_mk KX G ?a ?l ?c ?k ?b
      (case a => k_is); (case l => k_is); (case c => k_is); (case k => k_is)
      (case b => exact fun _ _ _ _ _ _ us hl => match us, hl with | [_, _, _], _ => rfl)
    have D_still_wanted : Jp.HasK KX mg "still_wanted" Jp.sStillWanted ["asked", "behind"] := by
      refine' Jp.has_mk KX G ?a ?l ?c ?k ?b
      (case a => k_is); (case l => k_is); (case c => k_is); (case k => k_is)
      (case b => exact fun _ _ _ _ _ _ us hl => match us, hl with | [_, _], _ => rfl)
    have D_group_ways : Jp.HasK KX mg "group_ways" Jp.sGroupWays ["parts", "asked"] := by
      refine' Jp.has_mk KX G ?a ?l ?c ?k ?b
      (case a => k_is); (case l => k_is); (case c => k_is); (case k => k_is)
      (case b => exact fun _ _ _ _ _ _ us hl => match us, hl with | [_, _], _ => rfl)
    have D_count_ways : Jp.HasK KX mg "count_ways" Jp.sCountWays ["parts"] := by
      refine' Jp.has_mk KX G ?a ?l ?c ?k ?b
      (case a => k_is); (case l => k_is); (case c => k_is); (case k => k_is)
      (case b => exact fun _ _ _ _ _ _ us hl => match us, hl with | [_], _ => rfl)
    have D_is_order : Jp.HasK KX mg "is_order" Jp.sIsOrder ["numbers", "atoms"] := by
      refine' Jp.has_mk KX G ?a ?l ?c ?k ?b
      (case a => k_is); (case l => k_is); (case c => k_is); (case k => k_is)
      (case b => exact fun _ _ _ _ _ _ us hl => match us, hl with | [_, _], _ => rfl)
    have D_order_cost : Jp.HasK KX mg "order_cost" Jp.sOrderCost ["counts", "order"] := by
      refine' Jp.has_mk KX G ?a ?l ?c ?k ?b
      (case a => k_is); (case l => k_is); (case c => k_is); (case k => k_is)
      (case b => exact fun _ _ _ _ _ _ us hl => match us, hl with | [_, _], _ => rfl)
    have D_lengthened : Jp.HasK KX mg "lengthened" Jp.sLengthened ["orders", "how_many"] := by
      refine' Jp.has_mk KX G ?a ?l ?c ?k ?b
      (case a => k_is); (case l => k_is); (case c => k_is); (case k => k_is)
      (case b => exact fun _ _ _ _ _ _ us hl => match us, hl with | [_, _], _ => rfl)
    have D_all_orders : Jp.HasK KX mg "all_orders" Jp.sAllOrders ["how_many"] := by
      refine' Jp.has_mk KX G ?a ?l ?c ?k ?b
      (case a => k_is); (case l => k_is); (case c => k_is); (case k => k_is)
      (case b => exact fun _ _ _ _ _ _ us hl => match us, hl with | [_], _ => rfl)
    have D_widened : Jp.HasK KX mg "widened" Jp.sWidened ["sides", "some"] := by
      refine' Jp.has_mk KX G ?a ?l ?c ?k ?b
      (case a => k_is); (case l => k_is); (case c => k_is); (case k => k_is)
      (case b => exact fun _ _ _ _ _ _ us hl => match us, hl with | [_, _], _ => rfl)
    have D_first_sides : Jp.HasK KX mg "first_sides" Jp.sFirstSides ["some"] := by
      refine' Jp.has_mk KX G ?a ?l ?c ?k ?b
      (case a => k_is); (case l => k_is); (case c => k_is); (case k => k_is)
      (case b => exact fun _ _ _ _ _ _ us hl => match us, hl with | [_], _ => rfl)
    have D_joined_plan : Jp.HasK KX mg "joined_plan" Jp.sJoinedPlan ["counts", "some", "side"] := by
      refine' Jp.has_mk KX G ?a ?l ?c ?k ?b
      (case a => k_is); (case l => k_is); (case c => k_is); (case k => k_is)
      (case b => exact fun _ _ _ _ _ _ us hl => match us, hl with | [_, _, _], _ => rfl)
    have D_cheapest_plan : Jp.HasK KX mg "cheapest_plan" Jp.sCheapestPlan ["counts"] := by
      refine' Jp.has_mk KX G ?a ?l ?c ?k ?b
      (case a => k_is); (case l => k_is); (case c => k_is); (case k => k_is)
      (case b => exact fun _ _ _ _ _ _ us hl => match us, hl with | [_], _ => rfl)
    have D_begin : Jp.HasK KX mg "begin" Jp.sBegin ["store"] := by
      refine' Jp.has_mk KX G ?a ?l ?c ?k ?b
      (case a => k_is); (case l => k_is); (case c => k_is); (case k => k_is)
      (case b => exact fun _ _ _ _ _ _ us hl => match us, hl with | [_], _ => rfl)
    have D_add_table : Jp.HasK KX mg "add_table" Jp.sAddTable ["store", "columns"] := by
      refine' Jp.has_mk KX G ?a ?l ?c ?k ?b
      (case a => k_is); (case l => k_is); (case c => k_is); (case k => k_is)
      (case b => exact fun _ _ _ _ _ _ us hl => match us, hl with | [_, _], _ => rfl)
    have D_add_row : Jp.HasK KX mg "add_row" Jp.sAddRow ["store", "number", "values"] := by
      refine' Jp.has_mk KX G ?a ?l ?c ?k ?b
      (case a => k_is); (case l => k_is); (case c => k_is); (case k => k_is)
      (case b => exact fun _ _ _ _ _ _ us hl => match us, hl with | [_, _, _], _ => rfl)
    have D_ask : Jp.HasK KX mg "ask" Jp.sAsk ["store", "numbers"] := by
      refine' Jp.has_mk KX G ?a ?l ?c ?k ?b
      (case a => k_is); (case l => k_is); (case c => k_is); (case k => k_is)
      (case b => exact fun _ _ _ _ _ _ us hl => match us, hl with | [_, _], _ => rfl)
    have D_tell_tree : Jp.HasK KX mg "tell_tree" Jp.sTellTree ["question"] := by
      refine' Jp.has_mk KX G ?a ?l ?c ?k ?b
      (case a => k_is); (case l => k_is); (case c => k_is); (case k => k_is)
      (case b => exact fun _ _ _ _ _ _ us hl => match us, hl with | [_], _ => rfl)
    have D_tell_left : Jp.HasK KX mg "tell_left" Jp.sTellLeft ["question", "atom"] := by
      refine' Jp.has_mk KX G ?a ?l ?c ?k ?b
      (case a => k_is); (case l => k_is); (case c => k_is); (case k => k_is)
      (case b => exact fun _ _ _ _ _ _ us hl => match us, hl with | [_, _], _ => rfl)
    have D_some_atom_has : Jp.HasK KX mg "some_atom_has" Jp.sSomeAtomHas ["question", "variable"] := by
      refine' Jp.has_mk KX G ?a ?l ?c ?k ?b
      (case a => k_is); (case l => k_is); (case c => k_is); (case k => k_is)
      (case b => exact fun _ _ _ _ _ _ us hl => match us, hl with | [_, _], _ => rfl)
    have D_tell_answers : Jp.HasK KX mg "tell_answers" Jp.sTellAnswers ["question", "variables"] := by
      refine' Jp.has_mk KX G ?a ?l ?c ?k ?b
      (case a => k_is); (case l => k_is); (case c => k_is); (case k => k_is)
      (case b => exact fun _ _ _ _ _ _ us hl => match us, hl with | [_, _], _ => rfl)
    have D_tell_order : Jp.HasK KX mg "tell_order" Jp.sTellOrder ["question"] := by
      refine' Jp.has_mk KX G ?a ?l ?c ?k ?b
      (case a => k_is); (case l => k_is); (case c => k_is); (case k => k_is)
      (case b => exact fun _ _ _ _ _ _ us hl => match us, hl with | [_], _ => rfl)
    have D_tell_cost : Jp.HasK KX mg "tell_cost" Jp.sTellCost ["question", "order"] := by
      refine' Jp.has_mk KX G ?a ?l ?c ?k ?b
      (case a => k_is); (case l => k_is); (case c => k_is); (case k => k_is)
      (case b => exact fun _ _ _ _ _ _ us hl => match us, hl with | [_, _], _ => rfl)
    have D_tell_plan : Jp.HasK KX mg "tell_plan" Jp.sTellPlan ["question"] := by
      refine' Jp.has_mk KX G ?a ?l ?c ?k ?b
      (case a => k_is); (case l => k_is); (case c => k_is); (case k => k_is)
      (case b => exact fun _ _ _ _ _ _ us hl => match us, hl with | [_], _ => rfl)
    have D_answer_with : Jp.HasK KX mg "answer_with" Jp.sAnswerWith ["question", "call", "numbers"] := by
      refine' Jp.has_mk KX G ?a ?l ?c ?k ?b
      (case a => k_is); (case l => k_is); (case c => k_is); (case k => k_is)
      (case b => exact fun _ _ _ _ _ _ us hl => match us, hl with | [_, _, _], _ => rfl)
    have D_answer_of_question : Jp.HasK KX mg "answer_of_question" Jp.sAnswerOfQuestion ["store", "call", "reader"] := by
      refine' Jp.has_mk KX G ?a ?l ?c ?k ?b
      (case a => k_is); (case l => k_is); (case c => k_is); (case k => k_is)
      (case b => exact fun _ _ _ _ _ _ us hl => match us, hl with | [_, _, _], _ => rfl)
    have D_answer_call : Jp.HasK KX mg "answer_call" Jp.sAnswerCall ["store", "reader"] := by
      refine' Jp.has_mk KX G ?a ?l ?c ?k ?b
      (case a => k_is); (case l => k_is); (case c => k_is); (case k => k_is)
      (case b => exact fun _ _ _ _ _ _ us hl => match us, hl with | [_, _], _ => rfl)
    obtain ⟨c1, P1, c2, P2, two⟩ := by
      refine' Jp.two_mk T KX ?r1 ?a1 ?l1 ?e1 ?k1 ?lc1 ?hv1 ?n1 ?r2 ?a2 ?l2 ?e2 ?k2 ?lc2 ?hv2 ?n2 ?ne
      (case r1 => decide +kernel); (case a1 => k_is); (case l1 => k_is); (case e1 => k_is); (case k1 => k_is); (case lc1 => k_is); (case hv1 => rfl); (case n1 => kernel_rfl)
      (case r2 => decide +kernel); (case a2 => k_is); (case l2 => k_is); (case e2 => k_is); (case k2 => k_is); (case lc2 => k_is); (case hv2 => rfl); (case n2 => kernel_rfl)
      (case ne => decide)
    have c_LEAST_VALUE : Jp.IntC mg "LEAST_VALUE" (-1000000000) := ⟨_, PySem.W.mg_of KX G (by k_is)⟩
    have c_GREATEST_VALUE : Jp.IntC mg "GREATEST_VALUE" (1000000000) := ⟨_, PySem.W.mg_of KX G (by k_is)⟩
    have c_MOST_ATOMS : Jp.IntC mg "MOST_ATOMS" (5) := ⟨_, PySem.W.mg_of KX G (by k_is)⟩
    have c_GREATEST_VARIABLE : Jp.IntC mg "GREATEST_VARIABLE" (9) := ⟨_, PySem.W.mg_of KX G (by k_is)⟩
    have c_VALUE_TERM : Jp.IntC mg "VALUE_TERM" (0) := ⟨_, PySem.W.mg_of KX G (by k_is)⟩
    have c_VARIABLE_TERM : Jp.IntC mg "VARIABLE_TERM" (1) := ⟨_, PySem.W.mg_of KX G (by k_is)⟩
    have c_JOINING : Jp.IntC mg "JOINING" (-1) := ⟨_, PySem.W.mg_of KX G (by k_is)⟩
    have c_BEGIN : Jp.IntC mg "BEGIN" (0) := ⟨_, PySem.W.mg_of KX G (by k_is)⟩
    have c_TABLE : Jp.IntC mg "TABLE" (1) := ⟨_, PySem.W.mg_of KX G (by k_is)⟩
    have c_ROW : Jp.IntC mg "ROW" (2) := ⟨_, PySem.W.mg_of KX G (by k_is)⟩
    have c_QUESTION : Jp.IntC mg "QUESTION" (3) := ⟨_, PySem.W.mg_of KX G (by k_is)⟩
    have c_TREE : Jp.IntC mg "TREE" (4) := ⟨_, PySem.W.mg_of KX G (by k_is)⟩
    have c_LEFT : Jp.IntC mg "LEFT" (5) := ⟨_, PySem.W.mg_of KX G (by k_is)⟩
    have c_COUNT : Jp.IntC mg "COUNT" (6) := ⟨_, PySem.W.mg_of KX G (by k_is)⟩
    have c_ANSWERS : Jp.IntC mg "ANSWERS" (7) := ⟨_, PySem.W.mg_of KX G (by k_is)⟩
    have c_ORDER : Jp.IntC mg "ORDER" (8) := ⟨_, PySem.W.mg_of KX G (by k_is)⟩
    have c_COST : Jp.IntC mg "COST" (9) := ⟨_, PySem.W.mg_of KX G (by k_is)⟩
    have c_WRONG : Jp.IntC mg "WRONG" (-1) := ⟨_, PySem.W.mg_of KX G (by k_is)⟩
    have c_NO_QUESTION : Jp.IntC mg "NO_QUESTION" (-5) := ⟨_, PySem.W.mg_of KX G (by k_is)⟩
    have c_FULL : Jp.IntC mg "FULL" (-6) := ⟨_, PySem.W.mg_of KX G (by k_is)⟩
    have c_MOST_TABLES : Jp.IntC mg "MOST_TABLES" (6) := ⟨_, PySem.W.mg_of KX G (by k_is)⟩
    have c_MOST_COLUMNS : Jp.IntC mg "MOST_COLUMNS" (4) := ⟨_, PySem.W.mg_of KX G (by k_is)⟩
    have c_MOST_ROWS : Jp.IntC mg "MOST_ROWS" (10) := ⟨_, PySem.W.mg_of KX G (by k_is)⟩
    have N : Jp.Plain mg := by
      refine' Jp.plain_mk KX G ?z0 ?z1 ?z2 ?z3 ?z4 ?z5 ?z6 ?z7 ?z8 ?z9 ?z10
      (case z0 => k_is); (case z1 => k_is); (case z2 => k_is); (case z3 => k_is); (case z4 => k_is); (case z5 => k_is); (case z6 => k_is); (case z7 => k_is); (case z8 => k_is); (case z9 => k_is); (case z10 => k_is)
    refine' Jp.ends_mk KX G hmg two ?a ?l ?c ?k ?ok
    (case a => k_is); (case l => k_is); (case c => k_is); (case k => k_is)
    case ok =>
      intro base f fd F tb
      have low := Jp.low_ok (P := PySem.Challenge.rw_joinplans_s01_answers.prog) (w := w) (base := base) N TTable ITable TStore IStore TAtom IAtom TFittingRow IFittingRow THanging IHanging TReader IReader MHasMore MTakeNumber MTakeList D_is_value D_is_row_of D_is_term D_read_atom D_read_atoms D_variables_of D_bind D_fitting_rows D_agree D_is_shared D_find_holder D_find_pair D_take_off D_has_partner D_stays D_staying_rows D_throw_out D_how_many_rows D_rows_left D_begin D_add_table D_add_row D_ask D_tell_tree D_tell_left c_LEAST_VALUE c_GREATEST_VALUE c_MOST_ATOMS c_GREATEST_VARIABLE c_VALUE_TERM c_VARIABLE_TERM c_WRONG c_FULL c_MOST_TABLES c_MOST_COLUMNS c_MOST_ROWS
      exact Jp.top_ok N low two.ne TStore TFittingRow TReader TPart IPart TGroups IGroups TWayCounts IWayCounts MWaysOf TPlan IPlan D_pick D_part_of D_parts_of D_places_of D_rows_by D_joined_with D_still_wanted D_group_ways D_count_ways D_is_order D_order_cost D_lengthened D_all_orders two.d1 D_widened D_first_sides D_joined_plan two.d2 D_cheapest_plan D_some_atom_has D_tell_answers D_tell_order D_tell_cost D_tell_plan D_answer_with D_answer_of_question D_answer_call F c_BEGIN c_TABLE c_ROW c_QUESTION c_TREE c_LEFT c_COUNT c_ANSWERS c_ORDER c_COST c_WRONG c_NO_QUESTION c_JOINING tb
  case S =>
    intro K G xs a hwi hask hx
    cases hx with
    | cons h1 h2 =>
      cases h2
      cases h1 with
      | lst hs ha =>
        have e := L2.ints_dw a.1 _ ha
        subst e
        exact ⟨_, a.1, rfl, hs, hask, fun H' p hp => .lst (L2.SqL.of hp) (L2.dw_ints _)⟩
