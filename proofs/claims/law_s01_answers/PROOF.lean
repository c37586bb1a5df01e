import PyProof.Rows.All
import Wide.All
import OpenK.AllK
import Wide.FinOn
import Open.SpecLaws
import KE.OsGo
import HandS.ForSpec
import HandS.SetFor
import HandS.Comp
import HandS.Iter
import HandS.Flow
import HandS.WideBits
import HandS.Walk
import PySem.Challenge.RW_netmends_s01_answers
set_option Elab.async false
/- Ways over bars: when there is one (Euler), for the nets of the specification. -/
namespace Eul
open Uw24

structure Ok (n : Net) : Prop where
  w2 : 2 ≤ n.wide
  w4 : n.wide ≤ 4
  h2 : 2 ≤ n.high
  h4 : n.high ≤ 4

set_option synthInstance.maxHeartbeats 400000 in
set_option synthInstance.maxSize 4000 in
theorem ends_all : ∀ w, w < 5 → ∀ h, h < 5 → 2 ≤ w → 2 ≤ h → ∀ b, b < 24 → b < (Net.mk w h []).bars →
    ((Net.mk w h []).ends b).1 < ((Net.mk w h []).ends b).2 ∧ ((Net.mk w h []).ends b).2 < w * h := by
  decide +kernel

set_option synthInstance.maxHeartbeats 400000 in
set_option synthInstance.maxSize 4000 in
theorem ends_inj_all : ∀ w, w < 5 → ∀ h, h < 5 → 2 ≤ w → 2 ≤ h → ∀ b, b < 24 → ∀ c, c < 24 → b < (Net.mk w h []).bars → c < (Net.mk w h []).bars →
    (Net.mk w h []).ends b = (Net.mk w h []).ends c → b = c := by
  decide +kernel

theorem bars_all : ∀ w, w < 5 → ∀ h, h < 5 → 2 ≤ w → 2 ≤ h → (Net.mk w h []).bars ≤ 24 ∧ w * h ≤ 16 := by
  decide +kernel

theorem bars_le {n : Net} (o : Ok n) : n.bars ≤ 24 := (bars_all n.wide (by have := o.w4; omega) n.high (by have := o.h4; omega) o.w2 o.h2).1
theorem knots_le {n : Net} (o : Ok n) : n.knots ≤ 16 := (bars_all n.wide (by have := o.w4; omega) n.high (by have := o.h4; omega) o.w2 o.h2).2

theorem ends_lt {n : Net} (o : Ok n) {b : Nat} (h : b < n.bars) : (n.ends b).1 < (n.ends b).2 ∧ (n.ends b).2 < n.knots :=
  ends_all n.wide (by have := o.w4; omega) n.high (by have := o.h4; omega) o.w2 o.h2 b (by have := bars_le o; omega) h

theorem ends_inj {n : Net} (o : Ok n) {b c : Nat} (h : b < n.bars) (h' : c < n.bars) (e : n.ends b = n.ends c) : b = c :=
  ends_inj_all n.wide (by have := o.w4; omega) n.high (by have := o.h4; omega) o.w2 o.h2 b (by have := bars_le o; omega) c (by have := bars_le o; omega) h h' e

/-- Bars of the net, each once. -/
structure Fine (n : Net) (l : List Nat) : Prop where
  nd : l.Nodup
  lt : ∀ b ∈ l, b < n.bars

theorem Fine.perm {n : Net} {l p : List Nat} (f : Fine n l) (h : l.Perm p) : Fine n p :=
  ⟨h.nodup_iff.mp f.nd, fun b hb => f.lt b (h.mem_iff.mpr hb)⟩

theorem Fine.filter {n : Net} {l : List Nat} (f : Fine n l) (p : Nat → Bool) : Fine n (l.filter p) :=
  ⟨f.nd.filter p, fun b hb => f.lt b (List.mem_filter.mp hb).1⟩

theorem over_some {n : Net} {k b j : Nat} : n.over k b = some j ↔
    ((n.ends b).1 = k ∧ (n.ends b).2 = j) ∨ ((n.ends b).1 ≠ k ∧ (n.ends b).2 = k ∧ (n.ends b).1 = j) := by
  unfold Net.over
  split
  · simp_all
  · split <;> simp_all

theorem over_sym {n : Net} (o : Ok n) {k b j : Nat} (h : b < n.bars) (e : n.over k b = some j) : n.over j b = some k := by
  have := ends_lt o h
  rw [over_some] at *
  omega

theorem over_inj {n : Net} (o : Ok n) {k b c j : Nat} (h : b < n.bars) (h' : c < n.bars) (e : n.over k b = some j) (e' : n.over k c = some j) : b = c := by
  have h1 := ends_lt o h
  have h2 := ends_lt o h'
  rw [over_some] at e e'
  refine ends_inj o h h' ?_
  apply Prod.ext <;> omega

theorem over_ne {n : Net} (o : Ok n) {k b j : Nat} (h : b < n.bars) (e : n.over k b = some j) : k ≠ j ∧ k < n.knots ∧ j < n.knots := by
  have h1 := ends_lt o h
  rw [over_some] at e
  omega

/-- 1 if a bar ends at a knot. -/
def at_ (n : Net) (b k : Nat) : Nat := if (n.ends b).1 = k ∨ (n.ends b).2 = k then 1 else 0

theorem legs_nil {n : Net} {k : Nat} : n.legs [] k = 0 := rfl

theorem legs_cons {n : Net} {b : Nat} {l : List Nat} {k : Nat} : n.legs (b :: l) k = at_ n b k + n.legs l k := by
  unfold Net.legs at_
  rw [List.filter_cons]
  by_cases h : (n.ends b).1 = k ∨ (n.ends b).2 = k
  · have : ((n.ends b).1 == k || (n.ends b).2 == k) = true := by simpa using h
    rw [if_pos this, if_pos h, List.length_cons]; omega
  · have : ¬ ((n.ends b).1 == k || (n.ends b).2 == k) = true := by simpa using h
    rw [if_neg this, if_neg h]; omega

theorem legs_append {n : Net} {l m : List Nat} {k : Nat} : n.legs (l ++ m) k = n.legs l k + n.legs m k := by
  unfold Net.legs
  rw [List.filter_append, List.length_append]

theorem legs_perm {n : Net} {l m : List Nat} (h : l.Perm m) {k : Nat} : n.legs l k = n.legs m k :=
  (h.filter _).length_eq

theorem at_over {n : Net} (o : Ok n) {k b j : Nat} (h : b < n.bars) (e : n.over k b = some j) (v : Nat) :
    at_ n b v = (if v = k then 1 else 0) + (if v = j then 1 else 0) := by
  have h1 := ends_lt o h
  rw [over_some] at e
  unfold at_
  split <;> split <;> split <;> omega

theorem at_le {n : Net} {b v : Nat} : at_ n b v ≤ 1 := by
  unfold at_; split <;> omega

theorem legs_pos {n : Net} {l : List Nat} {k : Nat} : 0 < n.legs l k ↔ ∃ b ∈ l, (n.ends b).1 = k ∨ (n.ends b).2 = k := by
  unfold Net.legs
  rw [List.length_pos_iff_exists_mem]
  simp only [List.mem_filter, Bool.or_eq_true, beq_iff_eq]

theorem perm_take {l : List Nat} (nd : l.Nodup) {x : Nat} (h : x ∈ l) : l.Perm (x :: l.filter fun y => y != x) := by
  have e : (l.filter fun y => y != x) = l.erase x := (List.Nodup.erase_eq_filter nd x).symm
  rw [e]
  exact List.perm_cons_erase h

/-- A way, by its bars in order. -/
inductive Tr (n : Net) : Nat → List Nat → Nat → Prop where
  | nil (k : Nat) : Tr n k [] k
  | cons {k x j t : Nat} {l : List Nat} : n.over k x = some j → Tr n j l t → Tr n k (x :: l) t

theorem Tr.append {n : Net} {a b c : Nat} {l m : List Nat} (h : Tr n a l b) (g : Tr n b m c) : Tr n a (l ++ m) c := by
  induction h with
  | nil k => exact g
  | cons e _ ih => exact Tr.cons e (ih g)

theorem Tr.legs {n : Net} (o : Ok n) {a t : Nat} {l : List Nat} (h : Tr n a l t) (hl : ∀ b ∈ l, b < n.bars) (v : Nat) :
    n.legs l v % 2 = ((if v = a then 1 else 0) + (if v = t then 1 else 0)) % 2 := by
  induction h with
  | nil k => rw [legs_nil]; split <;> rfl
  | @cons k x j t l e h ih =>
    have i := ih (fun b hb => hl b (List.mem_cons_of_mem _ hb))
    have a := at_over o (hl x (List.mem_cons_self ..)) e v
    rw [legs_cons, a]
    omega

/-- Knots that can be come to over some bars. -/
inductive R (n : Net) (l : List Nat) (k : Nat) : Nat → Prop where
  | refl : R n l k k
  | step {a x b : Nat} : R n l k a → x ∈ l → n.over a x = some b → R n l k b

theorem R.mono {n : Net} {l m : List Nat} {k v : Nat} (h : R n l k v) (s : ∀ b ∈ l, b ∈ m) : R n m k v := by
  induction h with
  | refl => exact R.refl
  | step _ hx e ih => exact R.step ih (s _ hx) e

theorem R.trans {n : Net} {l : List Nat} {a b c : Nat} (h : R n l a b) (g : R n l b c) : R n l a c := by
  induction g with
  | refl => exact h
  | step _ hx e ih => exact R.step ih hx e

theorem R.symm {n : Net} (o : Ok n) {l : List Nat} (hl : ∀ b ∈ l, b < n.bars) {a b : Nat} (h : R n l a b) : R n l b a := by
  induction h with
  | refl => exact R.refl
  | step _ hx e ih => exact R.trans (R.step R.refl hx (over_sym o (hl _ hx) e)) ih

theorem R.ends {n : Net} {l : List Nat} {k b v : Nat} (hb : b ∈ l) (hv : (n.ends b).1 = v ∨ (n.ends b).2 = v) (h : R n l k v) :
    R n l k (n.ends b).1 ∧ R n l k (n.ends b).2 := by
  rcases hv with hv | hv
  · subst hv
    exact ⟨h, R.step h hb (by rw [over_some]; exact .inl ⟨rfl, rfl⟩)⟩
  · subst hv
    refine ⟨?_, h⟩
    by_cases q : (n.ends b).1 = (n.ends b).2
    · rw [q]; exact h
    · exact R.step h hb (by rw [over_some]; exact .inr ⟨q, rfl, rfl⟩)

theorem R.first {n : Net} {l : List Nat} {k v : Nat} (h : R n l k v) : v = k ∨ ∃ x ∈ l, ∃ j, n.over k x = some j := by
  induction h with
  | refl => exact .inl rfl
  | step _ hx e ih =>
    rcases ih with rfl | h
    · exact .inr ⟨_, hx, _, e⟩
    · exact .inr h

/-- The sum over all knots below N. -/
def upto (f : Nat → Nat) : Nat → Nat
  | 0 => 0
  | N + 1 => upto f N + f N

theorem upto_add (f g : Nat → Nat) : ∀ N, upto (fun v => f v + g v) N = upto f N + upto g N
  | 0 => rfl
  | N + 1 => by simp only [upto, upto_add f g N]; omega

theorem upto_one (a : Nat) : ∀ N, upto (fun v => if v = a then 1 else 0) N = if a < N then 1 else 0
  | 0 => rfl
  | N + 1 => by
    simp only [upto, upto_one a N]
    split <;> split <;> split <;> omega

theorem upto_mod (f g : Nat → Nat) (h : ∀ v, f v % 2 = g v % 2) : ∀ N, upto f N % 2 = upto g N % 2
  | 0 => rfl
  | N + 1 => by
    have := upto_mod f g h N
    have := h N
    simp only [upto]; omega

theorem upto_congr (f g : Nat → Nat) (h : ∀ v, f v = g v) (N : Nat) : upto f N = upto g N := by
  have : f = g := funext h
  rw [this]

theorem shake {n : Net} (o : Ok n) : ∀ (l : List Nat), (∀ b ∈ l, b < n.bars) → upto (n.legs l) n.knots = 2 * l.length
  | [], _ => by
    have : ∀ N, upto (n.legs []) N = 0 := by
      intro N; induction N with
      | zero => rfl
      | succ N ih => simp only [upto, ih, legs_nil]
    rw [this]; rfl
  | b :: l, h => by
    have i := shake o l (fun c hc => h c (List.mem_cons_of_mem _ hc))
    have hb := h b (List.mem_cons_self ..)
    have lt := ends_lt o hb
    have e : n.over (n.ends b).1 b = some (n.ends b).2 := by rw [over_some]; exact .inl ⟨rfl, rfl⟩
    have c : upto (n.legs (b :: l)) n.knots = upto (fun v => ((if v = (n.ends b).1 then 1 else 0) + (if v = (n.ends b).2 then 1 else 0)) + n.legs l v) n.knots :=
      upto_congr _ _ (fun v => by rw [legs_cons, at_over o hb e v]) _
    rw [c, upto_add, upto_add, upto_one, upto_one, i, if_pos (by omega), if_pos (by omega), List.length_cons]
    omega

theorem not_one {n : Net} (o : Ok n) {l : List Nat} (hl : ∀ b ∈ l, b < n.bars) {j : Nat} (hj : j < n.knots)
    (h : ∀ v, n.legs l v % 2 = if v = j then 1 else 0) : False := by
  have s := shake o l hl
  have m := upto_mod (n.legs l) (fun v => if v = j then 1 else 0) (fun v => by rw [h v]; split <;> rfl) n.knots
  rw [s, upto_one, if_pos hj] at m
  omega

open Classical in
/-- **Euler**: what hangs together and has no odd knots but its ends is gone over in one go. -/
theorem euler {n : Net} (o : Ok n) : ∀ (m : Nat) (l : List Nat) (k t : Nat), l.length ≤ m → Fine n l →
    (∀ b ∈ l, R n l k (n.ends b).1) →
    (∀ v, n.legs l v % 2 = ((if v = k then 1 else 0) + (if v = t then 1 else 0)) % 2) →
    ∃ p, p.Perm l ∧ Tr n k p t := by
  intro m
  induction m with
  | zero =>
    intro l k t hm _ _ par
    have : l = [] := List.length_eq_zero_iff.mp (by omega)
    subst this
    have := par k
    rw [legs_nil, if_pos rfl] at this
    by_cases q : k = t
    · subst q; exact ⟨[], List.Perm.refl _, Tr.nil k⟩
    · rw [if_neg q] at this; omega
  | succ m ih =>
    intro l k t hm fine reach par
    cases hl : l with
    | nil =>
      subst hl
      have := par k
      rw [legs_nil, if_pos rfl] at this
      by_cases q : k = t
      · subst q; exact ⟨[], List.Perm.refl _, Tr.nil k⟩
      · rw [if_neg q] at this; omega
    | cons b0 l0 =>
      rw [← hl]
      have hb0 : b0 ∈ l := by rw [hl]; exact List.mem_cons_self ..
      -- a bar at k
      have ex : ∃ x ∈ l, ∃ j, n.over k x = some j := by
        rcases R.first (reach b0 hb0) with h | h
        · exact ⟨b0, hb0, (n.ends b0).2, by rw [over_some]; exact .inl ⟨h, rfl⟩⟩
        · exact h
      obtain ⟨x, hx, j, hj⟩ := ex
      have hxb := fine.lt x hx
      have kj := over_ne o hxb hj
      have pl : l.Perm (x :: l.filter fun y => y != x) := perm_take fine.nd hx
      generalize hl' : (l.filter fun y => y != x) = l' at pl
      have fine' : Fine n l' := by rw [← hl']; exact fine.filter _
      have len' : l'.length + 1 = l.length := by rw [pl.length_eq]; rfl
      have mem' : ∀ y, y ∈ l ↔ y = x ∨ y ∈ l' := fun y => by rw [pl.mem_iff, List.mem_cons]
      have par' : ∀ v, n.legs l' v % 2 = ((if v = j then 1 else 0) + (if v = t then 1 else 0)) % 2 := by
        intro v
        have h1 := par v
        rw [legs_perm pl, legs_cons, at_over o hxb hj v] at h1
        omega
      have hA : ∀ b, b ∈ l'.filter (fun b => decide (R n l' j (n.ends b).1)) ↔ b ∈ l' ∧ R n l' j (n.ends b).1 := fun b => by
        rw [List.mem_filter, decide_eq_true_iff]
      have hB : ∀ b, b ∈ l'.filter (fun b => !decide (R n l' j (n.ends b).1)) ↔ b ∈ l' ∧ ¬ R n l' j (n.ends b).1 := fun b => by
        rw [List.mem_filter]; simp
      have fA : Fine n (l'.filter fun b => decide (R n l' j (n.ends b).1)) := fine'.filter _
      have fB : Fine n (l'.filter fun b => !decide (R n l' j (n.ends b).1)) := fine'.filter _
      have pAB : ((l'.filter fun b => decide (R n l' j (n.ends b).1)) ++ (l'.filter fun b => !decide (R n l' j (n.ends b).1))).Perm l' :=
        List.filter_append_perm _ l'
      generalize l'.filter (fun b => decide (R n l' j (n.ends b).1)) = A at *
      generalize l'.filter (fun b => !decide (R n l' j (n.ends b).1)) = B at *
      have lAB : A.length + B.length = l'.length := by rw [← pAB.length_eq, List.length_append]
      have sum : ∀ v, n.legs A v + n.legs B v = n.legs l' v := fun v => by rw [← legs_append, legs_perm pAB]
      have zB : ∀ v, R n l' j v → n.legs B v = 0 := by
        intro v hv
        rcases Nat.eq_zero_or_pos (n.legs B v) with h | h
        · exact h
        · obtain ⟨b, hb, e⟩ := legs_pos.mp h
          exact absurd (R.ends ((hB b).mp hb).1 e hv).1 ((hB b).mp hb).2
      have zA : ∀ v, ¬ R n l' j v → n.legs A v = 0 := by
        intro v hv
        rcases Nat.eq_zero_or_pos (n.legs A v) with h | h
        · exact h
        · obtain ⟨b, hb, e⟩ := legs_pos.mp h
          have r := ((hA b).mp hb)
          have r2 := R.ends r.1 (.inl rfl) r.2
          rcases e with e | e
          · rw [e] at r2; exact absurd r2.1 hv
          · rw [e] at r2; exact absurd r2.2 hv
      have Rt : R n l' j t := by
        apply Classical.byContradiction
        intro q
        have jt : j ≠ t := by intro e; subst e; exact q R.refl
        refine not_one o (l := A) fA.lt kj.2.2 ?_
        intro v
        by_cases r : R n l' j v
        · have h1 := sum v
          have h2 := zB v r
          have h3 := par' v
          have vt : v ≠ t := by intro e; subst e; exact q r
          rw [if_neg vt] at h3
          have : n.legs A v = n.legs l' v := by omega
          rw [this, h3]
          split <;> rfl
        · have vj : v ≠ j := by intro e; subst e; exact r R.refl
          rw [zA v r, if_neg vj]
      have parA : ∀ v, n.legs A v % 2 = ((if v = j then 1 else 0) + (if v = t then 1 else 0)) % 2 := by
        intro v
        by_cases r : R n l' j v
        · have h1 := sum v
          have h2 := zB v r
          have h3 := par' v
          have : n.legs A v = n.legs l' v := by omega
          rw [this, h3]
        · have vj : v ≠ j := by intro e; subst e; exact r R.refl
          have vt : v ≠ t := by intro e; subst e; exact r Rt
          rw [zA v r, if_neg vj, if_neg vt]
      have parB : ∀ v, n.legs B v % 2 = ((if v = k then 1 else 0) + (if v = k then 1 else 0)) % 2 := by
        intro v
        have z : n.legs B v % 2 = 0 := by
          by_cases r : R n l' j v
          · rw [zB v r]
          · have vj : v ≠ j := by intro e; subst e; exact r R.refl
            have vt : v ≠ t := by intro e; subst e; exact r Rt
            have h1 := sum v
            have h2 := zA v r
            have h3 := par' v
            rw [if_neg vj, if_neg vt] at h3
            omega
        rw [z]; split <;> rfl
      have rA : ∀ v, R n l' j v → R n A j v := by
        intro v h
        induction h with
        | refl => exact R.refl
        | @step a y b h hy e ih' =>
          refine R.step ih' ((hA y).mpr ⟨hy, ?_⟩) e
          refine (R.ends hy ?_ h).1
          rw [over_some] at e
          rcases e with e | e
          · exact .inl e.1
          · exact .inr e.2.1
      have rB : ∀ v, R n l k v → R n l' j v ∨ R n B k v := by
        intro v h
        induction h with
        | refl => exact .inr R.refl
        | @step a y b h hy e ih' =>
          rcases (mem' y).mp hy with rfl | hy'
          · have : b = j ∨ b = k := by
              have e2 := hj
              rw [over_some] at e e2
              omega
            rcases this with rfl | rfl
            · exact .inl R.refl
            · exact .inr R.refl
          · by_cases r : R n l' j a
            · exact .inl (R.step r hy' e)
            · rcases ih' with ih' | ih'
              · exact absurd ih' r
              · refine .inr (R.step ih' ((hB y).mpr ⟨hy', ?_⟩) e)
                intro q
                apply r
                have := R.ends hy' (.inl rfl) q
                rw [over_some] at e
                rcases e with e | e
                · rw [← e.1]; exact this.1
                · rw [← e.2.1]; exact this.2
      obtain ⟨pA, permA, tA⟩ := ih A j t (by omega) fA (fun b hb => rA _ ((hA b).mp hb).2) parA
      obtain ⟨pB, permB, tB⟩ := ih B k k (by omega) fB (fun b hb => by
        rcases rB _ (reach b ((mem' b).mpr (.inr ((hB b).mp hb).1))) with h | h
        · exact absurd h ((hB b).mp hb).2
        · exact h) parB
      refine ⟨pB ++ (x :: pA), ?_, tB.append (Tr.cons hj tA)⟩
      refine List.perm_middle.trans (List.Perm.trans (List.Perm.cons x ?_) pl.symm)
      exact (permB.append permA).trans (List.perm_append_comm.trans pAB)
end Eul

set_option Elab.async false
namespace Eul
open Uw24

theorem first_nil {n : Net} {f k : Nat} : n.first f [] k = some [k] := by cases f <;> rfl
theorem first_zero {n : Net} {b : Nat} {l : List Nat} {k : Nat} : n.first 0 (b :: l) k = none := rfl
theorem first_succ {n : Net} {f b : Nat} {l : List Nat} {k : Nat} : n.first (f + 1) (b :: l) k =
    (List.range n.knots).findSome? fun j => match (b :: l).find? fun x => n.over k x == some j with
    | some x => (n.first f ((b :: l).filter fun y => y != x) j).map fun w => k :: w
    | none => none := rfl

theorem find_over {n : Net} (o : Ok n) {l : List Nat} (hl : ∀ b ∈ l, b < n.bars) {k x j : Nat} (hx : x ∈ l) (e : n.over k x = some j) :
    (l.find? fun y => n.over k y == some j) = some x := by
  cases h : l.find? fun y => n.over k y == some j with
  | none =>
    have := List.find?_eq_none.mp h x hx
    rw [e] at this; simp at this
  | some y =>
    have h1 := List.find?_some h
    have h2 := List.mem_of_find?_eq_some h
    have h1' : n.over k y = some j := by simpa using h1
    rw [over_inj o (hl x hx) (hl y h2) e h1']

theorem first_of_tr {n : Net} (o : Ok n) : ∀ (p l : List Nat) (f k t : Nat), l.length ≤ f → Fine n l → p.Perm l → Tr n k p t →
    (n.first f l k).isSome = true := by
  intro p
  induction p with
  | nil =>
    intro l f k t _ _ hp _
    have : l = [] := List.nil_perm.mp hp
    subst this; rw [first_nil]; rfl
  | cons x p ih =>
    intro l f k t hf fine hp tr
    cases tr with
    | @cons _ _ j _ _ e tr =>
      have hx : x ∈ l := hp.mem_iff.mp (List.mem_cons_self ..)
      cases hl : l with
      | nil => subst hl; cases hx
      | cons b0 l0 =>
        cases f with
        | zero => rw [hl] at hf; simp at hf
        | succ f =>
          rw [first_succ, ← hl, List.isSome_findSome?, List.any_eq_true]
          refine ⟨j, List.mem_range.mpr (over_ne o (fine.lt x hx) e).2.2, ?_⟩
          rw [find_over o fine.lt hx e]
          have pl := perm_take fine.nd hx
          have hp' : p.Perm (l.filter fun y => y != x) := (hp.trans pl).cons_inv
          have := ih (l.filter fun y => y != x) f j t (by
            have := pl.length_eq
            rw [List.length_cons] at this; omega) (fine.filter _) hp' tr
          simpa using this

/-- A way by its knots and its bars. -/
inductive Kn (n : Net) : List Nat → List Nat → Prop where
  | nil (k : Nat) : Kn n [k] []
  | cons {k x j : Nat} {w l : List Nat} : n.over k x = some j → Kn n (j :: w) l → Kn n (k :: j :: w) (x :: l)

theorem Kn.tr {n : Net} {v l : List Nat} (h : Kn n v l) : ∃ k w t, v = k :: w ∧ Tr n k l t := by
  induction h with
  | nil k => exact ⟨k, [], k, rfl, Tr.nil k⟩
  | cons e _ ih =>
    obtain ⟨k', w', t, h1, h2⟩ := ih
    cases h1
    exact ⟨_, _, t, rfl, Tr.cons e h2⟩

theorem Kn.len {n : Net} {v l : List Nat} (h : Kn n v l) : v.length = l.length + 1 := by
  induction h with
  | nil k => rfl
  | cons e _ ih => rw [List.length_cons, ih, List.length_cons]

theorem first_kn {n : Net} : ∀ (f : Nat) (l : List Nat) (k : Nat) (w : List Nat), l.Nodup → n.first f l k = some w →
    ∃ p v, p.Perm l ∧ w = k :: v ∧ Kn n w p := by
  intro f
  induction f with
  | zero =>
    intro l k w nd h
    cases l with
    | nil => rw [first_nil] at h; cases h; exact ⟨[], [], List.Perm.refl _, rfl, Kn.nil k⟩
    | cons b l => rw [first_zero] at h; cases h
  | succ f ih =>
    intro l k w nd h
    cases hl : l with
    | nil => subst hl; rw [first_nil] at h; cases h; exact ⟨[], [], List.Perm.refl _, rfl, Kn.nil k⟩
    | cons b0 l0 =>
      rw [hl, first_succ, ← hl] at h
      obtain ⟨j, _, h⟩ := List.exists_of_findSome?_eq_some h
      split at h
      · rename_i x hx
        have h1 := List.find?_some hx
        have h2 := List.mem_of_find?_eq_some hx
        have e : n.over k x = some j := by simpa using h1
        rw [Option.map_eq_some_iff] at h
        obtain ⟨w', h3, h4⟩ := h
        obtain ⟨p, v, hp, hw, kn⟩ := ih _ j w' (nd.filter _) h3
        subst hw
        subst h4
        rw [← hl]
        exact ⟨x :: p, _, (List.Perm.cons x hp).trans (perm_take nd h2).symm, rfl, Kn.cons e kn⟩
      · cases h

theorem Tr.reach {n : Net} {k t : Nat} {l : List Nat} (h : Tr n k l t) : ∀ b ∈ l, R n l k (n.ends b).1 := by
  induction h with
  | nil k => intro b hb; cases hb
  | @cons k x j t l e h ih =>
    intro b hb
    have st : R n (x :: l) k j := R.step R.refl (List.mem_cons_self ..) e
    rcases List.mem_cons.mp hb with rfl | hb
    · refine (R.ends (List.mem_cons_self ..) ?_ R.refl).1
      rw [over_some] at e
      rcases e with e | e
      · exact .inl e.1
      · exact .inr e.2.1
    · exact R.trans st ((ih b hb).mono fun c hc => List.mem_cons_of_mem _ hc)

theorem R.perm {n : Net} {l m : List Nat} {k v : Nat} (h : l.Perm m) : R n l k v ↔ R n m k v :=
  ⟨fun r => r.mono fun _ hb => h.mem_iff.mp hb, fun r => r.mono fun _ hb => h.mem_iff.mpr hb⟩

/-- **When there's a way from a knot.** -/
theorem first_iff {n : Net} (o : Ok n) {l : List Nat} (fine : Fine n l) {f k : Nat} (hf : l.length ≤ f) :
    (n.first f l k).isSome = true ↔ (∀ b ∈ l, R n l k (n.ends b).1) ∧
      ∃ t, ∀ v, n.legs l v % 2 = ((if v = k then 1 else 0) + (if v = t then 1 else 0)) % 2 := by
  constructor
  · intro h
    obtain ⟨w, h⟩ := Option.isSome_iff_exists.mp h
    obtain ⟨p, v, hp, hw, kn⟩ := first_kn f l k w fine.nd h
    obtain ⟨k', w', t, e, tr⟩ := kn.tr
    rw [hw] at e; cases e
    refine ⟨fun b hb => (R.perm hp).mp (tr.reach b (hp.mem_iff.mpr hb)), t, fun v => ?_⟩
    rw [← legs_perm hp]
    exact tr.legs o (fine.perm hp.symm).lt v
  · rintro ⟨h, t, par⟩
    obtain ⟨p, hp, tr⟩ := euler o l.length l k t (Nat.le_refl _) fine h par
    exact first_of_tr o p l f k t hf fine hp tr

/-- Each bar can be come to from each. -/
def Whole (n : Net) (l : List Nat) : Prop := ∀ a ∈ l, ∀ b ∈ l, R n l (n.ends a).1 (n.ends b).1

theorem mem_odd {n : Net} {l : List Nat} {k : Nat} : k ∈ n.odd l ↔ k < n.knots ∧ n.legs l k % 2 = 1 := by
  unfold Net.odd
  rw [List.mem_filter, List.mem_range, beq_iff_eq]

theorem odd_sorted {n : Net} {l : List Nat} : (n.odd l).Pairwise (· < ·) :=
  List.Pairwise.filter _ List.pairwise_lt_range

theorem legs_out {n : Net} (o : Ok n) {l : List Nat} (hl : ∀ b ∈ l, b < n.bars) {v : Nat} (h : n.knots ≤ v) : n.legs l v = 0 := by
  rcases Nat.eq_zero_or_pos (n.legs l v) with q | q
  · exact q
  · obtain ⟨b, hb, e⟩ := legs_pos.mp q
    have := ends_lt o (hl b hb)
    omega

theorem legs_mod {n : Net} (o : Ok n) {l : List Nat} (hl : ∀ b ∈ l, b < n.bars) (v : Nat) :
    n.legs l v % 2 = if v ∈ n.odd l then 1 else 0 := by
  by_cases h : v ∈ n.odd l
  · rw [if_pos h]; exact (mem_odd.mp h).2
  · rw [if_neg h]
    by_cases q : v < n.knots
    · have : ¬ n.legs l v % 2 = 1 := fun e => h (mem_odd.mpr ⟨q, e⟩)
      omega
    · rw [legs_out o hl (by omega)]

theorem odd_two {n : Net} (o : Ok n) {l : List Nat} (hl : ∀ b ∈ l, b < n.bars) (h : (n.odd l).length ≤ 2) :
    n.odd l = [] ∨ ∃ a b, a < b ∧ n.odd l = [a, b] := by
  have s := @odd_sorted n l
  have lm := legs_mod o hl
  have mo := @mem_odd n l
  generalize n.odd l = m at *
  match m, h with
  | [], _ => exact .inl rfl
  | [a], _ =>
    exfalso
    refine not_one o hl (mo.mp (List.mem_cons_self ..)).1 (fun v => ?_) (j := a)
    rw [lm v]
    by_cases q : v = a
    · subst q; simp
    · simp [q]
  | [a, b], _ =>
    refine .inr ⟨a, b, ?_, rfl⟩
    simpa using s

/-- The odd knots and where a way may begin. -/
theorem par_iff {n : Net} (o : Ok n) {l : List Nat} (hl : ∀ b ∈ l, b < n.bars) {k : Nat} (hk : k < n.knots) :
    (∃ t, ∀ v, n.legs l v % 2 = ((if v = k then 1 else 0) + (if v = t then 1 else 0)) % 2) ↔
      n.odd l = [] ∨ ((n.odd l).length = 2 ∧ k ∈ n.odd l) := by
  have lm := legs_mod o hl
  constructor
  · rintro ⟨t, h⟩
    have mo := @mem_odd n l
    by_cases q : k = t
    · subst q
      refine .inl (List.eq_nil_iff_forall_not_mem.mpr fun v hv => ?_)
      have h1 := h v
      have h2 := (mo.mp hv).2
      split at h1 <;> omega
    · have ko : k ∈ n.odd l := by
        refine mo.mpr ⟨hk, ?_⟩
        have := h k
        rw [if_pos rfl, if_neg q] at this
        exact this
      refine .inr ⟨?_, ko⟩
      have s := @odd_sorted n l
      have only : ∀ v ∈ n.odd l, v = k ∨ v = t := by
        intro v hv
        have h1 := h v
        have h2 := (mo.mp hv).2
        by_cases a : v = k
        · exact .inl a
        · by_cases b : v = t
          · exact .inr b
          · rw [if_neg a, if_neg b] at h1; omega
      have three : (n.odd l).length ≤ 2 := by
        generalize n.odd l = m at *
        match m with
        | [] => simp
        | [_] => simp
        | [_, _] => simp
        | a :: b :: c :: m =>
          exfalso
          simp only [List.pairwise_cons, List.mem_cons] at s
          have h1 := s.1 b (.inl rfl)
          have h2 := s.1 c (.inr (.inl rfl))
          have h3 := s.2.1 c (.inl rfl)
          have o1 := only a (by simp)
          have o2 := only b (by simp)
          have o3 := only c (by simp)
          omega
      rcases odd_two o hl three with h | ⟨a, b, _, h⟩
      · rw [h] at ko; cases ko
      · rw [h]; rfl
  · intro h
    rcases h with h | ⟨h, hk⟩
    · refine ⟨k, fun v => ?_⟩
      rw [lm v, h]
      simp only [List.not_mem_nil, if_false]
      split <;> rfl
    · rcases odd_two o hl (by omega) with e | ⟨a, b, lt, e⟩
      · rw [e] at hk; cases hk
      · rw [e] at hk
        have : ∃ t, k ≠ t ∧ ∀ v, v ∈ [a, b] ↔ v = k ∨ v = t := by
          simp only [List.mem_cons, List.not_mem_nil, or_false] at hk
          rcases hk with rfl | rfl
          · exact ⟨b, by omega, fun v => by simp⟩
          · exact ⟨a, by omega, fun v => by simp [or_comm]⟩
        obtain ⟨t, kt, ht⟩ := this
        refine ⟨t, fun v => ?_⟩
        rw [lm v, e]
        by_cases q1 : v = k
        · by_cases q2 : v = t
          · omega
          · rw [if_pos ((ht v).mpr (.inl q1)), if_pos q1, if_neg q2]
        · by_cases q2 : v = t
          · rw [if_pos ((ht v).mpr (.inr q2)), if_neg q1, if_pos q2]
          · rw [if_neg (fun q => (ht v).mp q |>.elim q1 q2), if_neg q1, if_neg q2]

theorem way_cons {n : Net} {b : Nat} {l : List Nat} : n.way (b :: l) = (List.range n.knots).findSome? fun k => n.first (b :: l).length (b :: l) k := by
  unfold Net.way; rw [if_neg (by simp)]
theorem way_nil {n : Net} : n.way [] = some [] := rfl

/-- **When there's a way.** -/
theorem way_iff {n : Net} (o : Ok n) {l : List Nat} (fine : Fine n l) :
    (n.way l).isSome = true ↔ (n.odd l).length ≤ 2 ∧ Whole n l := by
  cases hl : l with
  | nil =>
    refine ⟨fun _ => ⟨?_, fun a ha => by cases ha⟩, fun _ => by rw [way_nil]; rfl⟩
    have : n.odd [] = [] := by
      refine List.eq_nil_iff_forall_not_mem.mpr fun v hv => ?_
      have := (mem_odd.mp hv).2
      rw [legs_nil] at this; omega
    rw [this]; simp
  | cons b0 l0 =>
    rw [way_cons, ← hl, List.isSome_findSome?, List.any_eq_true]
    have hb0 : b0 ∈ l := by rw [hl]; exact List.mem_cons_self ..
    constructor
    · rintro ⟨k, hk, h⟩
      rw [List.mem_range] at hk
      rw [first_iff o fine (Nat.le_refl _)] at h
      refine ⟨?_, fun a ha b hb => R.trans ((h.1 a ha).symm o fine.lt) (h.1 b hb)⟩
      rcases (par_iff o fine.lt hk).mp h.2 with e | e
      · rw [e]; simp
      · omega
    · rintro ⟨h, wh⟩
      have st : ∀ k, k < n.knots → (∃ b ∈ l, (n.ends b).1 = k ∨ (n.ends b).2 = k) → ∀ b ∈ l, R n l k (n.ends b).1 := by
        rintro k _ ⟨c, hc, e⟩ b hb
        exact R.trans (R.ends hc e R.refl).1 (wh c hc b hb)
      rcases odd_two o fine.lt h with e | ⟨a, b, lt, e⟩
      · have bk := ends_lt o (fine.lt b0 hb0)
        have lk : (n.ends b0).1 < n.knots := by omega
        refine ⟨(n.ends b0).1, List.mem_range.mpr lk, (first_iff o fine (Nat.le_refl _)).mpr
          ⟨st _ lk ⟨b0, hb0, .inl rfl⟩, (par_iff o fine.lt lk).mpr (.inl e)⟩⟩
      · have ha : a ∈ n.odd l := by rw [e]; simp
        have ha' := mem_odd.mp ha
        refine ⟨a, List.mem_range.mpr ha'.1, (first_iff o fine (Nat.le_refl _)).mpr
          ⟨st a ha'.1 (legs_pos.mp (by omega)), (par_iff o fine.lt ha'.1).mpr (.inr ⟨by rw [e]; rfl, ha⟩)⟩⟩

/-! What hangs together, bar by bar. -/
theorem nd_le : ∀ (s l : List Nat), s.Nodup → (∀ x ∈ s, x ∈ l) → s.length ≤ l.length
  | [], _, _, _ => Nat.zero_le _
  | a :: s, l, nd, h => by
    have ha := h a (List.mem_cons_self ..)
    have nd' := List.nodup_cons.mp nd
    have := nd_le s (l.erase a) nd'.2 (fun x hx => by
      have ne : x ≠ a := fun e => nd'.1 (e ▸ hx)
      exact (List.mem_erase_of_ne ne).mpr (h x (List.mem_cons_of_mem _ hx)))
    rw [List.length_erase_of_mem ha] at this
    have := List.length_pos_of_mem ha
    rw [List.length_cons]; omega

theorem nd_ge {s l : List Nat} (nd : s.Nodup) (h : ∀ x ∈ s, x ∈ l) (le : l.length ≤ s.length) : ∀ x ∈ l, x ∈ s := by
  intro x hx
  apply Classical.byContradiction
  intro q
  have := nd_le (x :: s) l (List.nodup_cons.mpr ⟨q, nd⟩) (fun y hy => by
    rcases List.mem_cons.mp hy with rfl | hy
    · exact hx
    · exact h y hy)
  rw [List.length_cons] at this; omega

theorem touch_iff {n : Net} {a b : Nat} : n.touch a b = true ↔ ∃ v, ((n.ends a).1 = v ∨ (n.ends a).2 = v) ∧ ((n.ends b).1 = v ∨ (n.ends b).2 = v) := by
  unfold Net.touch
  simp only [Bool.or_eq_true, beq_iff_eq]
  constructor
  · rintro (h | h | h | h)
    · exact ⟨_, .inl rfl, .inl h.symm⟩
    · exact ⟨_, .inl rfl, .inr h.symm⟩
    · exact ⟨_, .inr rfl, .inl h.symm⟩
    · exact ⟨_, .inr rfl, .inr h.symm⟩
  · rintro ⟨v, h | h, g | g⟩ <;> omega

def grown (n : Net) (l s : List Nat) : List Nat := l.filter fun b => s.contains b || s.any fun c => n.touch b c

theorem mem_grown {n : Net} {l s : List Nat} {c : Nat} : c ∈ grown n l s ↔ c ∈ l ∧ (c ∈ s ∨ ∃ d ∈ s, n.touch c d = true) := by
  unfold grown
  rw [List.mem_filter, Bool.or_eq_true, List.contains_iff_mem, List.any_eq_true]

theorem grow_zero {n : Net} {l s : List Nat} : n.grow l 0 s = s := rfl
theorem grow_succ {n : Net} {l s : List Nat} {f : Nat} : n.grow l (f + 1) s = n.grow l f (grown n l s) := rfl

theorem grow_inv {n : Net} {l : List Nat} {Q : Nat → Prop} (cl : ∀ c ∈ l, ∀ d ∈ l, Q d → n.touch c d = true → Q c) :
    ∀ (f : Nat) (s : List Nat), (∀ d ∈ s, d ∈ l ∧ Q d) → ∀ c ∈ n.grow l f s, c ∈ l ∧ Q c := by
  intro f
  induction f with
  | zero => intro s h c hc; exact h c hc
  | succ f ih =>
    intro s h c hc
    refine ih (grown n l s) (fun d hd => ?_) c hc
    obtain ⟨h1, h2⟩ := mem_grown.mp hd
    rcases h2 with h2 | ⟨e, he, h2⟩
    · exact h d h2
    · exact ⟨h1, cl d h1 e (h e he).1 (h e he).2 h2⟩

def Closed (n : Net) (l T : List Nat) : Prop := ∀ c ∈ l, ∀ d ∈ T, n.touch c d = true → c ∈ T

theorem grow_closed {n : Net} {l : List Nat} : ∀ (f : Nat) (s : List Nat), (∀ d ∈ s, d ∈ l) → Closed n l s → ∀ c, c ∈ n.grow l f s ↔ c ∈ s := by
  intro f
  induction f with
  | zero => intro s _ _ c; rfl
  | succ f ih =>
    intro s h cl c
    have e : ∀ c, c ∈ grown n l s ↔ c ∈ s := by
      intro c
      rw [mem_grown]
      constructor
      · rintro ⟨h1, h2 | ⟨d, hd, h2⟩⟩
        · exact h2
        · exact cl c h1 d hd h2
      · intro hc; exact ⟨h c hc, .inl hc⟩
    rw [grow_succ, ih (grown n l s) (fun d hd => (mem_grown.mp hd).1) (fun c hc d hd t => (e c).mpr (cl c hc d ((e d).mp hd) t)) c]
    exact e c

theorem grow_full {n : Net} {l : List Nat} (ndl : l.Nodup) : ∀ (f : Nat) (s : List Nat), s.Nodup → (∀ d ∈ s, d ∈ l) → l.length ≤ s.length + f →
    Closed n l (n.grow l f s) ∧ ∀ d ∈ s, d ∈ n.grow l f s := by
  intro f
  induction f with
  | zero =>
    intro s nd h le
    refine ⟨fun c hc _ _ _ => nd_ge nd h (by omega) c hc, fun d hd => hd⟩
  | succ f ih =>
    intro s nd h le
    have nd' : (grown n l s).Nodup := ndl.filter _
    have sub : ∀ d ∈ s, d ∈ grown n l s := fun d hd => mem_grown.mpr ⟨h d hd, .inl hd⟩
    have h' : ∀ d ∈ grown n l s, d ∈ l := fun d hd => (mem_grown.mp hd).1
    by_cases q : s.length < (grown n l s).length
    · have := ih (grown n l s) nd' h' (by omega)
      exact ⟨this.1, fun d hd => this.2 d (sub d hd)⟩
    · have back := nd_ge nd sub (by omega)
      have cl : Closed n l s := fun c hc d hd t => back c (mem_grown.mpr ⟨hc, .inr ⟨d, hd, t⟩⟩)
      have e := grow_closed (f + 1) s h cl
      exact ⟨fun c hc d hd t => (e c).mpr (cl c hc d ((e d).mp hd) t), fun d hd => (e d).mpr hd⟩

theorem grow_nodup {n : Net} {l : List Nat} (ndl : l.Nodup) : ∀ (f : Nat) (s : List Nat), s.Nodup → (n.grow l f s).Nodup
  | 0, _, nd => nd
  | f + 1, s, _ => grow_nodup ndl f (grown n l s) (ndl.filter _)

theorem joined_iff {n : Net} (o : Ok n) {l : List Nat} (fine : Fine n l) : n.joined l = true ↔ Whole n l := by
  cases hl : l with
  | nil => exact ⟨fun _ a ha => (by cases ha), fun _ => rfl⟩
  | cons b l0 =>
    show ((n.grow (b :: l0) (b :: l0).length [b]).length == (b :: l0).length) = true ↔ _
    rw [← hl, beq_iff_eq]
    have hb : b ∈ l := by rw [hl]; exact List.mem_cons_self ..
    have ndb : [b].Nodup := by simp
    have sub : ∀ d ∈ [b], d ∈ l := fun d hd => by rw [List.mem_singleton.mp hd]; exact hb
    have cl : ∀ c ∈ l, ∀ d ∈ l, R n l (n.ends b).1 (n.ends d).1 → n.touch c d = true → R n l (n.ends b).1 (n.ends c).1 := by
      intro c hc d hd r t
      obtain ⟨v, h1, h2⟩ := touch_iff.mp t
      have r2 := R.ends hd (.inl rfl) r
      refine (R.ends hc h1 ?_).1
      rcases h2 with h2 | h2
      · rw [← h2]; exact r2.1
      · rw [← h2]; exact r2.2
    have inv := grow_inv cl l.length [b] (fun d hd => by
      rw [List.mem_singleton.mp hd]; exact ⟨hb, R.refl⟩)
    have nd := grow_nodup (n := n) fine.nd l.length [b] ndb
    constructor
    · intro h
      have all := nd_ge nd (fun c hc => (inv c hc).1) (by omega)
      have from_b : ∀ c ∈ l, R n l (n.ends b).1 (n.ends c).1 := fun c hc => (inv c (all c hc)).2
      exact fun x hx y hy => R.trans ((from_b x hx).symm o fine.lt) (from_b y hy)
    · intro wh
      obtain ⟨full, has⟩ := grow_full (n := n) fine.nd l.length [b] ndb sub (by omega)
      have come : ∀ v, R n l (n.ends b).1 v → ∀ c ∈ l, ((n.ends c).1 = v ∨ (n.ends c).2 = v) → c ∈ n.grow l l.length [b] := by
        intro v r
        induction r with
        | refl =>
          intro c hc h
          exact full c hc b (has b (by simp)) (touch_iff.mpr ⟨_, h, .inl rfl⟩)
        | @step a x v r hx e ih =>
          intro c hc h
          rw [over_some] at e
          have hxa : (n.ends x).1 = a ∨ (n.ends x).2 = a := by omega
          have hxv : (n.ends x).1 = v ∨ (n.ends x).2 = v := by omega
          exact full c hc x (ih x hx hxa) (touch_iff.mpr ⟨v, h, hxv⟩)
      refine Nat.le_antisymm (nd_le _ _ nd fun c hc => (inv c hc).1) (nd_le _ _ fine.nd fun c hc => ?_)
      exact come _ (wh b hb c hc) c hc (.inl rfl)

/-- **It goes in one go**, said three ways. -/
theorem goes_iff {n : Net} (o : Ok n) {l : List Nat} (fine : Fine n l) : n.goes l = true ↔ (n.odd l).length ≤ 2 ∧ Whole n l := by
  unfold Net.goes
  rw [Bool.and_eq_true, Bool.and_eq_true, decide_eq_true_iff, joined_iff o fine, way_iff o fine]
  exact ⟨fun h => ⟨h.1, h.2.1⟩, fun h => ⟨h.1, h.2, h⟩⟩

theorem goes_way {n : Net} (o : Ok n) {l : List Nat} (fine : Fine n l) : n.goes l = (n.way l).isSome := by
  rw [Bool.eq_iff_iff, goes_iff o fine, way_iff o fine]
end Eul

set_option Elab.async false
/- The list of calls, call by call; what stays true of the net. -/
namespace Cal
open Uw24 Eul

theorem calls_nil {sh : Int → Option (Nat × Nat)} {f : Nat} : PyFlat.calls sh f [] = some [] := by cases f <;> rfl
theorem calls_succ {sh : Int → Option (Nat × Nat)} {f : Nat} {p : Int} {r : List Int} : PyFlat.calls sh (f + 1) (p :: r) =
    match PyFlat.call sh (p :: r) with
    | none => none
    | some (c, t) => match PyFlat.calls sh f t with
      | none => none
      | some cs => some (c :: cs) := rfl

theorem row_len {r x s : List Int} (h : PyFlat.row r = some (x, s)) : s.length < r.length := by
  cases r with
  | nil => cases h
  | cons n r =>
    simp only [PyFlat.row] at h
    split at h
    · cases h; rw [List.length_drop, List.length_cons]; omega
    · cases h

theorem rows_len : ∀ (k : Nat) {r s : List Int} {x : List (List Int)}, PyFlat.rows k r = some (x, s) → s.length ≤ r.length
  | 0, r, s, x, h => by simp only [PyFlat.rows] at h; cases h; exact Nat.le_refl _
  | k + 1, r, s, x, h => by
    simp only [PyFlat.rows] at h
    split at h
    · cases h
    · rename_i x' s' e
      split at h
      · cases h
      · rename_i xs t e'
        cases h
        have := row_len e
        have := rows_len k e'
        omega

theorem call_len {sh : Int → Option (Nat × Nat)} {p : Int} {r t : List Int} {c : List (List Int)} (h : PyFlat.call sh (p :: r) = some (c, t)) : t.length ≤ r.length := by
  simp only [PyFlat.call] at h
  split at h
  · cases h
  · split at h
    · cases h
    · split at h
      · cases h
      · rename_i xs t' e
        cases h
        have := rows_len _ e
        rw [List.length_drop] at this
        omega

/-- The first number is enough. -/
theorem calls_fuel {sh : Int → Option (Nat × Nat)} : ∀ (f g : Nat) (l : List Int), l.length ≤ f → l.length ≤ g → PyFlat.calls sh f l = PyFlat.calls sh g l := by
  intro f
  induction f with
  | zero =>
    intro g l hf _
    have : l = [] := List.length_eq_zero_iff.mp (by omega)
    subst this; rw [calls_nil, calls_nil]
  | succ f ih =>
    intro g l hf hg
    cases l with
    | nil => rw [calls_nil, calls_nil]
    | cons p r =>
      cases g with
      | zero => simp at hg
      | succ g =>
        rw [calls_succ, calls_succ]
        cases hc : PyFlat.call sh (p :: r) with
        | none => rfl
        | some ct =>
          obtain ⟨c, t⟩ := ct
          have := call_len hc
          rw [List.length_cons] at hf hg
          simp only
          rw [ih g t (by omega) (by omega)]

/-- What is handed in, or what is left of it. -/
def Good (l : List Int) : Prop := ∃ cs, PyFlat.calls PyUw24.shape l.length l = some cs ∧ PyInside.calls PyUw24.bound cs = true

/-- What is due for what is left. -/
def due (n : Net) (l : List Int) : List Int := match PyFlat.calls PyUw24.shape l.length l with
  | none => []
  | some cs => PyFlat.told (PyFlat.played (fun s c => Uw24Neutral.step s (c.headD [])) n (cs.map PyUw24.whole))

theorem answers_due (l : List Int) : PyUw24.answers l = due init l := by
  unfold PyUw24.answers due PyUw24.calls
  cases PyFlat.calls PyUw24.shape l.length l with
  | none => rfl
  | some cs => rfl

theorem asked_good {l : List Int} (h : PyUw24.answers_asked l = true) : Good l := by
  unfold PyUw24.answers_asked at h
  split at h
  · cases h
  · rename_i raw e
    simp only [Bool.and_eq_true] at h
    exact ⟨raw, e, h.1.1.2⟩

theorem due_nil {n : Net} : due n [] = [] := rfl

def tell (a : Ans) : List Int := ((Uw24Neutral.out a).length : Int) :: Uw24Neutral.out a

abbrev nts (m : List Nat) : List Int := m.map fun (x : Nat) => (x : Int)

/-- A call, what stands behind its number, and what is left. -/
inductive Shape : Int → List Int → Call → List Int → Prop where
  | begins (w h : Nat) (t : List Int) : w ≤ 4294967295 → h ≤ 4294967295 → Shape 0 ((w : Int) :: (h : Int) :: t) (.begins w h) t
  | tear (b : Nat) (t : List Int) : b ≤ 4294967295 → Shape 1 ((b : Int) :: t) (.tear b) t
  | mend (b : Nat) (t : List Int) : b ≤ 4294967295 → Shape 2 ((b : Int) :: t) (.mend b) t
  | ends (b : Nat) (t : List Int) : b ≤ 4294967295 → Shape 3 ((b : Int) :: t) (.ends b) t
  | odd (t : List Int) : Shape 4 t .odd t
  | check (m : List Nat) (t : List Int) : m.length ≤ 30 → (∀ x ∈ m, x ≤ 4294967295) → Shape 5 ((m.length : Int) :: (nts m ++ t)) (.check m) t
  | best (t : List Int) : Shape 6 t .best t

theorem due_step {n : Net} {p : Int} {r t : List Int} {c : List (List Int)} {l : List Int} {x : Call}
    (h : PyFlat.call PyUw24.shape (p :: r) = some (c, t)) (g : Good (p :: r)) (e : (PyUw24.whole c).headD [] = l) (hx : Uw24Neutral.callOf l = some x) :
    Good t ∧ due n (p :: r) = tell (Uw24.step n x).2 ++ due (Uw24.step n x).1 t := by
  obtain ⟨cs, h1, h2⟩ := g
  have hlen := call_len h
  rw [List.length_cons, calls_succ, h] at h1
  simp only at h1
  split at h1
  · cases h1
  · rename_i cs' e'
    cases h1
    rw [calls_fuel r.length t.length t hlen (Nat.le_refl _)] at e'
    have h2' : PyInside.calls PyUw24.bound cs' = true := by
      unfold PyInside.calls at h2 ⊢
      rw [List.all_cons, Bool.and_eq_true] at h2
      exact h2.2
    refine ⟨⟨cs', e', h2'⟩, ?_⟩
    have d1 : PyFlat.calls PyUw24.shape (p :: r).length (p :: r) = some (c :: cs') := by
      rw [List.length_cons, calls_succ, h]
      simp only
      rw [calls_fuel r.length t.length t hlen (Nat.le_refl _), e']
    unfold due
    rw [d1, e']
    simp only [List.map_cons, PyFlat.played, PyFlat.told, List.flatMap_cons]
    have st : Uw24Neutral.step n ((PyUw24.whole c).headD []) = ((Uw24.step n x).1, Uw24Neutral.out (Uw24.step n x).2) := by
      unfold Uw24Neutral.step
      rw [e, hx]
    rw [st]
    rfl

theorem inside_head {p : Int} {r t : List Int} {c : List (List Int)} (h : PyFlat.call PyUw24.shape (p :: r) = some (c, t)) (g : Good (p :: r)) :
    PyInside.call PyUw24.bound c = true := by
  obtain ⟨cs, h1, h2⟩ := g
  rw [List.length_cons, calls_succ, h] at h1
  simp only at h1
  split at h1
  · cases h1
  · cases h1
    unfold PyInside.calls at h2
    rw [List.all_cons, Bool.and_eq_true] at h2
    exact h2.1

theorem within_iff {lo hi z : Int} : PyInside.within lo hi z = true ↔ lo ≤ z ∧ z ≤ hi := by
  unfold PyInside.within
  rw [Bool.and_eq_true, decide_eq_true_iff, decide_eq_true_iff]

theorem nat_iff {z : Int} : Uw24Neutral.nat z = true ↔ 0 ≤ z ∧ z < 2 ^ 32 := by
  unfold Uw24Neutral.nat
  rw [Bool.and_eq_true, decide_eq_true_iff, decide_eq_true_iff]

theorem callOf_ints {l : List Int} (h : ∀ z ∈ l, 0 ≤ z ∧ z ≤ 4294967295) : Uw24Neutral.callOf l = Uw24Neutral.callIn (l.map Int.toNat) := by
  unfold Uw24Neutral.callOf
  rw [if_neg]
  rw [Bool.not_eq_false, List.all_eq_true]
  intro z hz
  rw [nat_iff]
  have := h z hz
  omega

theorem to_nat {z : Int} (h : PyInside.within 0 4294967295 z = true) : ∃ k : Nat, z = k ∧ k ≤ 4294967295 := by
  rw [within_iff] at h
  exact ⟨z.toNat, by omega, by omega⟩

theorem to_nats : ∀ {l : List Int}, (l.all (PyInside.within 0 4294967295)) = true → ∃ m : List Nat, l = nts m ∧ ∀ x ∈ m, x ≤ 4294967295
  | [], _ => ⟨[], rfl, by simp⟩
  | z :: l, h => by
    rw [List.all_cons, Bool.and_eq_true] at h
    obtain ⟨k, e, hk⟩ := to_nat h.1
    obtain ⟨m, e', hm⟩ := to_nats h.2
    refine ⟨k :: m, by rw [e, e']; rfl, ?_⟩
    intro x hx
    rcases List.mem_cons.mp hx with rfl | hx
    · exact hk
    · exact hm x hx

theorem ints_toNat (m : List Nat) : (nts m).map Int.toNat = m := by
  induction m with
  | nil => rfl
  | cons x m ih => simp only [nts, List.map_cons] at ih ⊢; rw [ih]; rfl

theorem shape_cases {p : Int} {s : Nat × Nat} (h : PyUw24.shape p = some s) :
    (p = 0 ∧ s = (2, 0)) ∨ (p = 1 ∧ s = (1, 0)) ∨ (p = 2 ∧ s = (1, 0)) ∨ (p = 3 ∧ s = (1, 0)) ∨ (p = 4 ∧ s = (0, 0)) ∨ (p = 5 ∧ s = (0, 1)) ∨ (p = 6 ∧ s = (0, 0)) := by
  unfold PyUw24.shape at h
  repeat' split at h
  all_goals first | (cases h; done) | (injection h with h; subst h; simp_all)

theorem good_call {p : Int} {r : List Int} (g : Good (p :: r)) : ∃ c t, PyFlat.call PyUw24.shape (p :: r) = some (c, t) := by
  obtain ⟨cs, h1, h2⟩ := g
  rw [List.length_cons, calls_succ] at h1
  cases h : PyFlat.call PyUw24.shape (p :: r) with
  | none => rw [h] at h1; cases h1
  | some ct => exact ⟨ct.1, ct.2, rfl⟩

/-- **The next call.** -/
theorem next {p : Int} {r : List Int} (g : Good (p :: r)) : ∃ x t, Shape p r x t ∧ Good t ∧
    ∀ n, due n (p :: r) = tell (Uw24.step n x).2 ++ due (Uw24.step n x).1 t := by
  obtain ⟨c, t, h⟩ := good_call g
  have ins := inside_head h g
  have ds := fun n l x => @due_step n p r t c l x h g
  have h' := h
  simp only [PyFlat.call] at h
  split at h
  · cases h
  · rename_i nn k hs
    rcases shape_cases hs with ⟨rfl, e⟩ | ⟨rfl, e⟩ | ⟨rfl, e⟩ | ⟨rfl, e⟩ | ⟨rfl, e⟩ | ⟨rfl, e⟩ | ⟨rfl, e⟩ <;> cases e
    · match r, h, ins, ds, h' with
      | [], h, _, _, _ => simp at h
      | [_], h, _, _, _ => simp at h
      | w :: z :: r, h, ins, ds, h' =>
        simp [PyFlat.rows] at h
        obtain ⟨h1, h2⟩ := h
        subst h1; subst h2
        simp only [PyInside.call, PyUw24.bound, PyInside.each, PyInside.lists, if_true, Bool.and_true, Bool.and_eq_true] at ins
        obtain ⟨w, rfl, hw⟩ := to_nat ins.1
        obtain ⟨z, rfl, hz⟩ := to_nat ins.2
        have cx : Uw24Neutral.callOf [0, (w : Int), (z : Int)] = some (.begins w z) := by
          rw [callOf_ints (by simp; omega)]
          simp [Uw24Neutral.callIn]
        have d := fun n => ds n _ _ rfl cx
        exact ⟨_, _, Shape.begins w z r hw hz, (d init).1, fun n => (d n).2⟩
    · match r, h, ins, ds, h' with
      | [], h, _, _, _ => simp at h
      | w :: r, h, ins, ds, h' =>
        simp [PyFlat.rows] at h
        obtain ⟨h1, h2⟩ := h
        subst h1; subst h2
        simp [PyInside.call, PyUw24.bound, PyInside.each, PyInside.lists] at ins
        obtain ⟨w, rfl, hw⟩ := to_nat ins
        have cx : Uw24Neutral.callOf [1, (w : Int)] = some (.tear w) := by
          rw [callOf_ints (by simp; omega)]
          simp [Uw24Neutral.callIn]
        have d := fun n => ds n _ _ rfl cx
        exact ⟨_, _, Shape.tear w r hw, (d init).1, fun n => (d n).2⟩
    · match r, h, ins, ds, h' with
      | [], h, _, _, _ => simp at h
      | w :: r, h, ins, ds, h' =>
        simp [PyFlat.rows] at h
        obtain ⟨h1, h2⟩ := h
        subst h1; subst h2
        simp [PyInside.call, PyUw24.bound, PyInside.each, PyInside.lists] at ins
        obtain ⟨w, rfl, hw⟩ := to_nat ins
        have cx : Uw24Neutral.callOf [2, (w : Int)] = some (.mend w) := by
          rw [callOf_ints (by simp; omega)]
          simp [Uw24Neutral.callIn]
        have d := fun n => ds n _ _ rfl cx
        exact ⟨_, _, Shape.mend w r hw, (d init).1, fun n => (d n).2⟩
    · match r, h, ins, ds, h' with
      | [], h, _, _, _ => simp at h
      | w :: r, h, ins, ds, h' =>
        simp [PyFlat.rows] at h
        obtain ⟨h1, h2⟩ := h
        subst h1; subst h2
        simp [PyInside.call, PyUw24.bound, PyInside.each, PyInside.lists] at ins
        obtain ⟨w, rfl, hw⟩ := to_nat ins
        have cx : Uw24Neutral.callOf [3, (w : Int)] = some (.ends w) := by
          rw [callOf_ints (by simp; omega)]
          simp [Uw24Neutral.callIn]
        have d := fun n => ds n _ _ rfl cx
        exact ⟨_, _, Shape.ends w r hw, (d init).1, fun n => (d n).2⟩
    · simp [PyFlat.rows] at h
      obtain ⟨h1, h2⟩ := h
      subst h1; subst h2
      have cx : Uw24Neutral.callOf [4] = some .odd := rfl
      have d := fun n => ds n _ _ rfl cx
      exact ⟨_, _, Shape.odd r, (d init).1, fun n => (d n).2⟩
    · simp only [Nat.not_lt_zero, if_false, List.drop_zero, List.take_zero] at h
      cases r with
      | nil => simp [PyFlat.rows, PyFlat.row] at h
      | cons m r =>
        simp only [PyFlat.rows, PyFlat.row] at h
        by_cases q : 0 ≤ m ∧ m.toNat ≤ r.length
        · simp only [if_pos q] at h
          simp only [Option.some.injEq, Prod.mk.injEq] at h
          obtain ⟨h1, h2⟩ := h
          subst h1; subst h2
          simp [PyInside.call, PyUw24.bound, PyInside.each, PyInside.lists, -List.all_eq_true] at ins
          obtain ⟨hl, ha⟩ := ins
          obtain ⟨ks, ek, hk⟩ := to_nats ha
          have lk : ks.length = m.toNat := by
            have := congrArg List.length ek
            rw [List.length_take, List.length_map] at this
            omega
          have cx : Uw24Neutral.callOf (5 :: nts ks) = some (.check ks) := by
            rw [callOf_ints]
            · rw [List.map_cons, ints_toNat]
              have : ks.length ≤ 30 := by omega
              simp [Uw24Neutral.callIn, this]
            · intro z hz
              rcases List.mem_cons.mp hz with rfl | hz
              · omega
              · obtain ⟨x, hx, rfl⟩ := List.mem_map.mp hz
                have := hk x hx
                omega
          have d := fun n => ds n (5 :: nts ks) _ (by rw [ek]; rfl) cx
          have er : m :: r = (ks.length : Int) :: (nts ks ++ r.drop m.toNat) := by
            rw [← ek, List.take_append_drop, lk]
            congr 1
            omega
          refine ⟨.check ks, r.drop m.toNat, ?_, (d init).1, fun n => (d n).2⟩
          rw [er]
          exact Shape.check ks _ (by omega) hk
        · simp only [if_neg q] at h
          cases h
    · simp [PyFlat.rows] at h
      obtain ⟨h1, h2⟩ := h
      subst h1; subst h2
      have cx : Uw24Neutral.callOf [6] = some .best := rfl
      have d := fun n => ds n _ _ rfl cx
      exact ⟨_, _, Shape.best r, (d init).1, fun n => (d n).2⟩
end Cal

set_option Elab.async false
/- What stays true of the net; sets of bars; the order of the bars does not matter. -/
namespace Cal
open Uw24 Eul

structure Inv (n : Net) : Prop where
  ok : Ok n
  sorted : n.torn.Pairwise (· < ·)
  lt : ∀ b ∈ n.torn, b < n.bars
  most : n.torn.length ≤ 8

theorem nodup_of_lt {l : List Nat} (h : l.Pairwise (· < ·)) : l.Nodup :=
  h.imp fun h => by omega

theorem Inv.fine {n : Net} (h : Inv n) : Fine n n.torn := ⟨nodup_of_lt h.sorted, h.lt⟩

theorem mem_insert {b c : Nat} : ∀ {l : List Nat}, c ∈ insert_ b l ↔ c = b ∨ c ∈ l
  | [] => by simp [insert_]
  | d :: l => by
    simp only [insert_]
    split
    · simp
    · rw [List.mem_cons, mem_insert (l := l), List.mem_cons]
      constructor
      · rintro (h | h | h)
        · exact .inr (.inl h)
        · exact .inl h
        · exact .inr (.inr h)
      · rintro (h | h | h)
        · exact .inr (.inl h)
        · exact .inl h
        · exact .inr (.inr h)

theorem insert_sorted {b : Nat} : ∀ {l : List Nat}, l.Pairwise (· < ·) → b ∉ l → (insert_ b l).Pairwise (· < ·)
  | [], _, _ => by simp [insert_]
  | d :: l, h, hb => by
    simp only [insert_]
    rw [List.pairwise_cons] at h
    split
    · rename_i q
      rw [List.pairwise_cons]
      refine ⟨fun c hc => ?_, List.pairwise_cons.mpr h⟩
      rcases List.mem_cons.mp hc with rfl | hc
      · exact q
      · have := h.1 c hc; omega
    · rename_i q
      rw [List.pairwise_cons]
      refine ⟨fun c hc => ?_, insert_sorted h.2 (fun q => hb (List.mem_cons_of_mem _ q))⟩
      rcases mem_insert.mp hc with rfl | hc
      · have : c ≠ d := fun e => hb (e ▸ List.mem_cons_self ..)
        omega
      · exact h.1 c hc

theorem insert_perm {b : Nat} : ∀ (l : List Nat), (insert_ b l).Perm (b :: l)
  | [] => List.Perm.refl _
  | d :: l => by
    simp only [insert_]
    split
    · exact List.Perm.refl _
    · exact (List.Perm.cons d (insert_perm l)).trans (List.Perm.swap b d l)

theorem insert_len {b : Nat} (l : List Nat) : (insert_ b l).length = l.length + 1 := by
  rw [(insert_perm l).length_eq]; rfl

theorem init_inv : Inv init := ⟨⟨by decide, by decide, by decide, by decide⟩, List.Pairwise.nil, by simp [init], by decide⟩

/-- **What stays true of the net.** -/
theorem step_inv {n : Net} (h : Inv n) (c : Call) : Inv (step n c).1 := by
  cases c with
  | begins w z =>
    simp only [step]
    split
    · exact h
    · rename_i q
      unfold SIDE at q
      exact ⟨⟨by simp only; omega, by simp only; omega, by simp only; omega, by simp only; omega⟩, List.Pairwise.nil, by simp, by simp⟩
  | tear b =>
    simp only [step]
    split
    · exact h
    · split
      · exact h
      · split
        · exact h
        · rename_i q1 q2 q3
          unfold TORN at q3
          have hb : b ∉ n.torn := by rw [List.contains_iff_mem] at q2; exact q2
          refine ⟨⟨h.ok.w2, h.ok.w4, h.ok.h2, h.ok.h4⟩, insert_sorted h.sorted hb, ?_, ?_⟩
          · intro c hc
            have : c < n.bars := by
              rcases mem_insert.mp hc with rfl | hc
              · omega
              · exact h.lt c hc
            exact this
          · simp only [insert_len]; omega
  | mend b =>
    simp only [step]
    split
    · exact h
    · split
      · exact h
      · refine ⟨⟨h.ok.w2, h.ok.w4, h.ok.h2, h.ok.h4⟩, h.sorted.filter _, ?_, ?_⟩
        · intro c hc
          exact h.lt c (List.mem_filter.mp hc).1
        · exact Nat.le_trans (List.length_filter_le ..) h.most
  | ends b => simp only [step]; split <;> exact h
  | odd => exact h
  | check w => simp only [step]; split <;> exact h
  | best => exact h

/-! Sets of bars. -/
theorem mem_some {s : List Nat} : ∀ {k : Nat} {l : List Nat}, s ∈ some_ k l ↔ s.Sublist l ∧ s.length = k
  | 0, l => by
    simp only [some_, List.mem_singleton, List.length_eq_zero_iff]
    exact ⟨fun h => ⟨h ▸ List.nil_sublist _, h⟩, fun h => h.2⟩
  | k + 1, [] => by
    simp only [some_, List.not_mem_nil, List.sublist_nil, false_iff]
    rintro ⟨rfl, h⟩
    cases h
  | k + 1, b :: l => by
    simp only [some_, List.mem_append, List.mem_map]
    rw [mem_some (k := k + 1) (l := l)]
    constructor
    · rintro (⟨r, hr, rfl⟩ | h)
      · rw [mem_some] at hr
        exact ⟨hr.1.cons_cons b, by rw [List.length_cons, hr.2]⟩
      · exact ⟨h.1.cons b, h.2⟩
    · rintro ⟨h, e⟩
      cases h with
      | cons _ h => exact .inr ⟨h, e⟩
      | @cons_cons r _ _ h =>
        rw [List.length_cons] at e
        exact .inl ⟨r, mem_some.mpr ⟨h, by omega⟩, rfl⟩

theorem mem_sound {n : Net} {b : Nat} : b ∈ n.sound ↔ b < n.bars ∧ b ∉ n.torn := by
  unfold Net.sound
  rw [List.mem_filter, List.mem_range]
  simp

theorem sound_sorted {n : Net} : n.sound.Pairwise (· < ·) := List.Pairwise.filter _ List.pairwise_lt_range

theorem fine_cut {n : Net} (h : Inv n) {s : List Nat} (hs : s.Sublist n.sound) : Fine n (n.torn ++ s) := by
  have nd : s.Nodup := nodup_of_lt (sound_sorted.sublist hs)
  refine ⟨List.nodup_append.mpr ⟨h.fine.nd, nd, fun a ha b hb e => ?_⟩, fun b hb => ?_⟩
  · subst e
    exact (mem_sound.mp (hs.subset hb)).2 ha
  · rcases List.mem_append.mp hb with hb | hb
    · exact h.lt b hb
    · exact (mem_sound.mp (hs.subset hb)).1

/-! The order of the bars does not matter. -/
theorem odd_perm {n : Net} {l m : List Nat} (h : l.Perm m) : n.odd l = n.odd m := by
  unfold Net.odd
  have : (fun k => n.legs l k % 2 == 1) = fun k => n.legs m k % 2 == 1 := funext fun k => by rw [legs_perm h]
  rw [this]

theorem whole_perm {n : Net} {l m : List Nat} (h : l.Perm m) : Whole n l ↔ Whole n m := by
  constructor
  · intro w a ha b hb; exact (R.perm h).mp (w a (h.mem_iff.mpr ha) b (h.mem_iff.mpr hb))
  · intro w a ha b hb; exact (R.perm h).mpr (w a (h.mem_iff.mp ha) b (h.mem_iff.mp hb))

theorem find_perm {n : Net} (o : Ok n) {l m : List Nat} (f : Fine n l) (h : l.Perm m) (k j : Nat) :
    (l.find? fun y => n.over k y == some j) = m.find? fun y => n.over k y == some j := by
  by_cases q : ∃ x ∈ l, n.over k x = some j
  · obtain ⟨x, hx, e⟩ := q
    rw [find_over o f.lt hx e, find_over o (f.perm h).lt (h.mem_iff.mp hx) e]
  · have h1 : (l.find? fun y => n.over k y == some j) = none := by
      rw [List.find?_eq_none]
      intro x hx e
      exact q ⟨x, hx, by simpa using e⟩
    have h2 : (m.find? fun y => n.over k y == some j) = none := by
      rw [List.find?_eq_none]
      intro x hx e
      exact q ⟨x, h.mem_iff.mpr hx, by simpa using e⟩
    rw [h1, h2]

theorem first_perm {n : Net} (o : Ok n) : ∀ (f : Nat) (l m : List Nat) (k : Nat), Fine n l → l.Perm m → n.first f l k = n.first f m k := by
  intro f
  induction f with
  | zero =>
    intro l m k _ h
    cases l with
    | nil => rw [List.nil_perm.mp h]
    | cons b l =>
      cases m with
      | nil => exact absurd (List.perm_nil.mp h) (by simp)
      | cons c m => rfl
  | succ f ih =>
    intro l m k fine h
    cases hl : l with
    | nil => subst hl; rw [List.nil_perm.mp h]
    | cons b l0 =>
      cases hm : m with
      | nil => rw [hm] at h; rw [List.perm_nil.mp h] at hl; cases hl
      | cons c m0 =>
        rw [first_succ, first_succ, ← hl, ← hm]
        congr 1
        funext j
        rw [find_perm o fine h k j]
        split
        · rename_i x hx
          rw [ih _ _ j (fine.filter _) (h.filter _)]
        · rfl

theorem way_perm {n : Net} (o : Ok n) {l m : List Nat} (f : Fine n l) (h : l.Perm m) : n.way l = n.way m := by
  cases hl : l with
  | nil => subst hl; rw [List.nil_perm.mp h]
  | cons b l0 =>
    cases hm : m with
    | nil => rw [hm] at h; rw [List.perm_nil.mp h] at hl; cases hl
    | cons c m0 =>
      rw [way_cons, way_cons, ← hl, ← hm, h.length_eq]
      congr 1
      funext k
      exact first_perm o _ l m k f h

theorem goes_perm {n : Net} (o : Ok n) {l m : List Nat} (f : Fine n l) (h : l.Perm m) : n.goes l = n.goes m := by
  rw [Bool.eq_iff_iff, goes_iff o f, goes_iff o (f.perm h), odd_perm h, whole_perm h]

theorem walks_cons2 {n : Net} {l r : List Nat} {a b : Nat} : n.walks l (a :: b :: r) = match l.find? fun x => n.over a x == some b with
    | some x => n.walks (l.filter fun y => y != x) (b :: r)
    | none => false := by cases l <;> rfl

theorem walks_one {n : Net} {l : List Nat} {k : Nat} : n.walks l [k] = l.isEmpty := by cases l <;> rfl
theorem walks_none {n : Net} {l : List Nat} : n.walks l [] = l.isEmpty := by cases l <;> rfl

theorem walks_perm {n : Net} (o : Ok n) : ∀ (w l m : List Nat), Fine n l → l.Perm m → n.walks l w = n.walks m w
  | [], l, m, _, h => by
    rw [walks_none, walks_none, Bool.eq_iff_iff, List.isEmpty_iff, List.isEmpty_iff]
    exact ⟨fun e => by subst e; exact List.nil_perm.mp h, fun e => by subst e; exact List.perm_nil.mp h⟩
  | [k], l, m, _, h => by
    rw [walks_one, walks_one, Bool.eq_iff_iff, List.isEmpty_iff, List.isEmpty_iff]
    exact ⟨fun e => by subst e; exact List.nil_perm.mp h, fun e => by subst e; exact List.perm_nil.mp h⟩
  | a :: b :: r, l, m, fine, h => by
    rw [walks_cons2, walks_cons2, find_perm o fine h a b]
    split
    · exact walks_perm o (b :: r) _ _ (fine.filter _) (h.filter _)
    · rfl
end Cal

set_option Elab.async false
namespace Bit
open Uw24 Eul Cal

/-! ### The program's own words, over numbers -/
def pr (a b : Nat) : Nat := 2 ^ a ||| 2 ^ b
def kin (x : Nat) : List Nat := (List.range 16).filter fun k => x.testBit k
def xors (l : List Nat) : Nat := l.foldl (· ^^^ ·) 0
def oddk (l : List Nat) : List Nat := kin (xors l)
def ors (r : Nat) (l : List Nat) : Nat := l.foldl (· ||| ·) r
def nears (r : Nat) (l : List Nat) : List Nat := l.filter fun p => p &&& r != 0
def fars (r : Nat) (l : List Nat) : List Nat := l.filter fun p => !(p &&& r != 0)
/-- What all_reached answers. -/
def reachF : Nat → Nat → List Nat → Bool
  | 0, _, l => l.isEmpty
  | f + 1, r, l => if l = [] then true else if nears r l = [] then false else reachF f (ors r (nears r l)) (fars r l)
def reach (r : Nat) (l : List Nat) : Bool := reachF l.length r l
def hasWay (l : List Nat) : Bool := match l with
  | [] => true
  | p :: l => decide ((oddk (p :: l)).length ≤ 2) && reach p (p :: l)
def wo (l : List Nat) (g : Nat) : List Nat := l.filter fun p => p != g
def canGo (a k : Nat) (l : List Nat) : Bool := l.contains (pr a k) && reach (2 ^ k) (wo l (pr a k))

theorem split_len (r : Nat) (l : List Nat) : (nears r l).length + (fars r l).length = l.length := by
  unfold nears fars
  induction l with
  | nil => rfl
  | cons p l ih =>
    rw [List.filter_cons, List.filter_cons, List.length_cons]
    by_cases c : (p &&& r != 0) = true
    · rw [if_pos c, if_neg (by rw [c]; decide), List.length_cons]; omega
    · rw [if_neg c, if_pos (by rw [Bool.not_eq_true] at c; rw [c]; rfl), List.length_cons]; omega

theorem fars_lt {r : Nat} {l : List Nat} (h : nears r l ≠ []) : (fars r l).length < l.length := by
  have := split_len r l
  have := List.length_pos_iff.mpr h
  omega

theorem reachF_fuel : ∀ (f g r : Nat) (l : List Nat), l.length ≤ f → l.length ≤ g → reachF f r l = reachF g r l := by
  intro f
  induction f with
  | zero =>
    intro g r l h _
    have : l = [] := List.length_eq_zero_iff.mp (by omega)
    subst this
    cases g <;> rfl
  | succ f ih =>
    intro g r l h h'
    cases g with
    | zero =>
      have : l = [] := List.length_eq_zero_iff.mp (by omega)
      subst this
      rfl
    | succ g =>
      simp only [reachF]
      by_cases c : l = []
      · rw [if_pos c, if_pos c]
      · rw [if_neg c, if_neg c]
        by_cases d : nears r l = []
        · rw [if_pos d, if_pos d]
        · rw [if_neg d, if_neg d]
          have := fars_lt d
          exact ih g _ _ (by omega) (by omega)

theorem reach_nil {r : Nat} : reach r [] = true := rfl
theorem reach_stop {r : Nat} {l : List Nat} (h : l ≠ []) (e : nears r l = []) : reach r l = false := by
  cases l with
  | nil => exact absurd rfl h
  | cons p l => unfold reach; simp only [List.length_cons, reachF]; rw [if_neg h, if_pos e]
theorem reach_go {r : Nat} {l : List Nat} (e : nears r l ≠ []) : reach r l = reach (ors r (nears r l)) (fars r l) := by
  cases l with
  | nil => exact absurd rfl e
  | cons p l =>
    have lt := fars_lt e
    unfold reach
    simp only [List.length_cons, reachF]
    rw [if_neg (by simp), if_neg e]
    exact reachF_fuel _ _ _ _ (by simp only [List.length_cons] at lt; omega) (Nat.le_refl _)

/-! ### Bits -/
theorem pr_bit {a b k : Nat} : (pr a b).testBit k = (decide (a = k) || decide (b = k)) := by
  unfold pr
  rw [Nat.testBit_or, Nat.testBit_two_pow, Nat.testBit_two_pow]
theorem and_ne {p r : Nat} : (p &&& r != 0) = true ↔ ∃ k, p.testBit k = true ∧ r.testBit k = true := by
  rw [bne_iff_ne]
  constructor
  · intro h
    obtain ⟨k, hk⟩ := Nat.exists_testBit_of_ne_zero h
    rw [Nat.testBit_and, Bool.and_eq_true] at hk
    exact ⟨k, hk⟩
  · rintro ⟨k, h1, h2⟩ e
    have : (p &&& r).testBit k = true := by rw [Nat.testBit_and, h1, h2]; rfl
    rw [e, Nat.zero_testBit] at this
    cases this
theorem ors_bit {k : Nat} : ∀ {l : List Nat} {r : Nat}, (ors r l).testBit k = true ↔ r.testBit k = true ∨ ∃ p ∈ l, p.testBit k = true
  | [], r => by simp [ors]
  | p :: l, r => by
    have ih := @ors_bit k l (r ||| p)
    show (ors (r ||| p) l).testBit k = true ↔ _
    rw [ih, Nat.testBit_or, Bool.or_eq_true]
    simp only [List.mem_cons, exists_eq_or_imp, or_assoc]
/-- A bar as the program has it. -/
def pp (n : Net) (b : Nat) : Nat := pr (n.ends b).1 (n.ends b).2
theorem pp_bit {n : Net} {b k : Nat} : (pp n b).testBit k = true ↔ (n.ends b).1 = k ∨ (n.ends b).2 = k := by
  unfold pp; rw [pr_bit, Bool.or_eq_true, decide_eq_true_iff, decide_eq_true_iff]
theorem pr_comm (a b : Nat) : pr a b = pr b a := by unfold pr; exact Nat.or_comm ..
theorem pr_inj {a b c d : Nat} (h : pr a b = pr c d) (ne : c ≠ d) : (a = c ∧ b = d) ∨ (a = d ∧ b = c) := by
  have q : ∀ k, (a = k ∨ b = k) ↔ (c = k ∨ d = k) := by
    intro k
    have e := congrArg (fun z => z.testBit k) h
    simp only [pr_bit] at e
    rw [Bool.eq_iff_iff] at e
    simpa using e
  have q1 := (q c).mpr (.inl rfl)
  have q2 := (q d).mpr (.inr rfl)
  omega
theorem pp_over {n : Net} (o : Ok n) {b a k : Nat} (h : b < n.bars) : pp n b = pr a k ↔ n.over a b = some k := by
  have lt := ends_lt o h
  rw [over_some]
  constructor
  · intro e
    have := pr_inj e.symm (by omega)
    omega
  · rintro (⟨h1, h2⟩ | ⟨h1, h2, h3⟩)
    · unfold pp; rw [h1, h2]
    · unfold pp; rw [h2, h3, pr_comm]
theorem pp_inj {n : Net} (o : Ok n) {b c : Nat} (h : b < n.bars) (h' : c < n.bars) (e : pp n b = pp n c) : b = c := by
  have lt := ends_lt o h
  have lt' := ends_lt o h'
  have := pr_inj e (by omega)
  exact ends_inj o h h' (Prod.ext (by omega) (by omega))

theorem xors_bit {k : Nat} : ∀ (l : List Nat) (a : Nat), (l.foldl (· ^^^ ·) a).testBit k = (a.testBit k ^^ (l.filter fun p => p.testBit k).length % 2 == 1)
  | [], a => by simp
  | p :: l, a => by
    show (l.foldl (· ^^^ ·) (a ^^^ p)).testBit k = _
    rw [xors_bit l, Nat.testBit_xor, List.filter_cons]
    by_cases c : p.testBit k = true
    · rw [if_pos c, c, List.length_cons]
      rcases Nat.mod_two_eq_zero_or_one (l.filter fun p => p.testBit k).length with e | e
      · rw [e, show ((l.filter fun p => p.testBit k).length + 1) % 2 = 1 by omega]; cases a.testBit k <;> rfl
      · rw [e, show ((l.filter fun p => p.testBit k).length + 1) % 2 = 0 by omega]; cases a.testBit k <;> rfl
    · rw [if_neg c]; rw [Bool.not_eq_true] at c; rw [c, Bool.xor_false]

theorem legs_pp {n : Net} {k : Nat} (l : List Nat) : ((l.map (pp n)).filter fun p => p.testBit k).length = n.legs l k := by
  unfold Net.legs
  rw [List.filter_map, List.length_map]
  congr 1
  apply List.filter_congr
  intro b _
  rw [Bool.eq_iff_iff]
  simp only [Function.comp, pp_bit, Bool.or_eq_true, beq_iff_eq]

theorem range_filter {p : Nat → Bool} {m N : Nat} (h : m ≤ N) (no : ∀ k, m ≤ k → p k = false) : (List.range N).filter p = (List.range m).filter p := by
  obtain ⟨d, rfl⟩ := Nat.exists_eq_add_of_le h
  rw [List.range_add, List.filter_append]
  have : ((List.range d).map (m + ·)).filter p = [] := by
    rw [List.filter_eq_nil_iff]
    intro x hx
    obtain ⟨y, _, rfl⟩ := List.mem_map.mp hx
    rw [no _ (by omega)]
    decide
  rw [this, List.append_nil]

theorem oddk_odd {n : Net} (o : Ok n) {l : List Nat} (hl : ∀ b ∈ l, b < n.bars) : oddk (l.map (pp n)) = n.odd l := by
  unfold oddk kin Net.odd xors
  have e : (fun k => ((l.map (pp n)).foldl (· ^^^ ·) 0).testBit k) = fun k => n.legs l k % 2 == 1 := by
    funext k
    rw [xors_bit, legs_pp, Nat.zero_testBit, Bool.false_xor]
  rw [e]
  apply range_filter (knots_le o)
  intro k hk
  rw [legs_out o hl hk]
  rfl

/-! ### What is reached -/
theorem filter_pp {n : Net} {q : Nat → Bool} {l : List Nat} : (l.map (pp n)).filter q = (l.filter fun b => q (pp n b)).map (pp n) := by
  rw [List.filter_map]; rfl
theorem map_nil_iff {n : Net} {l : List Nat} : l.map (pp n) = [] ↔ l = [] := List.map_eq_nil_iff

theorem reach_iff {n : Net} (o : Ok n) {L : List Nat} (hL : ∀ b ∈ L, b < n.bars) (S : Nat → Prop) : ∀ (m : Nat) (l : List Nat) (r : Nat), l.length ≤ m →
    (∀ b ∈ l, b ∈ L) → (∀ b ∈ L, b ∉ l → r.testBit (n.ends b).1 = true ∧ r.testBit (n.ends b).2 = true) →
    (∀ k, S k → r.testBit k = true) → (∀ k, r.testBit k = true → ∃ s, S s ∧ R n L s k) →
    (reach r (l.map (pp n)) = true ↔ ∀ b ∈ L, ∃ s, S s ∧ R n L s (n.ends b).1) := by
  intro m
  induction m with
  | zero =>
    intro l r hm _ h2 _ h4
    have : l = [] := List.length_eq_zero_iff.mp (by omega)
    subst this
    refine ⟨fun _ b hb => h4 _ (h2 b hb (by simp)).1, fun _ => rfl⟩
  | succ m ih =>
    intro l r hm h1 h2 h3 h4
    by_cases e : l = []
    · subst e
      refine ⟨fun _ b hb => h4 _ (h2 b hb (by simp)).1, fun _ => rfl⟩
    · have near_iff : ∀ b, (pp n b &&& r != 0) = true ↔ r.testBit (n.ends b).1 = true ∨ r.testBit (n.ends b).2 = true := by
        intro b
        rw [and_ne]
        constructor
        · rintro ⟨k, p, q⟩
          rcases pp_bit.mp p with z | z
          · rw [z]; exact .inl q
          · rw [z]; exact .inr q
        · rintro (q | q)
          · exact ⟨_, pp_bit.mpr (.inl rfl), q⟩
          · exact ⟨_, pp_bit.mpr (.inr rfl), q⟩
      by_cases c : nears r (l.map (pp n)) = []
      · rw [reach_stop (by rw [Ne, map_nil_iff]; exact e) c]
        refine ⟨fun z => (by cases z), fun h => ?_⟩
        exfalso
        have none : ∀ b ∈ l, ¬ (r.testBit (n.ends b).1 = true ∨ r.testBit (n.ends b).2 = true) := by
          intro b hb z
          have := List.filter_eq_nil_iff.mp c (pp n b) (List.mem_map.mpr ⟨b, hb, rfl⟩)
          exact this ((near_iff b).mpr z)
        have cl : ∀ s v, S s → R n L s v → r.testBit v = true := by
          intro s v hs hr
          induction hr with
          | refl => exact h3 _ hs
          | @step a x b _ hx ov ih =>
            rcases over_some.mp ov with ⟨q1, q2⟩ | ⟨_, q1, q2⟩
            · by_cases hxl : x ∈ l
              · exact absurd (.inl (by rw [q1]; exact ih)) (none x hxl)
              · rw [← q2]; exact (h2 x hx hxl).2
            · by_cases hxl : x ∈ l
              · exact absurd (.inr (by rw [q1]; exact ih)) (none x hxl)
              · rw [← q2]; exact (h2 x hx hxl).1
        obtain ⟨b, hb⟩ := List.exists_mem_of_ne_nil l e
        obtain ⟨s, hs, hr⟩ := h b (h1 b hb)
        exact none b hb (.inl (cl s _ hs hr))
      · rw [reach_go c]
        have lt := fars_lt c
        rw [List.length_map] at lt
        have ef : fars r (l.map (pp n)) = (l.filter fun b => !(pp n b &&& r != 0)).map (pp n) := filter_pp
        have en : nears r (l.map (pp n)) = (l.filter fun b => pp n b &&& r != 0).map (pp n) := filter_pp
        rw [ef] at lt ⊢
        rw [List.length_map] at lt
        rw [en]
        have bit : ∀ k, (ors r ((l.filter fun b => pp n b &&& r != 0).map (pp n))).testBit k = true ↔
            r.testBit k = true ∨ ∃ b ∈ l, (pp n b &&& r != 0) = true ∧ ((n.ends b).1 = k ∨ (n.ends b).2 = k) := by
          intro k
          rw [ors_bit]
          constructor
          · rintro (h | ⟨p, hp, hk⟩)
            · exact .inl h
            · obtain ⟨b, hb, rfl⟩ := List.mem_map.mp hp
              exact .inr ⟨b, (List.mem_filter.mp hb).1, (List.mem_filter.mp hb).2, pp_bit.mp hk⟩
          · rintro (h | ⟨b, hb, h5, hk⟩)
            · exact .inl h
            · exact .inr ⟨pp n b, List.mem_map.mpr ⟨b, List.mem_filter.mpr ⟨hb, h5⟩, rfl⟩, pp_bit.mpr hk⟩
        apply ih
        · omega
        · exact fun b hb => h1 b (List.mem_filter.mp hb).1
        · intro b hb hn
          by_cases hbl : b ∈ l
          · have q : (pp n b &&& r != 0) = true := by
              apply Classical.byContradiction
              intro z
              rw [Bool.not_eq_true] at z
              exact hn (List.mem_filter.mpr ⟨hbl, by rw [z]; rfl⟩)
            exact ⟨(bit _).mpr (.inr ⟨b, hbl, q, .inl rfl⟩), (bit _).mpr (.inr ⟨b, hbl, q, .inr rfl⟩)⟩
          · have := h2 b hb hbl
            exact ⟨(bit _).mpr (.inl this.1), (bit _).mpr (.inl this.2)⟩
        · exact fun k hk => (bit k).mpr (.inl (h3 k hk))
        · intro k hk
          rcases (bit k).mp hk with h | ⟨b, hb, h5, h6⟩
          · exact h4 k h
          · have hbL := h1 b hb
            have joint : ∀ v, (n.ends b).1 = v ∨ (n.ends b).2 = v → r.testBit v = true → ∃ s, S s ∧ R n L s k := by
              intro v hv hr
              obtain ⟨s, hs, hR⟩ := h4 v hr
              refine ⟨s, hs, ?_⟩
              have lt := ends_lt o (hL b hbL)
              rcases hv with hv | hv <;> rcases h6 with h6 | h6
              · rw [← h6, hv]; exact hR
              · exact R.step hR hbL (over_some.mpr (.inl ⟨hv, h6⟩))
              · exact R.step hR hbL (over_some.mpr (.inr ⟨by omega, hv, h6⟩))
              · rw [← h6, hv]; exact hR
            rcases (near_iff b).mp h5 with h7 | h7
            · exact joint _ (.inl rfl) h7
            · exact joint _ (.inr rfl) h7

theorem reach_bit {n : Net} (o : Ok n) {l : List Nat} (hl : ∀ b ∈ l, b < n.bars) {k : Nat} : reach (2 ^ k) (l.map (pp n)) = true ↔ ∀ b ∈ l, R n l k (n.ends b).1 := by
  rw [reach_iff o hl (fun s => s = k) l.length l (2 ^ k) (Nat.le_refl _) (fun _ h => h) (fun b hb h => absurd hb h)
    (fun s hs => by rw [hs, Nat.testBit_two_pow]; exact decide_eq_true rfl)
    (fun s hs => ⟨k, rfl, by rw [Nat.testBit_two_pow] at hs; rw [← of_decide_eq_true hs]; exact R.refl⟩)]
  exact ⟨fun h b hb => by obtain ⟨s, hs, r⟩ := h b hb; rw [← hs]; exact r, fun h b hb => ⟨k, rfl, h b hb⟩⟩

theorem hasWay_goes {n : Net} (o : Ok n) {l : List Nat} (f : Fine n l) : hasWay (l.map (pp n)) = n.goes l := by
  rw [Bool.eq_iff_iff, goes_iff o f]
  cases hl : l with
  | nil => exact ⟨fun _ => ⟨by rw [show n.odd [] = [] from List.filter_eq_nil_iff.mpr (fun k _ => by rw [legs_nil]; decide)]; exact Nat.zero_le _, fun a ha => (by cases ha)⟩, fun _ => rfl⟩
  | cons c l' =>
    show (decide ((oddk ((c :: l').map (pp n))).length ≤ 2) && reach (pp n c) ((c :: l').map (pp n))) = true ↔ _
    have cm : c ∈ l := by rw [hl]; exact List.mem_cons_self ..
    rw [← hl]
    have hb := f.lt
    rw [oddk_odd o hb, Bool.and_eq_true, decide_eq_true_iff]
    have r2 : R n l (n.ends c).1 (n.ends c).2 := R.step R.refl cm (over_some.mpr (.inl ⟨rfl, rfl⟩))
    rw [reach_iff o hb (fun s => (n.ends c).1 = s ∨ (n.ends c).2 = s) l.length l (pp n c) (Nat.le_refl _) (fun _ h => h) (fun b hb h => absurd hb h)
      (fun s hs => pp_bit.mpr hs) (fun s hs => ⟨s, pp_bit.mp hs, R.refl⟩)]
    have key : (∀ b ∈ l, ∃ s, ((n.ends c).1 = s ∨ (n.ends c).2 = s) ∧ R n l s (n.ends b).1) ↔ ∀ b ∈ l, R n l (n.ends c).1 (n.ends b).1 := by
      constructor
      · intro h b hb
        obtain ⟨s, hs | hs, hr⟩ := h b hb
        · rw [hs]; exact hr
        · rw [← hs] at hr; exact r2.trans hr
      · exact fun h b hb => ⟨_, .inl rfl, h b hb⟩
    rw [key]
    refine and_congr Iff.rfl ⟨fun h a ha b hb' => ?_, fun h b hb' => h c cm b hb'⟩
    exact (R.symm o hb (h a ha)).trans (h b hb')
end Bit

set_option Elab.async false
namespace Bit
open Uw24 Eul Cal

theorem findSome_range {α : Type} {g : Nat → Option α} : ∀ {N : Nat} {w : α}, (List.range N).findSome? g = some w → ∃ k, k < N ∧ g k = some w ∧ ∀ j, j < k → g j = none
  | 0, w, h => by cases h
  | N + 1, w, h => by
    rw [List.range_succ, List.findSome?_append] at h
    cases e : (List.range N).findSome? g with
    | some w' =>
      rw [e] at h
      cases h
      obtain ⟨k, h1, h2, h3⟩ := findSome_range e
      exact ⟨k, by omega, h2, h3⟩
    | none =>
      rw [e] at h
      have no := List.findSome?_eq_none_iff.mp e
      refine ⟨N, by omega, ?_, fun j hj => no j (List.mem_range.mpr hj)⟩
      cases q : g N with
      | none => simp [q] at h
      | some w' => simpa [q] using h

/-- the bars without one -/
abbrev less (l : List Nat) (x : Nat) : List Nat := l.filter fun y => y != x
theorem mem_less {l : List Nat} {x b : Nat} : b ∈ less l x ↔ b ∈ l ∧ b ≠ x := by rw [List.mem_filter, bne_iff_ne]
theorem wo_less {n : Net} (o : Ok n) {l : List Nat} (hl : ∀ b ∈ l, b < n.bars) {a k x : Nat} (hx : x ∈ l) (e : n.over a x = some k) :
    wo (l.map (pp n)) (pr a k) = (less l x).map (pp n) := by
  unfold wo less
  rw [filter_pp]
  congr 1
  apply List.filter_congr
  intro b hb
  rw [Bool.eq_iff_iff, bne_iff_ne, bne_iff_ne, Ne, Ne, ← (pp_over o (hl x hx)).mpr e]
  exact not_congr ⟨fun q => pp_inj o (hl b hb) (hl x hx) q, fun q => by rw [q]⟩
theorem canGo_iff {n : Net} (o : Ok n) {l : List Nat} (hl : ∀ b ∈ l, b < n.bars) {a k : Nat} :
    canGo a k (l.map (pp n)) = true ↔ ∃ x ∈ l, n.over a x = some k ∧ ∀ b ∈ less l x, R n (less l x) k (n.ends b).1 := by
  unfold canGo
  rw [Bool.and_eq_true, List.contains_iff_mem]
  constructor
  · rintro ⟨h1, h2⟩
    obtain ⟨x, hx, e⟩ := List.mem_map.mp h1
    have ov := (pp_over o (hl x hx)).mp e
    rw [wo_less o hl hx ov, reach_bit o (fun b hb => hl b (mem_less.mp hb).1)] at h2
    exact ⟨x, hx, ov, h2⟩
  · rintro ⟨x, hx, ov, h2⟩
    refine ⟨List.mem_map.mpr ⟨x, hx, (pp_over o (hl x hx)).mpr ov⟩, ?_⟩
    rw [wo_less o hl hx ov, reach_bit o (fun b hb => hl b (mem_less.mp hb).1)]
    exact h2

theorem less_len {l : List Nat} (nd : l.Nodup) {x : Nat} (hx : x ∈ l) : (less l x).length + 1 = l.length := by
  have q : l.length = (x :: less l x).length := (perm_take nd hx).length_eq
  rw [List.length_cons] at q
  omega

/-- from a knot with a way, over a bar: when the way goes on -/
theorem goes_on {n : Net} (o : Ok n) {l : List Nat} (f : Fine n l) {a x k : Nat} (hx : x ∈ l) (ov : n.over a x = some k)
    (h : (n.first l.length l a).isSome = true) :
    (n.first (less l x).length (less l x) k).isSome = true ↔ ∀ b ∈ less l x, R n (less l x) k (n.ends b).1 := by
  rw [first_iff o (f.filter _) (Nat.le_refl _)]
  refine ⟨fun z => z.1, fun z => ⟨z, ?_⟩⟩
  obtain ⟨_, t, ht⟩ := (first_iff o f (Nat.le_refl _)).mp h
  refine ⟨t, fun v => ?_⟩
  have e1 := ht v
  rw [legs_perm (perm_take f.nd hx), legs_cons, at_over o (f.lt x hx) ov v] at e1
  have ne := over_ne o (f.lt x hx) ov
  show n.legs (less l x) v % 2 = _
  have e2 : n.legs (l.filter fun y => y != x) v = n.legs (less l x) v := rfl
  rw [e2] at e1
  revert e1
  repeat' split
  all_goals omega

/-- **One step of the earliest way.** -/
theorem step_way {n : Net} (o : Ok n) {l : List Nat} (f : Fine n l) (ne : l ≠ []) {a : Nat} {w : List Nat} (h : n.first l.length l a = some w) :
    ∃ j x v, x ∈ l ∧ n.over a x = some j ∧ j < 16 ∧ w = a :: v ∧ n.first (less l x).length (less l x) j = some v ∧
      wo (l.map (pp n)) (pr a j) = (less l x).map (pp n) ∧ canGo a j (l.map (pp n)) = true ∧ ∀ m, canGo a m (l.map (pp n)) = true → j ≤ m := by
  cases hl : l with
  | nil => exact absurd hl ne
  | cons c l' =>
    rw [← hl]
    have h0 := h
    have e1 : n.first l.length l a = (List.range n.knots).findSome? fun j => match l.find? fun x => n.over a x == some j with
        | some x => (n.first (l.length - 1) (less l x) j).map fun w => a :: w
        | none => none := by rw [hl]; exact first_succ
    rw [e1] at h
    obtain ⟨j, hj, h2, h3⟩ := findSome_range h
    cases q : l.find? fun x => n.over a x == some j with
    | none => rw [q] at h2; cases h2
    | some x =>
      rw [q] at h2
      have hx := List.mem_of_find?_eq_some q
      have ov : n.over a x = some j := by simpa using List.find?_some q
      have ll := less_len f.nd hx
      have el : l.length - 1 = (less l x).length := by omega
      simp only at h2
      rw [el] at h2
      cases q2 : n.first (less l x).length (less l x) j with
      | none => rw [q2] at h2; cases h2
      | some v =>
        rw [q2] at h2
        have ew : a :: v = w := by simpa using h2
        have go := goes_on o f hx ov (by rw [h0]; rfl)
        refine ⟨j, x, v, hx, ov, Nat.lt_of_lt_of_le hj (knots_le o), ew.symm, q2, wo_less o f.lt hx ov, ?_, ?_⟩
        · rw [canGo_iff o f.lt]
          exact ⟨x, hx, ov, go.mp (by rw [q2]; rfl)⟩
        · intro m hm
          apply Classical.byContradiction
          intro lt
          have no := h3 m (by omega)
          obtain ⟨y, hy, oy, ry⟩ := (canGo_iff o f.lt).mp hm
          rw [find_over o f.lt hy oy] at no
          have go' := (goes_on o f hy oy (by rw [h0]; rfl)).mpr ry
          have ll' := less_len f.nd hy
          have el' : l.length - 1 = (less l y).length := by omega
          simp only at no
          rw [el', Option.map_eq_none_iff] at no
          rw [no] at go'
          cases go'

/-- **Where the earliest way begins.** -/
theorem way_start {n : Net} (o : Ok n) {l : List Nat} (f : Fine n l) (ne : l ≠ []) {w : List Nat} (h : n.way l = some w) :
    ∃ k, n.first l.length l k = some w ∧ (∀ a r, n.odd l = a :: r → a = k) ∧
      (n.odd l = [] → k ∈ l.map (fun b => (n.ends b).1) ∧ ∀ x ∈ l.map (fun b => (n.ends b).1), k ≤ x) := by
  have sm : (n.way l).isSome = true := by rw [h]; rfl
  have ⟨od, wh⟩ := (way_iff o f).mp sm
  cases hl : l with
  | nil => exact absurd hl ne
  | cons c l' =>
    rw [← hl]
    have e1 : n.way l = (List.range n.knots).findSome? fun k => n.first l.length l k := by rw [hl]; exact way_cons
    rw [e1] at h
    obtain ⟨k, hk, h2, h3⟩ := findSome_range h
    have cm : c ∈ l := by rw [hl]; exact List.mem_cons_self ..
    have some_iff : ∀ j, j < n.knots → ((n.first l.length l j).isSome = true ↔ (∀ b ∈ l, R n l j (n.ends b).1) ∧ (n.odd l = [] ∨ ((n.odd l).length = 2 ∧ j ∈ n.odd l))) := by
      intro j hj
      rw [first_iff o f (Nat.le_refl _), par_iff o f.lt hj]
    have atEnd : ∀ j, (∀ b ∈ l, R n l j (n.ends b).1) → ∃ b ∈ l, (n.ends b).1 = j ∨ (n.ends b).2 = j := by
      intro j hj
      rcases R.first (hj c cm) with q | ⟨x, hx, i, ov⟩
      · exact ⟨c, cm, .inl q⟩
      · rcases over_some.mp ov with ⟨q, _⟩ | ⟨_, q, _⟩
        · exact ⟨x, hx, .inl q⟩
        · exact ⟨x, hx, .inr q⟩
    have full : ∀ j b, b ∈ l → (n.ends b).1 = j ∨ (n.ends b).2 = j → ∀ d ∈ l, R n l j (n.ends d).1 := by
      intro j b hb hj d hd
      rcases hj with q | q
      · rw [← q]; exact wh b hb d hd
      · have : R n l j (n.ends b).1 := R.symm o f.lt (R.step R.refl hb (over_some.mpr (.inl ⟨rfl, q⟩)))
        exact this.trans (wh b hb d hd)
    have hk' := (some_iff k hk).mp (by rw [h2]; rfl)
    have least : ∀ j, j < n.knots → (∃ b ∈ l, (n.ends b).1 = j ∨ (n.ends b).2 = j) → (n.odd l = [] ∨ ((n.odd l).length = 2 ∧ j ∈ n.odd l)) → k ≤ j := by
      intro j hj ⟨b, hb, q⟩ hp
      apply Classical.byContradiction
      intro lt
      have no := h3 j (by omega)
      have := (some_iff j hj).mpr ⟨full j b hb q, hp⟩
      rw [no] at this
      cases this
    refine ⟨k, h2, ?_, ?_⟩
    · intro a r e
      rcases hk'.2 with q | ⟨q1, q2⟩
      · rw [q] at e; cases e
      · have ha : a ∈ n.odd l := by rw [e]; exact List.mem_cons_self ..
        have ⟨a1, a2⟩ := mem_odd.mp ha
        have lp := legs_pos.mp (show 0 < n.legs l a by omega)
        have le := least a a1 lp (.inr ⟨q1, ha⟩)
        have srt := @odd_sorted n l
        rw [e] at srt q2
        rcases List.mem_cons.mp q2 with q | q
        · exact q.symm
        · have := (List.pairwise_cons.mp srt).1 k q
          omega
    · intro e
      obtain ⟨b, hb, q⟩ := atEnd k hk'.1
      have lt := ends_lt o (f.lt b hb)
      have le := least (n.ends b).1 (by omega) ⟨b, hb, .inl rfl⟩ (.inl e)
      have ek : (n.ends b).1 = k := by omega
      refine ⟨List.mem_map.mpr ⟨b, hb, ek⟩, ?_⟩
      intro x hx
      obtain ⟨d, hd, rfl⟩ := List.mem_map.mp hx
      have lt' := ends_lt o (f.lt d hd)
      exact least _ (by omega) ⟨d, hd, .inl rfl⟩ (.inl e)

/-- the lower knot of a bar -/
theorem kin_head {n : Net} (o : Ok n) {b : Nat} (h : b < n.bars) : ∃ r, kin (pp n b) = (n.ends b).1 :: r := by
  have lt := ends_lt o h
  have k16 := knots_le o
  unfold kin
  have e : (List.range 16) = List.range ((n.ends b).1) ++ (List.range (16 - (n.ends b).1)).map ((n.ends b).1 + ·) := by
    rw [← List.range_add]; congr 1; omega
  rw [e, List.filter_append]
  have e1 : (List.range ((n.ends b).1)).filter (fun k => (pp n b).testBit k) = [] := by
    rw [List.filter_eq_nil_iff]
    intro k hk
    rw [List.mem_range] at hk
    rw [pp_bit]
    omega
  rw [e1, List.nil_append]
  have e2 : 16 - (n.ends b).1 = (16 - (n.ends b).1 - 1) + 1 := by omega
  rw [e2, List.range_succ_eq_map, List.map_cons, List.filter_cons, if_pos (by rw [pp_bit]; exact .inl rfl)]
  exact ⟨_, rfl⟩
end Bit

set_option Elab.async false
namespace Bit
open Uw24 Eul Cal

/-! ### check -/
def steps : List Nat → List Nat
  | a :: b :: r => pr a b :: steps (b :: r)
  | _ => []
theorem steps_zip : ∀ (w : List Nat), steps w = (w.zip (w.drop 1)).map fun q => pr q.1 q.2
  | [] => rfl
  | [_] => rfl
  | a :: b :: r => by
    have ih := steps_zip (b :: r)
    simp only [List.drop_succ_cons, List.drop_zero] at ih
    simp only [steps, List.drop_succ_cons, List.drop_zero, List.zip_cons_cons, List.map_cons]
    rw [ih]
theorem walks_iff {n : Net} (o : Ok n) : ∀ (w l : List Nat), Fine n l → (n.walks l w = true ↔ (steps w).Perm (l.map (pp n)))
  | [], l, f => by
    rw [walks_none, List.isEmpty_iff]
    exact ⟨fun e => by rw [e]; exact List.Perm.refl _, fun p => List.map_eq_nil_iff.mp (List.Perm.nil_eq p).symm⟩
  | [k], l, f => by
    rw [walks_one, List.isEmpty_iff]
    exact ⟨fun e => by rw [e]; exact List.Perm.refl _, fun p => List.map_eq_nil_iff.mp (List.Perm.nil_eq p).symm⟩
  | a :: b :: r, l, f => by
    rw [walks_cons2]
    cases q : l.find? fun x => n.over a x == some b with
    | none =>
      simp only
      refine ⟨fun z => (by cases z), fun p => ?_⟩
      have : pr a b ∈ l.map (pp n) := p.mem_iff.mp (List.mem_cons_self ..)
      obtain ⟨x, hx, e⟩ := List.mem_map.mp this
      have := List.find?_eq_none.mp q x hx
      rw [(pp_over o (f.lt x hx)).mp e] at this
      exact absurd (beq_self_eq_true _) this
    | some x =>
      have hx := List.mem_of_find?_eq_some q
      have ov : n.over a x = some b := by simpa using List.find?_some q
      simp only
      rw [walks_iff o (b :: r) _ (f.filter _)]
      have pm : (l.map (pp n)).Perm (pr a b :: (less l x).map (pp n)) := by
        have := (perm_take f.nd hx).map (pp n)
        rw [List.map_cons, (pp_over o (f.lt x hx)).mpr ov] at this
        exact this
      show _ ↔ (pr a b :: steps (b :: r)).Perm (l.map (pp n))
      refine ⟨fun p => (List.Perm.cons _ p).trans pm.symm, fun p => ?_⟩
      exact List.Perm.cons_inv (p.trans pm)

/-! ### Sets, one bar more -/
def rest (l s : List Nat) : List Nat := match s.getLast? with
  | none => l
  | some z => l.filter fun b => decide (z < b)
theorem some_one : ∀ (l : List Nat), some_ 1 l = l.map fun b => [b]
  | [] => rfl
  | b :: l => by
    show ((some_ 0 l).map fun r => b :: r) ++ some_ 1 l = _
    rw [some_one l]; cases l <;> rfl
theorem some_zero {l : List Nat} : some_ 0 l = [[]] := by cases l <;> rfl
theorem some_next : ∀ (k : Nat) (l : List Nat), l.Pairwise (· < ·) → some_ (k + 1) l = (some_ k l).flatMap fun s => (rest l s).map fun b => s ++ [b]
  | 0, l, _ => by
    rw [some_one, some_zero]
    simp [rest]
  | k + 1, [], _ => rfl
  | k + 1, b :: l, h => by
    have ⟨hb, hl⟩ := List.pairwise_cons.mp h
    show ((some_ (k + 1) l).map fun r => b :: r) ++ some_ (k + 2) l = (((some_ k l).map fun r => b :: r) ++ some_ (k + 1) l).flatMap _
    rw [List.flatMap_append, some_next (k + 1) l hl]
    congr 1
    · rw [some_next k l hl, List.map_flatMap, List.flatMap_map]
      rw [List.flatMap_def, List.flatMap_def]
      congr 1
      apply List.map_congr_left
      intro s hs
      have sub := (mem_some.mp hs).1
      rw [List.map_map]
      have e : rest (b :: l) (b :: s) = rest l s := by
        unfold rest
        cases q : s.getLast? with
        | none =>
          have : s = [] := List.getLast?_eq_none_iff.mp q
          subst this
          show (b :: l).filter (fun c => decide (b < c)) = l
          rw [List.filter_cons, if_neg (by simp)]
          exact List.filter_eq_self.mpr fun c hc => decide_eq_true (hb c hc)
        | some z =>
          have e2 : (b :: s).getLast? = some z := by rw [List.getLast?_cons, q]; rfl
          rw [e2]
          show (b :: l).filter (fun c => decide (z < c)) = l.filter fun c => decide (z < c)
          have zl : z ∈ l := sub.subset (List.mem_of_getLast? q)
          have := hb z zl
          rw [List.filter_cons, if_neg (by rw [decide_eq_true_iff]; omega)]
      rw [e]
      rfl
    · rw [List.flatMap_def, List.flatMap_def]
      congr 1
      apply List.map_congr_left
      intro s hs
      have ⟨sub, len⟩ := mem_some.mp hs
      have e : rest (b :: l) s = rest l s := by
        unfold rest
        cases q : s.getLast? with
        | none =>
          have : s = [] := List.getLast?_eq_none_iff.mp q
          subst this
          cases len
        | some z =>
          show (b :: l).filter (fun c => decide (z < c)) = l.filter fun c => decide (z < c)
          have zl : z ∈ l := sub.subset (List.mem_of_getLast? q)
          have := hb z zl
          rw [List.filter_cons, if_neg (by rw [decide_eq_true_iff]; omega)]
      rw [e]

theorem some_len : ∀ (k : Nat) (l : List Nat), (some_ k l).length ≤ l.length ^ k
  | 0, l => by rw [some_zero]; exact Nat.le_refl _
  | k + 1, [] => Nat.zero_le _
  | k + 1, b :: l => by
    show (((some_ k l).map fun r => b :: r) ++ some_ (k + 1) l).length ≤ _
    rw [List.length_append, List.length_map, List.length_cons]
    have h1 := some_len k l
    have h2 := some_len (k + 1) l
    have h3 : l.length ^ k ≤ (l.length + 1) ^ k := Nat.pow_le_pow_left (by omega) k
    have h4 : l.length ^ (k + 1) ≤ (l.length + 1) ^ k * l.length := by rw [Nat.pow_succ]; exact Nat.mul_le_mul_right _ h3
    have h5 : (l.length + 1) ^ (k + 1) = (l.length + 1) ^ k * l.length + (l.length + 1) ^ k := by rw [Nat.pow_succ, Nat.mul_add, Nat.mul_one]
    omega

/-! ### The sets that the program keeps -/
def may (n : Net) (L s : List Nat) : Bool := decide ((n.odd (L ++ s)).length ≤ 2 + 2 * (4 - s.length))
def mays (n : Net) (L : List Nat) (s : List Nat) : Bool := (List.range s.length).all fun i => may n L (s.take (i + 1))
theorem mays_snoc {n : Net} {L s : List Nat} {b : Nat} : mays n L (s ++ [b]) = (mays n L s && may n L (s ++ [b])) := by
  unfold mays
  rw [List.length_append, List.length_singleton, List.range_succ, List.all_append]
  congr 1
  · rw [Bool.eq_iff_iff, List.all_eq_true, List.all_eq_true]
    have e : ∀ i, i ∈ List.range s.length → (s ++ [b]).take (i + 1) = s.take (i + 1) := by
      intro i hi
      rw [List.mem_range] at hi
      exact List.take_append_of_le_length (by omega)
    exact ⟨fun h i hi => by have := h i hi; rw [e i hi] at this; exact this, fun h i hi => by rw [e i hi]; exact h i hi⟩
  · rw [List.all_cons, List.all_nil, Bool.and_true, List.take_of_length_le (by simp)]
def kept (n : Net) (L : List Nat) (k : Nat) : List (List Nat) := (some_ k n.sound).filter (mays n L)
/-- the sets of one more from one set -/
def more (n : Net) (L : List Nat) (s : List Nat) : List (List Nat) := ((rest n.sound s).filter fun b => may n L (s ++ [b])).map fun b => s ++ [b]
theorem filter_flatMap {α β : Type} {p : α → Bool} {g : α → List β} : ∀ (l : List α), (l.filter p).flatMap g = l.flatMap fun a => if p a = true then g a else []
  | [] => rfl
  | a :: l => by
    rw [List.filter_cons, List.flatMap_cons, ← filter_flatMap l]
    by_cases c : p a = true
    · rw [if_pos c, if_pos c, List.flatMap_cons]
    · rw [if_neg c, if_neg c, List.nil_append]
theorem kept_next {n : Net} {L : List Nat} {k : Nat} : kept n L (k + 1) = (kept n L k).flatMap (more n L) := by
  unfold kept
  rw [some_next k _ sound_sorted, filter_flatMap, List.filter_flatMap]
  rw [List.flatMap_def, List.flatMap_def]
  congr 1
  apply List.map_congr_left
  intro s _
  rw [List.filter_map]
  unfold more
  by_cases c : mays n L s = true
  · rw [if_pos c]
    congr 1
    apply List.filter_congr
    intro b _
    show mays n L (s ++ [b]) = _
    rw [mays_snoc, c, Bool.true_and]
  · rw [if_neg c, List.map_eq_nil_iff, List.filter_eq_nil_iff]
    intro b _
    show ¬ mays n L (s ++ [b]) = true
    rw [mays_snoc]
    rw [Bool.not_eq_true] at c
    rw [c, Bool.false_and]
    decide
theorem kept_zero {n : Net} {L : List Nat} : kept n L 0 = [[]] := by unfold kept; rw [some_zero]; rfl
theorem kept_len {n : Net} (o : Ok n) {L : List Nat} {k : Nat} (h : k ≤ 4) : (kept n L k).length ≤ 331776 := by
  have h1 : (kept n L k).length ≤ (some_ k n.sound).length := List.length_filter_le _ _
  have h2 := some_len k n.sound
  have h3 : n.sound.length ≤ 24 := by
    have : n.sound.length ≤ (List.range n.bars).length := List.length_filter_le _ _
    rw [List.length_range] at this
    have := bars_le o
    omega
  have h4 : n.sound.length ^ k ≤ 24 ^ k := Nat.pow_le_pow_left h3 k
  have h5 : 24 ^ k ≤ 24 ^ 4 := Nat.pow_le_pow_right (by decide) h
  have h6 : (24 : Nat) ^ 4 = 331776 := by decide
  omega

/-! ### What one bar does to the odd knots -/
theorem filter_drop {p q : Nat → Bool} {a b : Nat} : ∀ (l : List Nat), l.Nodup → (∀ k ∈ l, k ≠ a → k ≠ b → p k = true → q k = true) → (l.filter p).length ≤ (l.filter q).length + (l.filter fun k => k == a || k == b).length
  | [], _, _ => Nat.le_refl _
  | k :: l, nd, h => by
    have ⟨_, nd'⟩ := List.nodup_cons.mp nd
    have ih := filter_drop l nd' (fun j hj => h j (List.mem_cons_of_mem _ hj))
    rw [List.filter_cons, List.filter_cons, List.filter_cons]
    by_cases c : (k == a || k == b) = true
    · rw [if_pos c]; repeat' split
      all_goals simp only [List.length_cons]; omega
    · rw [if_neg c]
      have hk := h k (List.mem_cons_self ..)
      rw [Bool.or_eq_true, beq_iff_eq, beq_iff_eq, not_or] at c
      by_cases c1 : p k = true
      · rw [if_pos c1, if_pos (hk c.1 c.2 c1)]; simp only [List.length_cons]; omega
      · rw [if_neg c1]; split
        · simp only [List.length_cons]; omega
        · omega
theorem two_at {a b : Nat} : ∀ (l : List Nat), l.Nodup → (l.filter fun k => k == a || k == b).length ≤ 2 := by
  intro l nd
  have h : ∀ x ∈ l.filter (fun k => k == a || k == b), x ∈ [a, b] := by
    intro x hx
    have := (List.mem_filter.mp hx).2
    rw [Bool.or_eq_true, beq_iff_eq, beq_iff_eq] at this
    rcases this with e | e <;> rw [e] <;> simp
  exact nd_le _ _ (nd.filter _) h
theorem odd_drop {n : Net} {l : List Nat} {b : Nat} : (n.odd l).length ≤ (n.odd (l ++ [b])).length + 2 := by
  unfold Net.odd
  have := filter_drop (p := fun k => n.legs l k % 2 == 1) (q := fun k => n.legs (l ++ [b]) k % 2 == 1) (a := (n.ends b).1) (b := (n.ends b).2) (List.range n.knots) List.nodup_range (by
    intro k _ h1 h2 h3
    rw [beq_iff_eq] at h3 ⊢
    rw [legs_append, legs_cons, legs_nil]
    unfold at_
    rw [if_neg (by omega)]
    omega)
  have := two_at (a := (n.ends b).1) (b := (n.ends b).2) (List.range n.knots) List.nodup_range
  omega
theorem odd_prefix {n : Net} {l : List Nat} : ∀ (r : List Nat), (n.odd l).length ≤ (n.odd (l ++ r)).length + 2 * r.length := by
  intro r
  induction r generalizing l with
  | nil => rw [List.append_nil]; exact Nat.le_add_right ..
  | cons b r ih =>
    have h1 := @odd_drop n l b
    have h2 := @ih (l ++ [b])
    rw [List.append_assoc, List.singleton_append] at h2
    rw [List.length_cons]
    omega
theorem goes_mays {n : Net} (o : Ok n) {L s : List Nat} (f : Fine n (L ++ s)) (h : s.length ≤ 4) (g : n.goes (L ++ s) = true) : mays n L s = true := by
  unfold mays
  rw [List.all_eq_true]
  intro i hi
  rw [List.mem_range] at hi
  have h2 := ((goes_iff o f).mp g).1
  have h3 := @odd_prefix n (L ++ s.take (i + 1)) (s.drop (i + 1))
  rw [List.append_assoc, List.take_append_drop, List.length_drop] at h3
  unfold may
  rw [decide_eq_true_iff, List.length_take]
  omega

/-! ### best -/
theorem done_by {n : Net} (v : Inv n) {L : List Nat} (pm : L.Perm n.torn) {k : Nat} (hk : k ≤ 4) :
    ((kept n L k).filter fun s => hasWay ((L ++ s).map (pp n))) = n.by_ k := by
  unfold kept Net.by_
  rw [List.filter_filter]
  apply List.filter_congr
  intro s hs
  have ⟨sub, len⟩ := mem_some.mp hs
  have f := fine_cut v sub
  have pm' : (L ++ s).Perm (n.torn ++ s) := pm.append_right s
  have f' : Fine n (L ++ s) := f.perm pm'.symm
  rw [hasWay_goes v.ok f', goes_perm v.ok f' pm', Bool.eq_iff_iff, Bool.and_eq_true]
  refine ⟨fun z => z.1, fun z => ⟨z, ?_⟩⟩
  exact goes_mays v.ok f' (by omega) (by rw [goes_perm v.ok f' pm']; exact z)
theorem best_none {n : Net} : n.best = none ↔ ∀ k, k ≤ 4 → n.by_ k = [] := by
  unfold Net.best
  rw [List.findSome?_eq_none_iff]
  constructor
  · intro h k hk
    have := h k (List.mem_range.mpr (by unfold MOST; omega))
    cases q : n.by_ k with
    | nil => rfl
    | cons s r => rw [q] at this; cases this
  · intro h k hk
    rw [List.mem_range] at hk
    unfold MOST at hk
    rw [h k (by omega)]
theorem best_some {n : Net} {k : Nat} {s : List Nat} {r : List (List Nat)} (hk : k ≤ 4) (h : n.by_ k = s :: r) (no : ∀ j, j < k → n.by_ j = []) : n.best = some ⟨s, r.length + 1⟩ := by
  cases q : n.best with
  | none => rw [best_none.mp q k hk] at h; cases h
  | some b =>
    unfold Net.best at q
    obtain ⟨j, hj, h1, h2⟩ := findSome_range q
    have : j = k := by
      rcases Nat.lt_trichotomy j k with lt | e | lt
      · rw [no j lt] at h1; cases h1
      · exact e
      · have := h2 k lt; rw [h] at this; cases this
    subst this
    rw [h] at h1
    exact h1.symm
/-- sound bars behind a place -/
theorem rest_range {n : Net} {s : List Nat} {a : Nat} (ha : a = match s.getLast? with | none => 0 | some z => z + 1) :
    rest n.sound s = ((List.range (n.bars - a)).map (a + ·)).filter fun b => !n.torn.contains b := by
  have e : rest n.sound s = n.sound.filter fun b => decide (a ≤ b) := by
    unfold rest
    cases q : s.getLast? with
    | none =>
      rw [q] at ha
      simp only at ha
      subst ha
      exact (List.filter_eq_self.mpr fun c _ => decide_eq_true (Nat.zero_le c)).symm
    | some z =>
      rw [q] at ha
      simp only at ha
      subst ha
      rfl
  rw [e]
  unfold Net.sound
  rw [List.filter_filter]
  have e2 : (fun b => decide (a ≤ b) && !n.torn.contains b) = fun b => (!n.torn.contains b) && decide (a ≤ b) := by funext b; exact Bool.and_comm ..
  rw [e2, ← List.filter_filter]
  congr 1
  by_cases c : a ≤ n.bars
  · have e3 : n.bars = a + (n.bars - a) := by omega
    rw [e3, List.range_add, List.filter_append]
    have e4 : (List.range a).filter (fun b => decide (a ≤ b)) = [] := by
      rw [List.filter_eq_nil_iff]; intro b hb; rw [List.mem_range] at hb; rw [decide_eq_true_iff]; omega
    rw [e4, List.nil_append, show a + (n.bars - a) - a = n.bars - a by omega]
    apply List.filter_eq_self.mpr
    intro b hb
    obtain ⟨c, _, rfl⟩ := List.mem_map.mp hb
    exact decide_eq_true (by omega)
  · rw [show n.bars - a = 0 by omega]
    apply List.filter_eq_nil_iff.mpr
    intro b hb
    rw [List.mem_range] at hb
    rw [decide_eq_true_iff]
    omega
end Bit

set_option Elab.async false
set_option maxRecDepth 100000
set_option maxHeartbeats 2000000
namespace Nm
open PySem PySem.Spec PyProof.Rows L2
open PySem.W (Codec)

/-! ### The text -/
def top (i : Nat) : Stmt := PySem.Challenge.pw_netmends_s01_answers.main.body.getD i (.Pass ⟨0, 0, 0, 0⟩)
abbrev sSide : Stmt := top 14
abbrev sBit : Stmt := top 15
abbrev sPair : Stmt := top 16
abbrev sKin : Stmt := top 17
abbrev sOddk : Stmt := top 18
abbrev sReach : Stmt := top 19
abbrev sWay : Stmt := top 20
abbrev sFirst : Stmt := top 21
abbrev sWo : Stmt := top 22
abbrev sCan : Stmt := top 23
abbrev sEarly : Stmt := top 24
abbrev sInit : Stmt := inClass (top 25) 0
abbrev sRow : Stmt := inClass (top 25) 1
abbrev sAll : Stmt := inClass (top 25) 2
abbrev sHas : Stmt := inClass (top 25) 3
abbrev sHasK : Stmt := inClass (top 25) 4
abbrev sKnots : Stmt := inClass (top 25) 5
abbrev sPairs : Stmt := inClass (top 25) 6
abbrev sBeg : Stmt := inClass (top 25) 7
abbrev sTear : Stmt := inClass (top 25) 8
abbrev sMend : Stmt := inClass (top 25) 9
abbrev sEnds : Stmt := inClass (top 25) 10
abbrev sOdd : Stmt := inClass (top 25) 11
abbrev sCheck : Stmt := inClass (top 25) 12
abbrev sLarger : Stmt := inClass (top 25) 13
abbrev sMay : Stmt := inClass (top 25) 14
abbrev sBest : Stmt := inClass (top 25) 15
abbrev sAnsOf : Stmt := top 26
abbrev sBehind : Stmt := top 27
abbrev sAns : Stmt := top 28

/-! ### The heap -/
def nF (w h : Nat) (t : Addr) : List (Str × V) := [("wide", .int w), ("high", .int h), ("torn", .ref t)]
structure NetAt (C : Addr) (H : Hp) (a t : Addr) (n : Uw24.Net) (L : List Nat) : Prop where
  ob : ∃ dx, H a = some (.ins C dx (nF n.wide n.high t))
  ls : H t = some (.lst ((Cal.nts L).map V.int))
  pm : L.Perm n.torn
  inv : Cal.Inv n

theorem lk_here {k : Str} {v : V} {r : List (Str × V)} : List.lookup k ((k, v) :: r) = some v := by
  have e : (k == k) = true := beq_self_eq_true k
  simp only [List.lookup, e]
theorem lk_past {k g : Str} {v : V} {r : List (Str × V)} (h : (k == g) = false) : List.lookup k ((g, v) :: r) = List.lookup k r := by
  simp only [List.lookup, h]
theorem put_here {f : Str} {v x : V} {r : List (Str × V)} : putF f v ((f, x) :: r) = (f, v) :: r := if_pos rfl
theorem put_past {f g : Str} {v x : V} {r : List (Str × V)} (h : ¬ g = f) : putF f v ((g, x) :: r) = (g, x) :: putF f v r := if_neg h
theorem nF_wide {w h : Nat} {t : Addr} : (nF w h t).lookup ("wide" : Str) = some (.int w) := lk_here
theorem nF_high {w h : Nat} {t : Addr} : (nF w h t).lookup ("high" : Str) = some (.int h) := (lk_past (by decide +kernel)).trans lk_here
theorem nF_torn {w h : Nat} {t : Addr} : (nF w h t).lookup ("torn" : Str) = some (.ref t) := (lk_past (by decide +kernel)).trans ((lk_past (by decide +kernel)).trans lk_here)
theorem nF_no {w h : Nat} {t : Addr} {m : Str} (h1 : (m == "wide") = false) (h2 : (m == "high") = false) (h3 : (m == "torn") = false) : (nF w h t).lookup m = none :=
  (lk_past h1).trans ((lk_past h2).trans ((lk_past h3).trans rfl))

/-! ### What the top has written -/
structure Txt (K : PySem.W.Frag) (mg : Str → Option Value) (C : Addr) : Prop where
  cl : Cls K C
  nW : NoAttr K C "wide"
  nH : NoAttr K C "high"
  nT : NoAttr K C "torn"
  gL : ∃ t, mg "LEAST_SIDE" = some (.int 2 t)
  gM : ∃ t, mg "MOST_SIDE" = some (.int 4 t)
  gT : ∃ t, mg "MOST_TORN" = some (.int 8 t)
  gK : ∃ t, mg "MOST_KNOTS" = some (.int 16 t)
  gC : ∃ t, mg "MOST_CUT" = some (.int 4 t)
  gO : ∃ t, mg "MOST_ODD" = some (.int 2 t)
  g0 : ∃ t, mg "BEGINS" = some (.int 0 t)
  g1 : ∃ t, mg "TEAR" = some (.int 1 t)
  g2 : ∃ t, mg "MEND" = some (.int 2 t)
  g3 : ∃ t, mg "ENDS" = some (.int 3 t)
  g4 : ∃ t, mg "ODD" = some (.int 4 t)
  g5 : ∃ t, mg "CHECK" = some (.int 5 t)
  len : mg "len" = none
  rng : mg "range" = none
  min : mg "min" = none
  all : mg "all" = none
  srt : mg "sorted" = none
  zip : mg "zip" = none

variable {P : Program} {w : World} {K : PySem.W.Frag} {mg : Str → Option Value} {base : Heap} {C : Addr}

/-! ### is_side -/
def spSide : Sp := fun vs H Q _ => ∃ k : Int, vs = [.int k] ∧ Q (.bl (decide (2 ≤ k ∧ k ≤ 4))) H
theorem scSide : FnScope ["knots"] ["knots"] (defScope sSide) := ⟨rfl, rfl, rfl, by decide +kernel, rfl, by decide +kernel, by decide +kernel⟩
theorem ok_side {f : Addr} {fd : FuncData} (F : Fun K "is_side" "is_side" sSide f fd) (T : Txt K mg C) : FnOk P w K mg base CX0 1 f fd ["knots"] spSide := by
  obtain ⟨tL, gL⟩ := T.gL
  obtain ⟨tM, gM⟩ := T.gM
  refine F.ok scSide (fun vs H Q E h => ?_) (fun cdv A outer s H vs Q E hr h => ⟨_, pss_one (ps_ret (pe_chain op_le op_le (pe_glob (v := .int 2) rfl gL ⟨_, rfl⟩) (pv 0) (pe_glob (v := .int 4) rfl gM ⟨_, rfl⟩))), ?_⟩)
  · obtain ⟨k, rfl, _⟩ := h
    rfl
  · obtain ⟨k, rfl, q⟩ := h
    refine ⟨_, rfl, _, _, rfl, rfl, _, rfl, ?_⟩
    by_cases c : (2 : Int) ≤ k
    · rw [if_pos (decide_eq_true c)]
      refine ⟨_, _, rfl, rfl, ?_⟩
      have e : decide (2 ≤ k ∧ k ≤ 4) = decide (k ≤ 4) := by
        rw [Bool.eq_iff_iff, decide_eq_true_iff, decide_eq_true_iff]
        omega
      rw [e] at q
      exact q
    · rw [decide_eq_false c, if_neg Bool.false_ne_true]
      have e : decide (2 ≤ k ∧ k ≤ 4) = false := decide_eq_false (by omega)
      rw [e] at q
      exact q

/-! ### row_bars, all_bars, has_bar -/
def spRow (C : Addr) : Sp := fun vs H Q _ => ∃ (a t : Addr) (n : Uw24.Net) (L : List Nat), vs = [.ref a] ∧ NetAt C H a t n L ∧ Q (.int (n.flat : Nat)) H
theorem scRow : FnScope ["self"] ["self"] (defScope sRow) := ⟨rfl, rfl, rfl, by decide +kernel, rfl, by decide +kernel, by decide +kernel⟩
theorem ok_row {f : Addr} {fd : FuncData} (F : Fun K "row_bars" "Net.row_bars" sRow f fd) (T : Txt K mg C) : FnOk P w K mg base CX0 1 f fd ["self"] (spRow C) := by
  refine F.ok scRow (fun vs H Q E h => ?_) (fun cdv A outer s H vs Q E hr h => ⟨_, pss_one (ps_ret (pe_op op_mul (pe_op op_sub (pe_fld (pv 0) rfl) pe_int) (pe_fld (pv 0) rfl))), ?_⟩)
  · obtain ⟨a, t, n, L, rfl, _⟩ := h
    rfl
  · obtain ⟨a, t, n, L, rfl, N, q⟩ := h
    obtain ⟨dx, ha⟩ := N.ob
    have o := N.inv.ok
    refine ⟨_, rfl, a, C, dx, _, _, rfl, ha, T.cl, T.nW, nF_wide, _, _, rfl, rfl, _, rfl, a, C, dx, _, _, rfl, ha, T.cl, T.nH, nF_high, _, _, rfl, rfl, .inl ⟨?_, ?_⟩, ?_⟩
    · have := o.w2; omega
    · have := o.w4; omega
    · have e : ((n.wide : Int) - 1) * (n.high : Int) = (n.flat : Nat) := by
        unfold Uw24.Net.flat
        have := o.w2
        rw [Int.natCast_mul, Int.natCast_sub (by omega)]
        rfl
      rw [← e] at q
      exact q

def spAll (C : Addr) : Sp := fun vs H Q _ => ∃ (a t : Addr) (n : Uw24.Net) (L : List Nat), vs = [.ref a] ∧ NetAt C H a t n L ∧ Q (.int (n.bars : Nat)) H
theorem scAll : FnScope ["self"] ["self"] (defScope sAll) := ⟨rfl, rfl, rfl, by decide +kernel, rfl, by decide +kernel, by decide +kernel⟩
theorem ok_all {f fR : Addr} {fd fdR : FuncData} (F : Fun K "all_bars" "Net.all_bars" sAll f fd) (T : Txt K mg C)
    (GR : FnOk P w K mg base CX0 1 fR fdR ["self"] (spRow C)) (mR : Meth K C "row_bars" fR) (bR : Binds K fdR ["self"] []) : FnOk P w K mg base CX0 2 f fd ["self"] (spAll C) := by
  refine F.ok scAll (fun vs H Q E h => ?_) (fun cdv A outer s H vs Q E hr h => ⟨_, pss_one (ps_ret (pe_op op_add (pe_meth0 (pv 0) T.cl mR GR hr bR .nil pass0)
    (pe_op op_mul (pe_fld (pv 0) rfl) (pe_op op_sub (pe_fld (pv 0) rfl) pe_int)))), ?_⟩)
  · obtain ⟨a, t, n, L, rfl, _⟩ := h
    rfl
  · obtain ⟨a, t, n, L, rfl, N, q⟩ := h
    obtain ⟨dx, ha⟩ := N.ob
    have o := N.inv.ok
    refine ⟨_, rfl, a, dx, _, rfl, ha, nF_no (by decide +kernel) (by decide +kernel) (by decide +kernel), ?_⟩
    refine ⟨a, t, n, L, rfl, N, ?_⟩
    refine ⟨_, rfl, a, C, dx, _, _, rfl, ha, T.cl, T.nW, nF_wide, _, rfl, a, C, dx, _, _, rfl, ha, T.cl, T.nH, nF_high, _, _, rfl, rfl, _, _, rfl, rfl, .inl ⟨?_, ?_⟩, _, _, rfl, rfl, ?_⟩
    · omega
    · have := o.w4; omega
    · have e : ((n.flat : Nat) : Int) + (n.wide : Int) * ((n.high : Int) - 1) = (n.bars : Nat) := by
        unfold Uw24.Net.bars
        have := o.h2
        rw [Int.natCast_add, Int.natCast_mul, Int.natCast_sub (by omega)]
        rfl
      rw [← e] at q
      exact q

def spHas (C : Addr) : Sp := fun vs H Q _ => ∃ (a t : Addr) (n : Uw24.Net) (L : List Nat) (b : Nat), vs = [.ref a, .int b] ∧ NetAt C H a t n L ∧ Q (.bl (decide (b < n.bars))) H
theorem scHas : FnScope ["self", "bar"] ["self", "bar"] (defScope sHas) := ⟨rfl, rfl, rfl, by decide +kernel, rfl, by decide +kernel, by decide +kernel⟩
theorem ok_has {f fR : Addr} {fd fdR : FuncData} (F : Fun K "has_bar" "Net.has_bar" sHas f fd) (T : Txt K mg C)
    (GR : FnOk P w K mg base CX0 2 fR fdR ["self"] (spAll C)) (mR : Meth K C "all_bars" fR) (bR : Binds K fdR ["self"] []) : FnOk P w K mg base CX0 3 f fd ["self", "bar"] (spHas C) := by
  refine F.ok scHas (fun vs H Q E h => ?_) (fun cdv A outer s H vs Q E hr h => ⟨_, pss_one (ps_ret (pe_cmp (pc_lt (pv 1) (pe_meth0 (pv 0) T.cl mR GR hr bR .nil pass0)) rfl)), ?_⟩)
  · obtain ⟨a, t, n, L, b, rfl, _⟩ := h
    rfl
  · obtain ⟨a, t, n, L, b, rfl, N, q⟩ := h
    obtain ⟨dx, ha⟩ := N.ob
    refine ⟨_, rfl, _, rfl, a, dx, _, rfl, ha, nF_no (by decide +kernel) (by decide +kernel) (by decide +kernel), ?_⟩
    refine ⟨a, t, n, L, rfl, N, ?_⟩
    refine ⟨_, _, rfl, rfl, ?_⟩
    have e : decide ((b : Int) < (n.bars : Nat)) = decide (b < n.bars) := by
      rw [Bool.eq_iff_iff, decide_eq_true_iff, decide_eq_true_iff]
      omega
    rw [← e] at q
    exact q
end Nm

set_option Elab.async false
set_option maxRecDepth 100000
set_option maxHeartbeats 2000000
namespace Nm
open PySem PySem.Spec PyProof.Rows L2
open PySem.W (Codec)
variable {P : Program} {w : World} {K : PySem.W.Frag} {mg : Str → Option Value} {base : Heap} {C : Addr}

theorem if_true_of {c : Bool} {A B : Prop} (hc : c = true) (h : A) : if c = true then A else B := by
  rw [if_pos hc]
  exact h
theorem if_false_of {c : Bool} {A B : Prop} (hc : c = false) (h : B) : if c = true then A else B := by
  rw [hc, if_neg Bool.false_ne_true]
  exact h
/-! ### Lists of numbers in the heap -/
theorem in_ints {b : Nat} {L : List Nat} : inV (.int b) ((Cal.nts L).map V.int) = decide (b ∈ L) := by
  unfold inV
  induction L with
  | nil => simp [Cal.nts]
  | cons c L ih =>
    simp only [Cal.nts, List.map_cons, List.any_cons, eqV] at ih ⊢
    rw [ih, Bool.eq_iff_iff]
    simp only [Bool.or_eq_true, beq_iff_eq, decide_eq_true_iff, List.mem_cons]
    have : ((c : Int) = (b : Int)) ↔ b = c := by omega
    rw [this]
theorem flat_ints {l : List Int} : (l.map V.int).all flatV = true := by
  rw [List.all_eq_true]
  intro x hx
  obtain ⟨i, _, rfl⟩ := List.mem_map.mp hx
  rfl
theorem ints_len {L : List Nat} : ((Cal.nts L).map V.int).length = L.length := by rw [List.length_map, List.length_map]
theorem ints_snoc {L : List Nat} {b : Nat} : (Cal.nts L).map V.int ++ [V.int b] = (Cal.nts (L ++ [b])).map V.int := by
  rw [Cal.nts, Cal.nts, List.map_append, List.map_append]; rfl

/-! ### What a call leaves -/
def Keep (H H' : Hp) (a t : Addr) : Prop := ∀ b o, H b = some o → b ≠ a → b ≠ t → H' b = some o
def Done (C : Addr) (H : Hp) (a t : Addr) (r : Uw24.Net × Uw24.Ans) (Q : VK) : Prop := ∀ (H' : Hp) (p t' : Addr) (L' : List Nat), H p = none →
  H' p = some (.lst ((Uw24Neutral.out r.2).map V.int)) → NetAt C H' a t' r.1 L' → (t' = t ∨ H t' = none) → Keep H H' a t → Q (.ref p) H'

theorem ne_new {H : Hp} {a p : Addr} {o : HO} (h : H a = some o) (n : H p = none) : a ≠ p := by
  intro e; rw [e, n] at h; cases h
theorem NetAt.new {H : Hp} {a t p : Addr} {n : Uw24.Net} {L : List Nat} {o : HO} (N : NetAt C H a t n L) (np : H p = none) : NetAt C (upd H p o) a t n L := by
  obtain ⟨dx, ha⟩ := N.ob
  exact ⟨⟨dx, by rw [upd_ne (ne_new ha np)]; exact ha⟩, by rw [upd_ne (ne_new N.ls np)]; exact N.ls, N.pm, N.inv⟩
theorem Keep.new {H : Hp} {a t p : Addr} {o : HO} (np : H p = none) : Keep H (upd H p o) a t := fun b o e _ _ => by
  rw [upd_ne (ne_new e np)]; exact e
/-- an answer over the net as it was -/
theorem Done.same {H : Hp} {a t p : Addr} {n : Uw24.Net} {L : List Nat} {r : Uw24.Net × Uw24.Ans} {Q : VK} (D : Done C H a t r Q) (N : NetAt C H a t n L) (np : H p = none)
    {vs : List V} (e1 : r.1 = n) (e2 : (Uw24Neutral.out r.2).map V.int = vs) : Q (.ref p) (upd H p (.lst vs)) :=
  D _ p t L np (by rw [e2]; exact upd_same) (by rw [e1]; exact N.new np) (.inl rfl) (Keep.new np)

/-! ### tear -/
def spTear (C : Addr) : Sp := fun vs H Q _ => ∃ (a t : Addr) (n : Uw24.Net) (L : List Nat) (b : Nat), vs = [.ref a, .int b] ∧ NetAt C H a t n L ∧ Done C H a t (Uw24.step n (.tear b)) Q
theorem scTear : FnScope ["self", "bar"] ["self", "bar"] (defScope sTear) := ⟨rfl, rfl, rfl, by decide +kernel, rfl, by decide +kernel, by decide +kernel⟩
theorem ok_tear {f fH : Addr} {fd fdH : FuncData} (F : Fun K "tear" "Net.tear" sTear f fd) (T : Txt K mg C)
    (GH : FnOk P w K mg base CX0 3 fH fdH ["self", "bar"] (spHas C)) (mH : Meth K C "has_bar" fH) (bH : Binds K fdH ["self", "bar"] []) : FnOk P w K mg base CX0 4 f fd ["self", "bar"] (spTear C) := by
  obtain ⟨tT, gT⟩ := T.gT
  refine F.ok scTear (fun vs H Q E h => ?_) (fun cdv A outer s H vs Q E hr h => ⟨_,
    pss_cons (ps_if (pt_not (pt_val (pe_meth (pv 0) T.cl mH GH hr bH .nil pass0 (pa_cons (pv 1) pa_nil)))) (pss_one (ps_ret (pe_lst (pa_cons (pe_un un_neg pe_int) pa_nil)))) pss_nil)
    (pss_cons (ps_if (pt_cmpR op_in_seq (pv 1) (pe_fld (pv 0) rfl) (by rfl)) (pss_one (ps_ret (pe_lst (pa_cons (pe_un un_neg pe_int) pa_nil)))) pss_nil)
    (pss_cons (ps_if (pt_cmpR op_eq (pe_callB call_len_seq (by rfl) T.len PySem.boot_len (pa_cons (pe_fld (pv 0) rfl) pa_nil)) (pe_glob (v := .int 8) rfl gT ⟨_, rfl⟩) (nomark _)) (pss_one (ps_ret (pe_lst (pa_cons (pe_un un_neg pe_int) pa_nil)))) pss_nil)
    (pss_cons (ps_expr (pe_bm PySem.F.plainAttrs_list PySem.F.slot_list_append PySem.F.type_list_append mt_append (pe_fld (pv 0) rfl) (pa_cons (pv 1) pa_nil)))
    (pss_one (ps_ret (pe_lst (pa_cons (pe_callB call_len_seq (by rfl) T.len PySem.boot_len (pa_cons (pe_fld (pv 0) rfl) pa_nil)) pa_nil))))))), ?_⟩)
  · obtain ⟨a, t, n, L, b, rfl, _⟩ := h
    rfl
  · obtain ⟨a, t, n, L, b, rfl, N, D⟩ := h
    obtain ⟨dx, ha⟩ := N.ob
    refine ⟨_, rfl, a, dx, _, rfl, ha, nF_no (by decide +kernel) (by decide +kernel) (by decide +kernel), _, rfl, ?_⟩
    refine ⟨a, t, n, L, b, rfl, N, ?_⟩
    refine ⟨_, rfl, ?_⟩
    by_cases c1 : b < n.bars
    · rw [decide_eq_true c1]
      refine iteF ?_
      refine ⟨_, rfl, _, rfl, a, C, dx, _, _, rfl, ha, T.cl, T.nT, nF_torn, t, _, rfl, .inl (SqL.of N.ls), rfl, flat_ints, _, rfl, ?_⟩
      simp only [Bool.false_eq_true, if_false]
      rw [in_ints]
      by_cases c2 : b ∈ L
      · rw [decide_eq_true c2]
        refine iteT ?_
        refine ⟨_, rfl, by show 1 ≤ sizeLine; decide, fun p np => ?_⟩
        have hs : Uw24.step n (.tear b) = (n, Uw24.ok (-4)) := by
          simp only [Uw24.step]
          rw [if_neg (by omega), if_pos (List.contains_iff_mem.mpr (N.pm.mem_iff.mp c2))]
        exact D.same N np (by rw [hs]) (by rw [hs]; rfl)
      · rw [decide_eq_false c2]
        refine iteF ?_
        refine ⟨_, rfl, a, C, dx, _, _, rfl, ha, T.cl, T.nT, nF_torn, t, _, rfl, .inl (SqL.of N.ls), ?_⟩
        refine ⟨rfl, _, rfl, ?_⟩
        have lenL : L.length = n.torn.length := N.pm.length_eq
        have b2 : ¬ n.torn.contains b = true := fun h => c2 (N.pm.mem_iff.mpr (List.contains_iff_mem.mp h))
        by_cases c3 : L.length = 8
        · refine if_true_of (decide_eq_true (by rw [ints_len, c3]; rfl)) ?_
          refine ⟨_, rfl, by show 1 ≤ sizeLine; decide, fun p np => ?_⟩
          have hs : Uw24.step n (.tear b) = (n, Uw24.ok (-5)) := by
            simp only [Uw24.step]
            rw [if_neg (by omega), if_neg b2, if_pos (by unfold Uw24.TORN; omega)]
          exact D.same N np (by rw [hs]) (by rw [hs]; rfl)
        · have most := N.inv.most
          refine if_false_of (decide_eq_false (by rw [ints_len]; intro e; injection e with e; omega)) ?_
          refine ⟨_, rfl, a, C, dx, _, _, rfl, ha, T.cl, T.nT, nF_torn, .inl ⟨rfl, _, SqL.of N.ls⟩, _, rfl, t, _, _, rfl, rfl, N.ls, (by rw [ints_len]; show L.length < 2 ^ 24; omega), ?_⟩
          have at_ne : a ≠ t := by intro e; have q := N.ls; rw [← e, ha] at q; cases q
          have ha' : upd H t (.lst ((Cal.nts L).map V.int ++ [V.int b])) a = some (.ins C dx (nF n.wide n.high t)) := by rw [upd_ne at_ne]; exact ha
          refine ⟨_, rfl, a, C, dx, _, _, rfl, ha', T.cl, T.nT, nF_torn, t, _, rfl, .inl (SqL.of upd_same), ?_⟩
          refine ⟨by show 1 ≤ sizeLine; decide, fun p np => ?_⟩
          have hs : Uw24.step n (.tear b) = ({ n with torn := Uw24.insert_ b n.torn }, Uw24.ok (n.torn.length + 1 : Nat)) := by
            simp only [Uw24.step]
            rw [if_neg (by omega), if_neg b2, if_neg (by unfold Uw24.TORN; omega)]
          have inv' := Cal.step_inv N.inv (.tear b)
          have np' : H p = none := by
            by_cases q : p = t
            · rw [q, upd_same] at np; cases np
            · rw [upd_ne q] at np; exact np
          have pt : t ≠ p := ne_new N.ls np'
          have pa : a ≠ p := ne_new ha np'
          refine D _ p t (L ++ [b]) np' ?_ ⟨⟨dx, ?_⟩, ?_, ?_, inv'⟩ (.inl rfl) ?_
          · rw [hs, upd_same]
            have e : Uw24Neutral.out (Uw24.ok (n.torn.length + 1 : Nat)) = [((n.torn.length + 1 : Nat) : Int)] := rfl
            rw [e, List.length_append, ints_len, lenL]
            rfl
          · rw [hs, upd_ne pa, ha']
          · rw [upd_ne pt, upd_same, ints_snoc]
          · rw [hs]
            refine List.Perm.trans ?_ (Cal.insert_perm n.torn).symm
            exact List.perm_append_comm.trans (List.Perm.cons b N.pm)
          · intro x o e h1 h2
            rw [upd_ne (ne_new e np'), upd_ne h2]
            exact e
    · rw [decide_eq_false c1]
      refine iteT ?_
      refine ⟨_, rfl, by show 1 ≤ sizeLine; decide, fun p np => ?_⟩
      have hs : Uw24.step n (.tear b) = (n, Uw24.ok (-2)) := by
        simp only [Uw24.step]
        rw [if_pos (by omega)]
      exact D.same N np (by rw [hs]) (by rw [hs]; rfl)
end Nm

set_option Elab.async false
set_option maxRecDepth 100000
set_option maxHeartbeats 2000000
namespace Nm
open PySem PySem.Spec PyProof.Rows L2
open PySem.W (Codec)
variable {P : Program} {w : World} {K : PySem.W.Frag} {mg : Str → Option Value} {base : Heap} {C : Addr}

theorem place_of {b : Nat} : ∀ {L : List Nat}, b ∈ L → ∃ j : Nat, (Cal.nts L)[j]? = some (b : Int) ∧ (∀ m : Nat, m < j → (Cal.nts L)[m]? ≠ some (b : Int)) ∧ (Cal.nts L).eraseIdx j = Cal.nts (L.erase b)
  | [], h => by cases h
  | c :: L, h => by
    by_cases q : c = b
    · subst q
      refine ⟨0, rfl, fun m hm => by omega, ?_⟩
      rw [List.erase_cons_head]
      rfl
    · have hb : b ∈ L := by
        rcases List.mem_cons.mp h with e | e
        · exact absurd e.symm q
        · exact e
      obtain ⟨j, h1, h2, h3⟩ := place_of hb
      refine ⟨j + 1, h1, ?_, ?_⟩
      · intro m hm
        cases m with
        | zero =>
          intro e
          have e' : (c : Int) = (b : Int) := Option.some.inj e
          exact q (by omega)
        | succ m => exact h2 m (by omega)
      · rw [List.erase_cons_tail (by simpa using q)]
        show (c : Int) :: (Cal.nts L).eraseIdx j = (c : Int) :: Cal.nts (L.erase b)
        rw [h3]

/-! ### mend -/
def spMend (C : Addr) : Sp := fun vs H Q _ => ∃ (a t : Addr) (n : Uw24.Net) (L : List Nat) (b : Nat), vs = [.ref a, .int b] ∧ NetAt C H a t n L ∧ Done C H a t (Uw24.step n (.mend b)) Q
theorem scMend : FnScope ["self", "bar"] ["self", "bar"] (defScope sMend) := ⟨rfl, rfl, rfl, by decide +kernel, rfl, by decide +kernel, by decide +kernel⟩
theorem ok_mend {f fH : Addr} {fd fdH : FuncData} (F : Fun K "mend" "Net.mend" sMend f fd) (T : Txt K mg C)
    (GH : FnOk P w K mg base CX0 3 fH fdH ["self", "bar"] (spHas C)) (mH : Meth K C "has_bar" fH) (bH : Binds K fdH ["self", "bar"] []) : FnOk P w K mg base CX0 4 f fd ["self", "bar"] (spMend C) := by
  refine F.ok scMend (fun vs H Q E h => ?_) (fun cdv A outer s H vs Q E hr h => ⟨_,
    pss_cons (ps_if (pt_not (pt_val (pe_meth (pv 0) T.cl mH GH hr bH .nil pass0 (pa_cons (pv 1) pa_nil)))) (pss_one (ps_ret (pe_lst (pa_cons (pe_un un_neg pe_int) pa_nil)))) pss_nil)
    (pss_cons (ps_if (pt_cmpR op_notIn_seq (pv 1) (pe_fld (pv 0) rfl) (by rfl)) (pss_one (ps_ret (pe_lst (pa_cons (pe_un un_neg pe_int) pa_nil)))) pss_nil)
    (pss_cons (ps_expr (pe_bm PySem.F.plainAttrs_list PySem.F.slot_list_remove PySem.F.type_list_remove mt_remove (pe_fld (pv 0) rfl) (pa_cons (pv 1) pa_nil)))
    (pss_one (ps_ret (pe_lst (pa_cons (pe_callB call_len_seq (by rfl) T.len PySem.boot_len (pa_cons (pe_fld (pv 0) rfl) pa_nil)) pa_nil)))))), ?_⟩)
  · obtain ⟨a, t, n, L, b, rfl, _⟩ := h
    rfl
  · obtain ⟨a, t, n, L, b, rfl, N, D⟩ := h
    obtain ⟨dx, ha⟩ := N.ob
    refine ⟨_, rfl, a, dx, _, rfl, ha, nF_no (by decide +kernel) (by decide +kernel) (by decide +kernel), _, rfl, ?_⟩
    refine ⟨a, t, n, L, b, rfl, N, ?_⟩
    refine ⟨_, rfl, ?_⟩
    by_cases c1 : b < n.bars
    · rw [decide_eq_true c1]
      refine iteF ?_
      refine ⟨_, rfl, _, rfl, a, C, dx, _, _, rfl, ha, T.cl, T.nT, nF_torn, t, _, rfl, .inl (SqL.of N.ls), rfl, flat_ints, _, rfl, ?_⟩
      simp only [if_true]
      rw [in_ints]
      by_cases c2 : b ∈ L
      · rw [decide_eq_true c2]
        refine iteF ?_
        have b2 : ¬ n.torn.contains b = false := by
          rw [Bool.not_eq_false]
          exact List.contains_iff_mem.mpr (N.pm.mem_iff.mp c2)
        obtain ⟨j, p1, p2, p3⟩ := place_of c2
        refine ⟨_, rfl, a, C, dx, _, _, rfl, ha, T.cl, T.nT, nF_torn, .inl ⟨rfl, _, SqL.of N.ls⟩, _, rfl, t, Cal.nts L, _, j, rfl, rfl, N.ls, p1, p2, ?_⟩
        rw [p3]
        have at_ne : a ≠ t := by intro e; have q := N.ls; rw [← e, ha] at q; cases q
        have ha' : upd H t (.lst ((Cal.nts (L.erase b)).map V.int)) a = some (.ins C dx (nF n.wide n.high t)) := by rw [upd_ne at_ne]; exact ha
        refine ⟨_, rfl, a, C, dx, _, _, rfl, ha', T.cl, T.nT, nF_torn, t, _, rfl, .inl (SqL.of upd_same), ?_⟩
        refine ⟨by show 1 ≤ sizeLine; decide, fun p np => ?_⟩
        have hs : Uw24.step n (.mend b) = ({ n with torn := n.torn.filter fun c => c != b }, Uw24.ok (n.torn.length - 1 : Nat)) := by
          simp only [Uw24.step]
          rw [if_neg (by omega), if_neg b2]
        have inv' := Cal.step_inv N.inv (.mend b)
        have np' : H p = none := by
          by_cases q : p = t
          · rw [q, upd_same] at np; cases np
          · rw [upd_ne q] at np; exact np
        have pt : t ≠ p := ne_new N.ls np'
        have pa : a ≠ p := ne_new ha np'
        refine D _ p t (L.erase b) np' ?_ ⟨⟨dx, ?_⟩, ?_, ?_, inv'⟩ (.inl rfl) ?_
        · rw [hs, upd_same]
          have e : Uw24Neutral.out (Uw24.ok (n.torn.length - 1 : Nat)) = [((n.torn.length - 1 : Nat) : Int)] := rfl
          rw [e, ints_len, List.length_erase_of_mem c2, N.pm.length_eq]
          rfl
        · rw [hs, upd_ne pa, ha']
        · rw [upd_ne pt, upd_same]
        · rw [hs]
          show (L.erase b).Perm (n.torn.filter fun c => c != b)
          rw [← List.Nodup.erase_eq_filter N.inv.fine.nd b]
          exact N.pm.erase b
        · intro x o e h1 h2
          rw [upd_ne (ne_new e np'), upd_ne h2]
          exact e
      · rw [decide_eq_false c2]
        refine iteT ?_
        refine ⟨_, rfl, by show 1 ≤ sizeLine; decide, fun p np => ?_⟩
        have hs : Uw24.step n (.mend b) = (n, Uw24.ok (-4)) := by
          simp only [Uw24.step]
          rw [if_neg (by omega), if_pos]
          rw [← Bool.not_eq_true]
          exact fun h => c2 (N.pm.mem_iff.mpr (List.contains_iff_mem.mp h))
        exact D.same N np (by rw [hs]) (by rw [hs]; rfl)
    · rw [decide_eq_false c1]
      refine iteT ?_
      refine ⟨_, rfl, by show 1 ≤ sizeLine; decide, fun p np => ?_⟩
      have hs : Uw24.step n (.mend b) = (n, Uw24.ok (-2)) := by
        simp only [Uw24.step]
        rw [if_pos (by omega)]
      exact D.same N np (by rw [hs]) (by rw [hs]; rfl)

end Nm

set_option Elab.async false
set_option maxRecDepth 100000
set_option maxHeartbeats 2000000
namespace Nm
open PySem PySem.Spec PyProof.Rows L2
open PySem.W (Codec)
variable {P : Program} {w : World} {K : PySem.W.Frag} {mg : Str → Option Value} {base : Heap} {C : Addr}

/-! ### Net() -/
def spInit (C : Addr) : Sp := fun vs H Q _ => ∃ (p dx : Addr), vs = [.ref p] ∧ H p = some (.ins C dx []) ∧
  ∀ (H' : Hp) (t : Addr), H t = none → NetAt C H' p t Uw24.init [] → (∀ b o, H b = some o → b ≠ p → H' b = some o) → Q .non H'
theorem scInit : FnScope ["self"] ["self"] (defScope sInit) := ⟨rfl, rfl, rfl, by decide +kernel, rfl, by decide +kernel, by decide +kernel⟩
theorem new_fields {w h : Nat} {t : Addr} : putF "torn" (.ref t) (putF "high" (.int h) (putF "wide" (.int w) [])) = nF w h t := by
  have e1 : putF "wide" (.int w) [] = [(("wide" : Str), V.int w)] := rfl
  rw [e1, put_past (by decide +kernel), put_past (by decide +kernel)]
  have e2 : putF "high" (.int h) [] = [(("high" : Str), V.int h)] := rfl
  rw [e2, put_past (by decide +kernel)]
  rfl
theorem set_wide {w h w' : Nat} {t : Addr} : putF "wide" (.int w') (nF w h t) = nF w' h t := put_here
theorem set_high {w h h' : Nat} {t : Addr} : putF "high" (.int h') (nF w h t) = nF w h' t := (put_past (by decide +kernel)).trans (congrArg _ put_here)
theorem set_torn {w h : Nat} {t t' : Addr} : putF "torn" (.ref t') (nF w h t) = nF w h t' := (put_past (by decide +kernel)).trans (congrArg _ ((put_past (by decide +kernel)).trans (congrArg _ put_here)))
theorem ok_init {f : Addr} {fd : FuncData} (F : Fun K "__init__" "Net.__init__" sInit f fd) (T : Txt K mg C) : FnOk P w K mg base CX0 1 f fd ["self"] (spInit C) := by
  refine F.ok scInit (fun vs H Q E h => ?_) (fun cdv A outer s H vs Q E hr h => ⟨_,
    pss_cons (ps_fld (pv 0) pe_int rfl) (pss_cons (ps_fld (pv 0) pe_int rfl) (pss_one (ps_fld (pv 0) (pe_lst pa_nil) rfl))), ?_⟩)
  · obtain ⟨p, dx, rfl, _⟩ := h
    rfl
  · obtain ⟨p, dx, rfl, hp, k⟩ := h
    refine ⟨_, rfl, p, C, dx, [], rfl, hp, T.cl, T.nW, (by show 0 < 1000; decide), ?_⟩
    refine ⟨_, rfl, p, C, dx, _, rfl, upd_same, T.cl, T.nH, (by show 1 < 1000; decide), ?_⟩
    refine ⟨by show 0 ≤ sizeLine; decide, fun t nt => ?_⟩
    have tp : p ≠ t := by intro e; rw [← e, upd_same] at nt; cases nt
    have nt' : H t = none := by rw [upd_ne tp.symm, upd_ne tp.symm] at nt; exact nt
    refine ⟨_, rfl, p, C, dx, _, rfl, ((upd_ne tp).trans upd_same), T.cl, T.nT, (by show 2 < 1000; decide), ?_⟩
    refine k _ t nt' ⟨⟨dx, ?_⟩, ?_, List.Perm.refl _, Cal.init_inv⟩ ?_
    · rw [upd_same]
      have e := @new_fields 2 2 t
      exact congrArg (fun q => some (HO.ins C dx q)) e
    · rw [upd_ne tp.symm, upd_same]
      rfl
    · intro b o e hb
      rw [upd_ne hb, upd_ne (ne_new e nt'), upd_ne hb, upd_ne hb]
      exact e

/-! ### begins -/
def spBeg (C : Addr) : Sp := fun vs H Q _ => ∃ (a t : Addr) (n : Uw24.Net) (L : List Nat) (x y : Nat), vs = [.ref a, .int x, .int y] ∧ NetAt C H a t n L ∧ Done C H a t (Uw24.step n (.begins x y)) Q
theorem scBeg : FnScope ["self", "wide", "high"] ["self", "wide", "high"] (defScope sBeg) := ⟨rfl, rfl, rfl, by decide +kernel, rfl, by decide +kernel, by decide +kernel⟩
theorem ok_beg {f fS fA : Addr} {fd fdS fdA : FuncData} (F : Fun K "begins" "Net.begins" sBeg f fd) (T : Txt K mg C)
    (GS : FnOk P w K mg base CX0 1 fS fdS ["knots"] spSide) (gS : mg "is_side" = some (.ref fS)) (kS : PySem.W.keepIn K (.ref fS) = true) (bS : Binds K fdS ["knots"] [])
    (GA : FnOk P w K mg base CX0 2 fA fdA ["self"] (spAll C)) (mA : Meth K C "all_bars" fA) (bA : Binds K fdA ["self"] []) : FnOk P w K mg base CX0 3 f fd ["self", "wide", "high"] (spBeg C) := by
  refine F.ok scBeg (fun vs H Q E h => ?_) (fun cdv A outer s H vs Q E hr h => ⟨_,
    pss_cons (ps_if (pt_not (PW.pt (pw_and (pt_val (pe_call GS (hr.mono (by decide)) rfl gS kS bS .nil pass0 (pa_cons (pv 1) pa_nil))) (pw_and1 (pt_val (pe_call GS (hr.mono (by decide)) rfl gS kS bS .nil pass0 (pa_cons (pv 2) pa_nil)))))))
      (pss_one (ps_ret (pe_lst (pa_cons (pe_un un_neg pe_int) pa_nil)))) pss_nil)
    (pss_cons (ps_fld (pv 0) (pv 1) rfl) (pss_cons (ps_fld (pv 0) (pv 2) rfl) (pss_cons (ps_fld (pv 0) (pe_lst pa_nil) rfl)
    (pss_one (ps_ret (pe_lst (pa_cons (pe_meth0 (pv 0) T.cl mA GA hr bA .nil pass0) pa_nil))))))), ?_⟩)
  · obtain ⟨a, t, n, L, x, y, rfl, _⟩ := h
    rfl
  · obtain ⟨a, t, n, L, x, y, rfl, N, D⟩ := h
    obtain ⟨dx, ha⟩ := N.ob
    refine ⟨_, rfl, _, rfl, _, rfl, ?_⟩
    have no : ¬ (2 ≤ x ∧ x ≤ 4 ∧ 2 ≤ y ∧ y ≤ 4) → ∀ p, H p = none → Q (.ref p) (upd H p (.lst [.int (-1)])) := by
      intro q p np
      have hs : Uw24.step n (.begins x y) = (n, Uw24.ok (-1)) := by
        simp only [Uw24.step]
        rw [if_pos (by unfold Uw24.SIDE; omega)]
      exact D.same N np (by rw [hs]) (by rw [hs]; rfl)
    by_cases c1 : (2 : Int) ≤ (x : Int) ∧ (x : Int) ≤ 4
    · rw [decide_eq_true c1]
      refine iteT ?_
      refine ⟨_, rfl, _, rfl, _, rfl, ?_⟩
      by_cases c2 : (2 : Int) ≤ (y : Int) ∧ (y : Int) ≤ 4
      · rw [decide_eq_true c2]
        refine iteF ?_
        refine ⟨_, rfl, _, rfl, a, C, dx, _, rfl, ha, T.cl, T.nW, (by show 3 < 1000; decide), ?_⟩
        rw [set_wide]
        refine ⟨_, rfl, _, rfl, a, C, dx, _, rfl, upd_same, T.cl, T.nH, (by show 3 < 1000; decide), ?_⟩
        rw [set_high]
        refine ⟨by show 0 ≤ sizeLine; decide, fun u nu => ?_⟩
        have ua : a ≠ u := by intro e; rw [← e, upd_same] at nu; cases nu
        have nu' : H u = none := by rw [upd_ne ua.symm, upd_ne ua.symm] at nu; exact nu
        refine ⟨_, rfl, a, C, dx, _, rfl, ((upd_ne ua).trans upd_same), T.cl, T.nT, (by show 3 < 1000; decide), ?_⟩
        rw [set_torn]
        have hs : Uw24.step n (.begins x y) = (⟨x, y, []⟩, Uw24.ok ((⟨x, y, []⟩ : Uw24.Net).bars : Nat)) := by
          simp only [Uw24.step]
          rw [if_neg (by unfold Uw24.SIDE; omega)]
        have inv' := Cal.step_inv N.inv (.begins x y)
        rw [hs] at inv'
        have N' : NetAt C (upd (upd (upd (upd H a (.ins C dx (nF x n.high t))) a (.ins C dx (nF x y t))) u (.lst [])) a (.ins C dx (nF x y u))) a u ⟨x, y, []⟩ [] :=
          ⟨⟨dx, upd_same⟩, by rw [upd_ne ua.symm, upd_same]; rfl, List.Perm.refl _, inv'⟩
        obtain ⟨dx', ha'⟩ := N'.ob
        refine ⟨_, rfl, a, dx', _, rfl, ha', nF_no (by decide +kernel) (by decide +kernel) (by decide +kernel), ?_⟩
        refine ⟨a, u, _, [], rfl, N', ?_⟩
        refine ⟨by show 1 ≤ sizeLine; decide, fun p np => ?_⟩
        have pa : p ≠ a := by intro e; rw [e, upd_same] at np; cases np
        have pu : p ≠ u := by intro e; rw [e, upd_ne ua.symm, upd_same] at np; cases np
        have np' : H p = none := by rw [upd_ne pa, upd_ne pu, upd_ne pa, upd_ne pa] at np; exact np
        refine D _ p u [] np' ?_ ?_ (.inr nu') ?_
        · rw [hs, upd_same]
          rfl
        · rw [hs]
          exact N'.new np
        · intro b o e h1 h2
          rw [upd_ne (ne_new e np'), upd_ne h1, upd_ne (ne_new e nu'), upd_ne h1, upd_ne h1]
          exact e
      · rw [decide_eq_false c2]
        refine iteT ?_
        exact ⟨_, rfl, by show 1 ≤ sizeLine; decide, fun p np => no (by omega) p np⟩
    · rw [decide_eq_false c1]
      refine iteF ?_
      refine iteT ?_
      exact ⟨_, rfl, by show 1 ≤ sizeLine; decide, fun p np => no (by omega) p np⟩
end Nm

set_option Elab.async false
set_option maxRecDepth 100000
set_option maxHeartbeats 2000000
namespace Nm
open PySem PySem.Spec PyProof.Rows L2
open PySem.W (Codec)
variable {P : Program} {w : World} {K : PySem.W.Frag} {mg : Str → Option Value} {base : Heap} {C : Addr}

/-! ### Bits of numbers -/
theorem band (a b : Nat) : Builtin.bitAnd (a : Int) (b : Int) = ((a &&& b : Nat) : Int) := by
  unfold Builtin.bitAnd
  rw [decide_eq_true (Int.natCast_nonneg a), decide_eq_true (Int.natCast_nonneg b)]
  rfl
theorem bnot_nat (a : Nat) : Builtin.bitNot (a : Int) = -(a : Int) - 1 := by unfold Builtin.bitNot; omega
theorem bor (a b : Nat) : Builtin.bitOr (a : Int) (b : Int) = ((a ||| b : Nat) : Int) := by
  unfold Builtin.bitOr Builtin.bitAnd
  have e1 : decide (0 ≤ Builtin.bitNot (a : Int)) = false := decide_eq_false (by rw [bnot_nat]; omega)
  have e2 : decide (0 ≤ Builtin.bitNot (b : Int)) = false := decide_eq_false (by rw [bnot_nat]; omega)
  have e3 : ∀ c : Nat, Builtin.bitNot (Builtin.bitNot (c : Int)) = c := fun c => by unfold Builtin.bitNot; omega
  have e4 : ∀ z : Int, Builtin.bitNot (Builtin.bitNot z) = z := fun z => by unfold Builtin.bitNot; omega
  rw [e1, e2, e3, e3, e4]
  rfl
theorem xor_or_and (a : Nat) : ∀ b : Nat, (a ^^^ b) + (a &&& b) = (a ||| b) := by
  induction a using Nat.strongRecOn with
  | _ a ih =>
    intro b
    by_cases c : a = 0
    · subst c; rw [Nat.zero_xor, Nat.zero_and, Nat.zero_or]; rfl
    · have q := ih (a / 2) (by omega) (b / 2)
      have d1 := @Nat.xor_div_two_pow a b 1
      have d2 := @Nat.and_div_two_pow a b 1
      have d3 := @Nat.or_div_two_pow a b 1
      have m1 := @Nat.xor_mod_two_pow a b 1
      have m2 := @Nat.and_mod_two_pow a b 1
      have m3 := @Nat.or_mod_two_pow a b 1
      rw [Nat.pow_one] at d1 d2 d3 m1 m2 m3
      have r : (a % 2 ^^^ b % 2) + (a % 2 &&& b % 2) = (a % 2 ||| b % 2) := by
        rcases Nat.mod_two_eq_zero_or_one a with e | e <;> rcases Nat.mod_two_eq_zero_or_one b with e' | e' <;> rw [e, e'] <;> rfl
      omega
theorem bxor (a b : Nat) : Builtin.bitXor (a : Int) (b : Int) = ((a ^^^ b : Nat) : Int) := by
  unfold Builtin.bitXor
  rw [bor, band]
  have := xor_or_and a b
  omega

/-! ### Heaps that grow -/
def Ext (H H' : Hp) : Prop := ∀ b o, H b = some o → H' b = some o
theorem Ext.refl {H : Hp} : Ext H H := fun _ _ h => h
theorem Ext.trans {H H1 H2 : Hp} (h : Ext H H1) (g : Ext H1 H2) : Ext H H2 := fun b o e => g b o (h b o e)
theorem Ext.new {H : Hp} {p : Addr} {o : HO} (np : H p = none) : Ext H (upd H p o) := fun b o e => by
  rw [upd_ne (ne_new e np)]; exact e
/-- an object that was new is changed -/
theorem Ext.upd {H H1 : Hp} {p : Addr} {o : HO} (h : Ext H H1) (np : H p = none) : Ext H (upd H1 p o) := fun b o' e => by
  rw [upd_ne (ne_new e np)]; exact h b o' e
theorem Ext.none {H H1 : Hp} {p : Addr} (h : Ext H H1) (np : H1 p = none) : H p = none := by
  cases e : H p with
  | none => rfl
  | some o => rw [h p o e] at np; cases np
theorem NetAt.ext {H H1 : Hp} {a t : Addr} {n : Uw24.Net} {L : List Nat} (N : NetAt C H a t n L) (h : Ext H H1) : NetAt C H1 a t n L := by
  obtain ⟨dx, ha⟩ := N.ob
  exact ⟨⟨dx, h _ _ ha⟩, h _ _ N.ls, N.pm, N.inv⟩
/-- a list of numbers at an address -/
abbrev Ls (l : List Nat) : HO := .lst ((Cal.nts l).map V.int)
/-- a new list of numbers -/
def NewL (H : Hp) (l : List Nat) (Q : VK) : Prop := ∀ (H' : Hp) (p : Addr), H p = none → H' p = some (Ls l) → Ext H H' → Q (.ref p) H'
/-- a value, and perhaps things thrown away -/
def Val (H : Hp) (v : V) (Q : VK) : Prop := ∀ H', Ext H H' → Q v H'

theorem Ls_snoc {l : List Nat} {b : Nat} : HO.lst ((Cal.nts l).map V.int ++ [V.int b]) = Ls (l ++ [b]) := by rw [ints_snoc]
theorem ints_get {l : List Nat} {i b : Nat} (h : l[i]? = some b) : ((Cal.nts l).map V.int)[i]? = some (V.int b) := by
  rw [List.getElem?_map, List.getElem?_map, h]; rfl
theorem ints_at {l : List Nat} {i : Nat} {x : V} (h : ((Cal.nts l).map V.int)[i]? = some x) : ∃ b, l[i]? = some b ∧ x = V.int b := by
  rw [List.getElem?_map, List.getElem?_map] at h
  cases e : l[i]? with
  | none => rw [e] at h; cases h
  | some b => rw [e] at h; cases h; exact ⟨b, rfl, rfl⟩
theorem take_succ' {α : Type} {l : List α} {i : Nat} {b : α} (h : l[i]? = some b) : l.take (i + 1) = l.take i ++ [b] := by
  rw [List.take_add_one, h]; rfl

/-! ### bit_of, pair_of -/
def spBit : Sp := fun vs H Q _ => ∃ k : Nat, vs = [.int k] ∧ k < 1000 ∧ Q (.int ((2 ^ k : Nat) : Int)) H
theorem scBit : FnScope ["knot"] ["knot"] (defScope sBit) := ⟨rfl, rfl, rfl, by decide +kernel, rfl, by decide +kernel, by decide +kernel⟩
theorem ok_bit {f : Addr} {fd : FuncData} (F : Fun K "bit_of" "bit_of" sBit f fd) : FnOk P w K mg base CX0 1 f fd ["knot"] spBit := by
  refine F.ok scBit (fun vs H Q E h => ?_) (fun cdv A outer s H vs Q E hr h => ⟨_, pss_one (ps_ret (pe_op op_oneShl pe_int (pv 0))), ?_⟩)
  · obtain ⟨k, rfl, _⟩ := h
    rfl
  · obtain ⟨k, rfl, hk, q⟩ := h
    refine ⟨_, rfl, k, rfl, rfl, by omega, ?_⟩
    have e : ((2 ^ k : Nat) : Int) = 2 ^ k := by rw [Int.natCast_pow]; rfl
    rw [e] at q
    exact q

def spPair : Sp := fun vs H Q _ => ∃ a b : Nat, vs = [.int a, .int b] ∧ a < 1000 ∧ b < 1000 ∧ Q (.int (Bit.pr a b : Nat)) H
theorem scPair : FnScope ["knot", "other"] ["knot", "other"] (defScope sPair) := ⟨rfl, rfl, rfl, by decide +kernel, rfl, by decide +kernel, by decide +kernel⟩
theorem ok_pair {f fB : Addr} {fd fdB : FuncData} (F : Fun K "pair_of" "pair_of" sPair f fd)
    (GB : FnOk P w K mg base CX0 1 fB fdB ["knot"] spBit) (gB : mg "bit_of" = some (.ref fB)) (kB : PySem.W.keepIn K (.ref fB) = true) (bB : Binds K fdB ["knot"] []) : FnOk P w K mg base CX0 2 f fd ["knot", "other"] spPair := by
  refine F.ok scPair (fun vs H Q E h => ?_) (fun cdv A outer s H vs Q E hr h => ⟨_, pss_one (ps_ret (pe_op op_or
    (pe_call GB hr rfl gB kB bB .nil pass0 (pa_cons (pv 0) pa_nil)) (pe_call GB hr rfl gB kB bB .nil pass0 (pa_cons (pv 1) pa_nil)))), ?_⟩)
  · obtain ⟨a, b, rfl, _⟩ := h
    rfl
  · obtain ⟨a, b, rfl, ha, hb, q⟩ := h
    refine ⟨_, rfl, a, rfl, ha, _, rfl, b, rfl, hb, _, _, rfl, rfl, ?_⟩
    have e := bor (2 ^ a) (2 ^ b)
    unfold Bit.pr at q
    rw [← e] at q
    exact q

/-! ### knots_in, odd_knots -/
theorem and_bit (x k : Nat) : (((x &&& 2 ^ k : Nat) : Int) != 0) = x.testBit k := by
  have e : (((x &&& 2 ^ k : Nat) : Int) != 0) = (x &&& 2 ^ k != 0) := by
    rw [Bool.eq_iff_iff, bne_iff_ne, bne_iff_ne]; omega
  rw [e, Bool.eq_iff_iff, Bit.and_ne]
  constructor
  · rintro ⟨j, h1, h2⟩
    rw [Nat.testBit_two_pow, decide_eq_true_iff] at h2
    rw [h2]; exact h1
  · exact fun h => ⟨k, h, by rw [Nat.testBit_two_pow]; exact decide_eq_true rfl⟩
/-- a value as a test -/
abbrev tTr (K : PySem.W.Frag) (te : TE) : TT := fun σ H Q => te σ H fun x H' => ∃ k, TruV K x H' k ∧ Q k H'
abbrev rAnd : R2 := rI0 fun i j => .int (Builtin.bitAnd i j)
def spKin : Sp := fun vs H Q _ => ∃ x : Nat, vs = [.int x] ∧ NewL H (Bit.kin x) Q
theorem scKin : FnScope ["bits", "knot"] ["bits"] (defScope sKin) := ⟨rfl, rfl, rfl, by decide +kernel, rfl, by decide +kernel, by decide +kernel⟩
theorem ok_kin {f fB : Addr} {fd fdB : FuncData} (F : Fun K "knots_in" "knots_in" sKin f fd) (T : Txt K mg C)
    (GB : FnOk P w K mg base CX0 1 fB fdB ["knot"] spBit) (gB : mg "bit_of" = some (.ref fB)) (kB : PySem.W.keepIn K (.ref fB) = true) (bB : Binds K fdB ["knot"] []) : FnOk P w K mg base CX0 2 f fd ["bits"] spKin := by
  obtain ⟨tK, gK⟩ := T.gK
  refine F.ok scKin (fun vs H Q E h => ?_) (fun cdv A outer s H vs Q E hr h => ⟨_, pss_one (ps_ret
    (pe_lc (own := [("knot", 1)]) (g := gName 1) (tt := tTr K (tOp rAnd (tVar 0) (tCall spBit [] E0 (tCons (tVar 1) tNil)))) rfl scKin.nd (pi_range1 rfl T.rng (pa_cons (pe_glob (v := .int 16) rfl gK ⟨_, rfl⟩) pa_nil))
      (blkOk_by (N := ["bits", "knot"]) (sc := defScope sKin) (by decide +kernel)) (fun _ _ _ _ _ => pg_name (i := 1) scKin.nd rfl (Or.inl rfl))
      (fun _ _ _ _ _ => pts_one (pt_truth (pe_op op_and (pv 0) (pe_call GB hr rfl gB kB bB .nil pass0 (pa_cons (pv 1) pa_nil))) (by intro _; rfl)))
      (fun _ _ _ _ _ => pv 1))), ?_⟩)
  · obtain ⟨x, rfl, _⟩ := h
    rfl
  · obtain ⟨x, rfl, q⟩ := h
    refine ⟨16, rfl, by decide, by decide, fun D hD => lc_range (lo := 0) (n := 16) (fun i H1 => Ext H H1 ∧ H1 D = some (Ls ((List.range i).filter fun k => x.testBit k))) ?_ ?_ ?_⟩
    · exact ⟨Ext.new hD, upd_same⟩
    · intro i H1 hi hP
      obtain ⟨h1, h2⟩ := hP
      refine ⟨rfl, _, rfl, _, rfl, i, ?_, by omega, _, _, rfl, rfl, _, rfl, ?_⟩
      · show [V.int (0 + (i : Int))] = _
        rw [Int.zero_add]
      · have e : ((Builtin.bitAnd (x : Int) ((2 ^ i : Nat) : Int)) != 0) = x.testBit i := by rw [band]; exact and_bit x i
        rw [e]
        cases c : x.testBit i with
        | true =>
          refine iteT ?_
          refine ⟨_, rfl, _, h2, ?_, h1.upd hD, ?_⟩
          · rw [ints_len]
            have : ((List.range i).filter fun k => x.testBit k).length ≤ (List.range i).length := List.length_filter_le _ _
            rw [List.length_range] at this
            show _ < 2 ^ 24
            omega
          · rw [upd_same]
            have e2 : V.int (0 + (i : Int)) = V.int (i : Nat) := by rw [Int.zero_add]
            rw [e2, ints_snoc]
            have e3 : (List.range (i + 1)).filter (fun k => x.testBit k) = (List.range i).filter (fun k => x.testBit k) ++ [i] := by
              rw [List.range_succ, List.filter_append, List.filter_cons, if_pos c]; rfl
            rw [e3]
        | false =>
          refine iteF ?_
          refine ⟨h1, ?_⟩
          have e3 : (List.range (i + 1)).filter (fun k => x.testBit k) = (List.range i).filter (fun k => x.testBit k) := by
            rw [List.range_succ, List.filter_append, List.filter_cons, if_neg (by rw [c]; decide)]; exact List.append_nil _
          rw [e3]
          exact h2
    · intro H1 hP
      exact q H1 D hD hP.2 hP.1
end Nm

set_option Elab.async false
set_option maxRecDepth 100000
set_option maxHeartbeats 2000000
namespace Nm
open PySem PySem.Spec PyProof.Rows L2
open PySem.W (Codec)
variable {P : Program} {w : World} {K : PySem.W.Frag} {mg : Str → Option Value} {base : Heap} {C : Addr}

theorem ints_map {l : List Nat} : (Cal.nts l).map V.int = l.map fun (b : Nat) => V.int (b : Int) := List.map_map

theorem Ls_eq {l : List Nat} : Ls l = .lst (l.map fun (b : Nat) => V.int (b : Int)) := by unfold Ls; rw [ints_map]

/-! ### Comprehensions -/
theorem take_filter {α : Type} {l : List α} {i : Nat} {b : α} {p : α → Bool} (h : l[i]? = some b) :
    (l.take (i + 1)).filter p = (l.take i).filter p ++ if p b = true then [b] else [] := by
  rw [take_succ' h, List.filter_append, List.filter_cons]; rfl
/-- one turn's wish -/
abbrev Turn (g : TG) (tt : TT) (te : TE) (vs : List Nat) (σ : L2.St) (x : V) (H1 : Hp) (Y : V → Hp → Prop) (Z : Hp → Prop) : Prop :=
  g x (wipe σ vs) H1 fun σ2 H2 => wipe σ2 vs = wipe σ vs ∧ tt σ2 H2 fun b H3 => if b = true then te σ2 H3 Y else Z H3

theorem lc_gen {α : Type} {a D : Addr} {H : Hp} {g : TG} {tt : TT} {te : TE} {vs : List Nat} {σ : L2.St} {Qd : Hp → Prop} (xs : List α) (v f : α → V) (p : α → Bool) (hD : H D = none)
    (ha : H a = some (.lst (xs.map v))) (hl : xs.length < 1000000)
    (hs : ∀ x, x ∈ xs → ∀ H1, Ext H H1 → ∀ Y Z, (∀ H3, Ext H1 H3 → p x = false → Z H3) → (∀ H4, Ext H1 H4 → p x = true → Y (f x) H4) → Turn g tt te vs σ (v x) H1 Y Z)
    (hd : ∀ H1, Ext H H1 → H1 D = some (.lst ((xs.filter p).map f)) → Qd H1) :
    ∃ W : Nat → Nat → Hp → Prop, (∃ m, W 0 m (upd H D (HO.lst []))) ∧ ∀ (i m : Nat) (H : Hp), W i m H → (Itl K a).stop i H ∧ Qd H ∨ (Itl K a).go i H ∧ ∃ Nx : Hp → Prop,
      (∀ (H' : Hp), Nx H' → ∃ m', m' < m ∧ W (i + 1) m' H') ∧ ∀ (x : V) (H' : Hp), (Itl K a).yld i H x H' → g x (wipe σ vs) H' fun σ2 H2 => wipe σ2 vs = wipe σ vs ∧
        tt σ2 H2 fun b H3 => if b = true then te σ2 H3 fun y H4 => ∃ acc, H4 D = some (HO.lst acc) ∧ acc.length < sizeLine ∧ Nx (upd H4 D (HO.lst (acc ++ [y]))) else Nx H3 := by
  refine lc_list (K := K) (a := a) (xs := xs.map v) (fun i H1 => Ext H H1 ∧ H1 D = some (.lst (((xs.take i).filter p).map f))) ?_ ?_ ?_ ?_
  · exact ⟨Ext.new hD, upd_same⟩
  · exact fun i H1 _ h => SqL.of (h.1 _ _ ha)
  · intro i x H1 hx h
    rw [List.getElem?_map] at hx
    cases e : xs[i]? with
    | none => rw [e] at hx; cases hx
    | some y =>
      rw [e] at hx
      cases hx
      refine hs y (List.mem_of_getElem? e) H1 h.1 _ _ ?_ ?_
      · intro H3 h3 hp
        refine ⟨h.1.trans h3, ?_⟩
        rw [take_filter e, if_neg (by rw [hp]; decide), List.append_nil]
        exact h3 _ _ h.2
      · intro H4 h4 hp
        refine ⟨_, h4 _ _ h.2, ?_, (h.1.trans h4).upd hD, ?_⟩
        · rw [List.length_map]
          have h5 : ((xs.take i).filter p).length ≤ (xs.take i).length := List.length_filter_le _ _
          have h6 : (xs.take i).length ≤ xs.length := by rw [List.length_take]; omega
          show _ < 2 ^ 24
          omega
        · rw [upd_same, take_filter e, if_pos hp, List.map_append]
          rfl
  · intro H1 h
    rw [List.length_map, List.take_length] at h
    exact hd H1 h.1 h.2

theorem lc_genR {n : Nat} {D : Addr} {H : Hp} {g : TG} {tt : TT} {te : TE} {vs : List Nat} {σ : L2.St} {Qd : Hp → Prop} (f : Nat → V) (p : Nat → Bool) (hD : H D = none)
    (hl : n < 1000000)
    (hs : ∀ x, x < n → ∀ H1, Ext H H1 → ∀ Y Z, (∀ H3, Ext H1 H3 → p x = false → Z H3) → (∀ H4, Ext H1 H4 → p x = true → Y (f x) H4) → Turn g tt te vs σ (.int (x : Int)) H1 Y Z)
    (hd : ∀ H1, Ext H H1 → H1 D = some (.lst (((List.range n).filter p).map f)) → Qd H1) :
    ∃ W : Nat → Nat → Hp → Prop, (∃ m, W 0 m (upd H D (HO.lst []))) ∧ ∀ (i m : Nat) (H : Hp), W i m H → (Itr 0 n).stop i H ∧ Qd H ∨ (Itr 0 n).go i H ∧ ∃ Nx : Hp → Prop,
      (∀ (H' : Hp), Nx H' → ∃ m', m' < m ∧ W (i + 1) m' H') ∧ ∀ (x : V) (H' : Hp), (Itr 0 n).yld i H x H' → g x (wipe σ vs) H' fun σ2 H2 => wipe σ2 vs = wipe σ vs ∧
        tt σ2 H2 fun b H3 => if b = true then te σ2 H3 fun y H4 => ∃ acc, H4 D = some (HO.lst acc) ∧ acc.length < sizeLine ∧ Nx (upd H4 D (HO.lst (acc ++ [y]))) else Nx H3 := by
  refine lc_range (lo := 0) (n := n) (fun i H1 => Ext H H1 ∧ H1 D = some (.lst (((List.range i).filter p).map f))) ?_ ?_ ?_
  · exact ⟨Ext.new hD, upd_same⟩
  · intro i H1 hi h
    have e0 : V.int (0 + (i : Int)) = V.int (i : Int) := by rw [Int.zero_add]
    rw [e0]
    have e : (List.range (i + 1)).filter p = (List.range i).filter p ++ if p i = true then [i] else [] := by
      rw [List.range_succ, List.filter_append, List.filter_cons]; rfl
    refine hs i hi H1 h.1 _ _ ?_ ?_
    · intro H3 h3 hp
      refine ⟨h.1.trans h3, ?_⟩
      rw [e, if_neg (by rw [hp]; decide), List.append_nil]
      exact h3 _ _ h.2
    · intro H4 h4 hp
      refine ⟨_, h4 _ _ h.2, ?_, (h.1.trans h4).upd hD, ?_⟩
      · rw [List.length_map]
        have h5 : ((List.range i).filter p).length ≤ (List.range i).length := List.length_filter_le _ _
        rw [List.length_range] at h5
        show _ < 2 ^ 24
        omega
      · rw [upd_same, e, if_pos hp, List.map_append]
        rfl
  · exact fun H1 h => hd H1 h.1 h.2

/-! ### odd_knots -/
def spOddk : Sp := fun vs H Q _ => ∃ (a : Addr) (l : List Nat), vs = [.ref a] ∧ H a = some (Ls l) ∧ NewL H (Bit.oddk l) Q
theorem scOddk : FnScope ["pairs", "odd", "pair"] ["pairs"] (defScope sOddk) := ⟨rfl, rfl, rfl, by decide +kernel, rfl, by decide +kernel, by decide +kernel⟩
theorem ok_oddk {f fB : Addr} {fd fdB : FuncData} (F : Fun K "odd_knots" "odd_knots" sOddk f fd)
    (GB : FnOk P w K mg base CX0 2 fB fdB ["bits"] spKin) (gB : mg "knots_in" = some (.ref fB)) (kB : PySem.W.keepIn K (.ref fB) = true) (bB : Binds K fdB ["bits"] []) : FnOk P w K mg base CX0 3 f fd ["pairs"] spOddk := by
  refine F.ok scOddk (fun vs H Q E h => ?_) (fun cdv A outer s H vs Q E hr h => ⟨_,
    pss_cons (ps_set (i := 1) scOddk.nd rfl (Or.inl rfl) pe_int)
    (pss_cons (ps_for PassesOwn.never rfl (pi_list (pv 0)) (pg_name (i := 2) scOddk.nd rfl (Or.inl rfl))
      (pss_one (ps_set (i := 1) scOddk.nd rfl (Or.inl rfl) (pe_op op_xor (pv 1) (pv 2)))))
    (pss_one (ps_ret (pe_call GB hr rfl gB kB bB .nil pass0 (pa_cons (pv 1) pa_nil))))), ?_⟩)
  · obtain ⟨a, l, rfl, _⟩ := h
    rfl
  · obtain ⟨a, l, rfl, ha, q⟩ := h
    refine ⟨_, rfl, a, rfl, ⟨_, SqL.of ha⟩, for_list (xs := (Cal.nts l).map V.int)
      (fun i σ H1 => H1 = H ∧ ∃ o, σ = [some (.ref a), some (.int (((l.take i).foldl (· ^^^ ·) 0 : Nat) : Int)), o]) ?_ ?_ ?_ ?_⟩
    · exact ⟨rfl, _, rfl⟩
    · rintro i σ H1 _ ⟨rfl, _⟩
      exact SqL.of ha
    · rintro i x σ H1 hx ⟨rfl, o, rfl⟩
      obtain ⟨b, hb, rfl⟩ := ints_at hx
      refine ⟨_, rfl, _, rfl, _, _, rfl, rfl, rfl, some (.int (b : Int)), ?_⟩
      rw [take_succ' hb, List.foldl_append]
      show [some (V.ref a), some (V.int (Builtin.bitXor _ _)), some (V.int (b : Int))] = _
      rw [bxor]
      rfl
    · rintro σ H1 ⟨rfl, o, rfl⟩
      refine ⟨_, rfl, _, rfl, ?_⟩
      rw [ints_len, List.take_length]
      exact q
end Nm

set_option Elab.async false
set_option maxRecDepth 100000
set_option maxHeartbeats 2000000
namespace Nm
open PySem PySem.Spec PyProof.Rows L2
open PySem.W (Codec)
variable {P : Program} {w : World} {K : PySem.W.Frag} {mg : Str → Option Value} {base : Heap} {C : Addr}

/-! ### all_reached -/
theorem and_nat (p r : Nat) : ((Builtin.bitAnd (p : Int) (r : Int)) != 0) = (p &&& r != 0) := by
  rw [band, Bool.eq_iff_iff, bne_iff_ne, bne_iff_ne]; omega
/-- how long the list in a slot is -/
def lenAt (i : Nat) (σ : L2.St) (H : Hp) : Nat := match σ[i]? with
  | some (some (.ref a)) => match H a with
    | some (.lst xs) => xs.length
    | _ => 0
  | _ => 0
theorem lenAt_of {i : Nat} {σ : L2.St} {H : Hp} {a : Addr} {l : List Nat} (h : σ[i]? = some (some (.ref a))) (g : H a = some (Ls l)) : lenAt i σ H = l.length := by
  unfold lenAt
  rw [h]
  simp only
  rw [g]
  exact ints_len
def spReach : Sp := fun vs H Q _ => ∃ (r : Nat) (a : Addr) (l : List Nat), vs = [.int r, .ref a] ∧ H a = some (Ls l) ∧ l.length < 1000 ∧ Val H (.bl (Bit.reach r l)) Q
theorem scReach : FnScope ["bits", "pairs", "reached", "left", "pair", "near"] ["bits", "pairs"] (defScope sReach) := ⟨rfl, rfl, rfl, by decide +kernel, rfl, by decide +kernel, by decide +kernel⟩
abbrev tNear (K : PySem.W.Frag) : TT := tTr K (tOp rAnd (tVar 4) (tVar 2))
theorem ok_reach {f : Addr} {fd : FuncData} (F : Fun K "all_reached" "all_reached" sReach f fd) : FnOk P w K mg base CX0 1 f fd ["bits", "pairs"] spReach := by
  refine F.ok scReach (fun vs H Q E h => ?_) (fun cdv A outer s H vs Q E hr h => ⟨_,
    pss_cons (ps_set (i := 2) scReach.nd rfl (Or.inr rfl) (pv 0))
    (pss_cons (ps_set (i := 3) scReach.nd rfl (Or.inl rfl) (pv 1))
    (pss_cons (ps_while PassesOwn.never (pt_truth (pv 3) (by intro _; rfl))
      (pss_cons (ps_setLc (i := 5) (own := [("pair", 4)]) (g := gName 4) (tt := tNear K) rfl scReach.nd rfl rfl (sw_true rfl rfl rfl (by decide +kernel)) (pi_list (pv 3))
        (blkOk_by (N := ["bits", "pairs", "reached", "left", "pair", "near"]) (sc := defScope sReach) (by decide +kernel)) (fun _ _ _ _ _ => pg_name (i := 4) scReach.nd rfl (Or.inl rfl))
        (fun _ _ _ _ _ => pts_one (pt_truth (pe_op op_and (pv 4) (pv 2)) (by intro _; rfl))) (fun _ _ _ _ _ => pv 4))
      (pss_cons (ps_if (pt_not (pt_truth (pv 5) (by intro _; rfl))) (pss_one (ps_ret pe_bl)) pss_nil)
      (pss_cons (ps_setLc (i := 3) (own := [("pair", 4)]) (g := gName 4) (tt := tNot (tNear K)) rfl scReach.nd rfl rfl (sw_true rfl rfl rfl (by decide +kernel)) (pi_list (pv 3))
        (blkOk_by (N := ["bits", "pairs", "reached", "left", "pair", "near"]) (sc := defScope sReach) (by decide +kernel)) (fun _ _ _ _ _ => pg_name (i := 4) scReach.nd rfl (Or.inl rfl))
        (fun _ _ _ _ _ => pts_one (pt_not (pt_truth (pe_op op_and (pv 4) (pv 2)) (by intro _; rfl)))) (fun _ _ _ _ _ => pv 4))
      (pss_one (ps_for PassesOwn.never rfl (pi_list (pv 5)) (pg_name (i := 4) scReach.nd rfl (Or.inl rfl))
        (pss_one (ps_set (i := 2) scReach.nd rfl (Or.inr rfl) (pe_op op_or (pv 2) (pv 4))))))))))
    (pss_one (ps_ret pe_bl)))), ?_⟩)
  · obtain ⟨r, a, l, rfl, _⟩ := h
    rfl
  · obtain ⟨r, a, l, rfl, ha, hl, q⟩ := h
    refine ⟨_, rfl, _, rfl, ?_⟩
    simp only [gName, tSeq]
    refine while_by (fun σ H1 => Ext H H1 ∧ ∃ (r' : Nat) (a' : Addr) (l' : List Nat) (o4 o5 : Option V), σ = [some (.int r), some (.ref a), some (.int r'), some (.ref a'), o4, o5] ∧
      H1 a' = some (Ls l') ∧ l'.length ≤ l.length ∧ Bit.reach r' l' = Bit.reach r l) (lenAt 3) ?_ ?_ ?_
    · exact ⟨Ext.refl, r, a, l, none, none, rfl, ha, Nat.le_refl _, rfl⟩
    · rintro σ H1 ⟨hx, r', a', l', o4, o5, rfl, ha', hl', hR⟩
      refine ⟨_, rfl, _, .inl ⟨_, SqL.of ha', rfl⟩, ?_⟩
      by_cases c : l' = []
      · subst c
        refine iteF ?_
        rw [Bit.reach_nil] at hR
        rw [← hR] at q
        exact q H1 hx
      · refine if_true_of (by cases l' with | nil => exact absurd rfl c | cons _ _ => rfl) ?_
        have hlen : lenAt 3 [some (.int r), some (.ref a), some (.int r'), some (.ref a'), o4, o5] H1 = l'.length := lenAt_of rfl ha'
        refine ⟨_, rfl, a', rfl, ⟨_, SqL.of ha'⟩, fun D hD => lc_gen l' (fun b => V.int (b : Int)) (fun b => V.int (b : Int)) (fun p => p &&& r' != 0) hD (by rw [ha', Ls_eq]) (by omega) ?_ ?_⟩
        · intro b _ H2 h2 Y Z hZ hY
          refine ⟨rfl, _, rfl, _, rfl, _, _, rfl, rfl, _, rfl, ?_⟩
          rw [and_nat]
          cases e : (b &&& r' != 0) with
          | true => exact iteT ⟨_, rfl, hY H2 Ext.refl e⟩
          | false => exact iteF (hZ H2 Ext.refl e)
        · intro H2 h2 hD2
          have hD2' : H2 D = some (Ls (Bit.nears r' l')) := by rw [hD2, Ls_eq]; rfl
          refine ⟨_, rfl, _, .inl ⟨_, SqL.of hD2', rfl⟩, ?_⟩
          by_cases d : Bit.nears r' l' = []
          · refine if_true_of (by rw [d]; rfl) ?_
            rw [← hR, Bit.reach_stop c d] at q
            exact q H2 (hx.trans h2)
          · refine if_false_of (by cases e : Bit.nears r' l' with | nil => exact absurd e d | cons _ _ => rfl) ?_
            refine ⟨_, rfl, a', rfl, ⟨_, SqL.of (h2 _ _ ha')⟩, fun D' hD' => lc_gen l' (fun b => V.int (b : Int)) (fun b => V.int (b : Int)) (fun p => !(p &&& r' != 0)) hD' (by rw [h2 _ _ ha', Ls_eq]) (by omega) ?_ ?_⟩
            · intro b _ H3 h3 Y Z hZ hY
              refine ⟨rfl, _, rfl, _, rfl, _, _, rfl, rfl, _, rfl, ?_⟩
              rw [and_nat]
              cases e : (b &&& r' != 0) with
              | true => exact iteF (hZ H3 Ext.refl (by rw [e]; rfl))
              | false => exact iteT ⟨_, rfl, hY H3 Ext.refl (by rw [e]; rfl)⟩
            · intro H3 h3 hD3
              have hD3' : H3 D' = some (Ls (Bit.fars r' l')) := by rw [hD3, Ls_eq]; rfl
              have hn3 := h3 _ _ hD2'
              refine ⟨_, rfl, D, rfl, ⟨_, SqL.of hn3⟩, for_list (xs := (Cal.nts (Bit.nears r' l')).map V.int)
                (fun i σ H4 => H4 = H3 ∧ ∃ o, σ = [some (.int r), some (.ref a), some (.int (((Bit.nears r' l').take i).foldl (· ||| ·) r' : Nat)), some (.ref D'), o, some (.ref D)]) ?_ ?_ ?_ ?_⟩
              · exact ⟨rfl, _, rfl⟩
              · rintro i σ H4 _ ⟨rfl, _⟩
                exact SqL.of hn3
              · rintro i x σ H4 hx4 ⟨rfl, o, rfl⟩
                obtain ⟨b, hb, rfl⟩ := ints_at hx4
                refine ⟨_, rfl, _, rfl, _, _, rfl, rfl, rfl, some (.int (b : Int)), ?_⟩
                rw [take_succ' hb, List.foldl_append]
                show [some (.int r), some (.ref a), some (V.int (Builtin.bitOr _ _)), some (.ref D'), some (V.int (b : Int)), some (.ref D)] = _
                rw [bor]
                rfl
              · rintro σ H4 ⟨rfl, o, rfl⟩
                have lt := Bit.fars_lt d
                rw [ints_len, List.take_length]
                refine ⟨⟨(hx.trans h2).trans h3, _, D', Bit.fars r' l', o, _, rfl, hD3', by omega, ?_⟩, ?_⟩
                · rw [← hR]; exact (Bit.reach_go d).symm
                · rw [hlen, lenAt_of (a := D') (l := Bit.fars r' l') rfl hD3']
                  exact lt
    · exact fun σ H Q Q' h ⟨v, e, k, t, z⟩ => ⟨v, e, k, t, h _ _ z⟩
end Nm

set_option Elab.async false
set_option maxRecDepth 100000
set_option maxHeartbeats 2000000
namespace Nm
open PySem PySem.Spec PyProof.Rows L2
open PySem.W (Codec)
open Eul (Ok Fine)
variable {P : Program} {w : World} {K : PySem.W.Frag} {mg : Str → Option Value} {base : Heap} {C : Addr}

theorem fine_len {n : Uw24.Net} (o : Ok n) {l : List Nat} (f : Fine n l) : l.length ≤ 24 := by
  have := Eul.nd_le l (List.range 24) f.nd (fun x hx => List.mem_range.mpr (Nat.lt_of_lt_of_le (f.lt x hx) (Eul.bars_le o)))
  rw [List.length_range] at this
  exact this
theorem empty_ints {l : List Nat} : ((Cal.nts l).map V.int).isEmpty = l.isEmpty := by cases l <;> rfl

theorem at0 {x : V} {l : List V} : atI (x :: l) 0 = some x := atI_nat (j := 0) rfl
/-! ### has_way -/
def spWay : Sp := fun vs H Q _ => ∃ (a : Addr) (l : List Nat), vs = [.ref a] ∧ H a = some (Ls l) ∧ l.length < 1000 ∧ Val H (.bl (Bit.hasWay l)) Q
theorem scWay : FnScope ["pairs"] ["pairs"] (defScope sWay) := ⟨rfl, rfl, rfl, by decide +kernel, rfl, by decide +kernel, by decide +kernel⟩
theorem ok_way {f fO fR : Addr} {fd fdO fdR : FuncData} (F : Fun K "has_way" "has_way" sWay f fd) (T : Txt K mg C)
    (GO : FnOk P w K mg base CX0 3 fO fdO ["pairs"] spOddk) (gO : mg "odd_knots" = some (.ref fO)) (kO : PySem.W.keepIn K (.ref fO) = true) (bO : Binds K fdO ["pairs"] [])
    (GR : FnOk P w K mg base CX0 1 fR fdR ["bits", "pairs"] spReach) (gR : mg "all_reached" = some (.ref fR)) (kR : PySem.W.keepIn K (.ref fR) = true) (bR : Binds K fdR ["bits", "pairs"] []) :
    FnOk P w K mg base CX0 4 f fd ["pairs"] spWay := by
  obtain ⟨tM, gM⟩ := T.gO
  refine F.ok scWay (fun vs H Q E h => ?_) (fun cdv A outer s H vs Q E hr h => ⟨_,
    pss_cons (ps_if (pt_not (pt_truth (pv 0) (by intro _; rfl))) (pss_one (ps_ret pe_bl)) pss_nil)
    (pss_one (ps_ret (pe_and (pe_cmpR op_le (pe_callB call_len_seq (by rfl) T.len PySem.boot_len (pa_cons (pe_call GO hr rfl gO kO bO .nil pass0 (pa_cons (pv 0) pa_nil)) pa_nil)) (pe_glob (v := .int 2) rfl gM ⟨_, rfl⟩) (nomark _))
      (pe_one (pe_call GR (hr.mono (by decide)) rfl gR kR bR .nil pass0 (pa_cons (pe_ix ix_list (pv 0) pe_int (fun _ _ => rfl)) (pa_cons (pv 0) pa_nil))))))), ?_⟩)
  · obtain ⟨a, l, rfl, _⟩ := h
    rfl
  · obtain ⟨a, l, rfl, ha, hl, q⟩ := h
    refine ⟨_, rfl, _, .inl ⟨_, SqL.of ha, rfl⟩, ?_⟩
    rw [empty_ints]
    cases l with
    | nil => exact iteT (q H Ext.refl)
    | cons p l =>
      refine iteF ?_
      refine ⟨_, rfl, a, p :: l, rfl, ha, fun H1 D hD h1 hx => ?_⟩
      refine ⟨D, _, rfl, .inl (SqL.of h1), _, _, rfl, rfl, _, rfl, ?_⟩
      rw [ints_len]
      have eq : Bit.hasWay (p :: l) = (decide ((Bit.oddk (p :: l)).length ≤ 2) && Bit.reach p (p :: l)) := rfl
      rw [eq] at q
      by_cases c : (Bit.oddk (p :: l)).length ≤ 2
      · refine if_true_of (decide_eq_true (by omega)) ?_
        refine ⟨_, rfl, a, _, 0, _, rfl, rfl, SqL.of (hx _ _ ha), at0, _, rfl, p, a, p :: l, rfl, hx _ _ ha, hl, fun H2 h2 => ?_⟩
        rw [decide_eq_true c, Bool.true_and] at q
        exact q H2 (hx.trans h2)
      · refine if_false_of (decide_eq_false (by omega)) ?_
        rw [decide_eq_false c, Bool.false_and] at q
        exact q H1 hx

/-! ### first_knot -/
def spFirst : Sp := fun vs H Q _ => ∃ (a : Addr) (l : List Nat) (n : Uw24.Net) (v : List Nat), vs = [.ref a] ∧ H a = some (Ls (l.map (Bit.pp n))) ∧ Ok n ∧ Fine n l ∧ l ≠ [] ∧ n.way l = some v ∧
  ∀ k : Nat, n.first l.length l k = some v → Val H (.int k) Q
theorem scFirst : FnScope ["pairs", "odd", "pair"] ["pairs"] (defScope sFirst) := ⟨rfl, rfl, rfl, by decide +kernel, rfl, by decide +kernel, by decide +kernel⟩
theorem ok_first {f fO fB : Addr} {fd fdO fdB : FuncData} (F : Fun K "first_knot" "first_knot" sFirst f fd) (T : Txt K mg C)
    (GO : FnOk P w K mg base CX0 3 fO fdO ["pairs"] spOddk) (gO : mg "odd_knots" = some (.ref fO)) (kO : PySem.W.keepIn K (.ref fO) = true) (bO : Binds K fdO ["pairs"] [])
    (GB : FnOk P w K mg base CX0 2 fB fdB ["bits"] spKin) (gB : mg "knots_in" = some (.ref fB)) (kB : PySem.W.keepIn K (.ref fB) = true) (bB : Binds K fdB ["bits"] []) :
    FnOk P w K mg base CX0 4 f fd ["pairs"] spFirst := by
  refine F.ok scFirst (fun vs H Q E h => ?_) (fun cdv A outer s H vs Q E hr h => ⟨_,
    pss_cons (ps_set (i := 1) scFirst.nd rfl (Or.inl rfl) (pe_call GO hr rfl gO kO bO .nil pass0 (pa_cons (pv 0) pa_nil)))
    (pss_cons (ps_if (pt_truth (pv 1) (by intro _; rfl)) (pss_one (ps_ret (pe_ix ix_list (pv 1) pe_int (fun _ _ => rfl)))) pss_nil)
    (pss_one (ps_ret (pe_callB (cr_min rfl) (by rfl) T.min (by decide +kernel) (pa_cons
      (pe_lc (own := [("pair", 2)]) (g := gName 2) (tt := tYes) (te := tOp (rIxL K) (tCall spKin [] E0 (tCons (tVar 2) tNil)) (tC (.int 0))) rfl scFirst.nd (pi_list (pv 0))
        (blkOk_by (N := ["pairs", "odd", "pair"]) (sc := defScope sFirst) (by decide +kernel)) (fun _ _ _ _ _ => pg_name (i := 2) scFirst.nd rfl (Or.inl rfl))
        (fun _ _ _ _ _ => pts_nil) (fun _ _ _ _ _ => pe_ix ix_list (pe_call GB (hr.mono (by decide)) rfl gB kB bB .nil pass0 (pa_cons (pv 2) pa_nil)) pe_int (fun _ _ => rfl))) pa_nil))))), ?_⟩)
  · obtain ⟨a, l, n, v, rfl, _⟩ := h
    rfl
  · obtain ⟨a, l, n, v, rfl, ha, o, f, ne, hv, q⟩ := h
    obtain ⟨k, k1, k2, k3⟩ := Bit.way_start o f ne hv
    have q := q k k1
    refine ⟨_, rfl, a, _, rfl, ha, fun H1 D hD h1 hx => ?_⟩
    rw [Bit.oddk_odd o f.lt] at h1
    refine ⟨_, rfl, _, .inl ⟨_, SqL.of h1, rfl⟩, ?_⟩
    rw [empty_ints]
    cases e : n.odd l with
    | cons b r =>
      rw [e] at h1
      refine iteT ?_
      refine ⟨_, rfl, D, _, 0, _, rfl, rfl, SqL.of h1, at0, ?_⟩
      rw [k2 b r e]
      exact q H1 hx
    | nil =>
      refine iteF ?_
      obtain ⟨m1, m2⟩ := k3 e
      refine ⟨_, rfl, a, rfl, ⟨_, SqL.of (hx _ _ ha)⟩, fun D' hD' => lc_gen l (fun b => V.int (Bit.pp n b : Nat)) (fun b => V.int ((n.ends b).1 : Nat)) (fun _ => true) hD' ?_ ?_ ?_ ?_⟩
      · rw [hx _ _ ha, Ls_eq, List.map_map]; rfl
      · have := fine_len o f; omega
      · intro b hb H2 h2 Y Z hZ hY
        obtain ⟨r, er⟩ := Bit.kin_head o (f.lt b hb)
        refine ⟨rfl, ?_⟩
        show if true = true then tOp (rIxL K) (tCall spKin [] E0 (tCons (tVar 2) tNil)) (tC (.int 0)) _ H2 Y else Z H2
        refine iteT ?_
        refine ⟨_, rfl, _, rfl, fun H3 D3 hD3 h3 hx3 => ?_⟩
        rw [er] at h3
        exact ⟨D3, _, 0, _, rfl, rfl, SqL.of h3, at0, hY H3 hx3 rfl⟩
      · intro H2 h2 hD2
        have e3 : (l.filter fun _ => true).map (fun b => V.int ((n.ends b).1 : Nat)) = (Cal.nts (l.map fun b => (n.ends b).1)).map V.int := by
          rw [ints_map, List.map_map, List.filter_eq_self.mpr (fun _ _ => rfl)]; rfl
        rw [e3] at hD2
        refine ⟨D', _, rfl, SqL.of hD2, ?_, ?_⟩
        · rw [List.length_map, List.length_map]
          exact List.length_pos_iff.mpr ne
        · intro m hm1 hm2
          obtain ⟨m', hm', rfl⟩ := List.mem_map.mp hm1
          have h5 := m2 m' hm'
          have h6 := hm2 k (List.mem_map.mpr ⟨k, m1, rfl⟩)
          have : m' = k := by omega
          subst this
          exact q H2 (hx.trans h2)

/-! ### without -/
def spWo : Sp := fun vs H Q _ => ∃ (a : Addr) (l : List Nat) (g : Nat), vs = [.ref a, .int g] ∧ H a = some (Ls l) ∧ l.length < 1000 ∧ NewL H (Bit.wo l g) Q
theorem scWo : FnScope ["pairs", "gone", "pair"] ["pairs", "gone"] (defScope sWo) := ⟨rfl, rfl, rfl, by decide +kernel, rfl, by decide +kernel, by decide +kernel⟩
theorem ok_wo {f : Addr} {fd : FuncData} (F : Fun K "without" "without" sWo f fd) : FnOk P w K mg base CX0 1 f fd ["pairs", "gone"] spWo := by
  refine F.ok scWo (fun vs H Q E h => ?_) (fun cdv A outer s H vs Q E hr h => ⟨_, pss_one (ps_ret
    (pe_lc (own := [("pair", 2)]) (g := gName 2) rfl scWo.nd (pi_list (pv 0))
        (blkOk_by (N := ["pairs", "gone", "pair"]) (sc := defScope sWo) (by decide +kernel)) (fun _ _ _ _ _ => pg_name (i := 2) scWo.nd rfl (Or.inl rfl))
        (fun _ _ _ _ _ => pts_one (pt_cmpR op_ne (pv 2) (pv 1) (nomark _))) (fun _ _ _ _ _ => pv 2))), ?_⟩)
  · obtain ⟨a, l, g, rfl, _⟩ := h
    rfl
  · obtain ⟨a, l, g, rfl, ha, hl, q⟩ := h
    refine ⟨_, rfl, a, rfl, ⟨_, SqL.of ha⟩, fun D hD => lc_gen l (fun b => V.int (b : Int)) (fun b => V.int (b : Int)) (fun p => p != g) hD (by rw [ha, Ls_eq]) (by omega) ?_ ?_⟩
    · intro b hb H2 h2 Y Z hZ hY
      refine ⟨rfl, _, rfl, _, rfl, rfl, _, rfl, ?_⟩
      by_cases c : b = g
      · refine if_false_of (by rw [c]; simp) (hZ H2 Ext.refl (by rw [c]; simp))
      · exact if_true_of (by simp; omega) ⟨_, rfl, hY H2 Ext.refl (by simp [c])⟩
    · intro H2 h2 hD2
      exact q H2 D hD (by rw [hD2, Ls_eq]; rfl) h2

/-! ### can_go -/
def spCan : Sp := fun vs H Q _ => ∃ (x k : Nat) (a : Addr) (l : List Nat), vs = [.int x, .int k, .ref a] ∧ x < 1000 ∧ k < 1000 ∧ H a = some (Ls l) ∧ l.length < 1000 ∧ Val H (.bl (Bit.canGo x k l)) Q
theorem scCan : FnScope ["here", "knot", "left", "step"] ["here", "knot", "left"] (defScope sCan) := ⟨rfl, rfl, rfl, by decide +kernel, rfl, by decide +kernel, by decide +kernel⟩
theorem ok_can {f fP fR fW fB : Addr} {fd fdP fdR fdW fdB : FuncData} (F : Fun K "can_go" "can_go" sCan f fd)
    (GP : FnOk P w K mg base CX0 2 fP fdP ["knot", "other"] spPair) (gP : mg "pair_of" = some (.ref fP)) (kP : PySem.W.keepIn K (.ref fP) = true) (bP : Binds K fdP ["knot", "other"] [])
    (GR : FnOk P w K mg base CX0 1 fR fdR ["bits", "pairs"] spReach) (gR : mg "all_reached" = some (.ref fR)) (kR : PySem.W.keepIn K (.ref fR) = true) (bR : Binds K fdR ["bits", "pairs"] [])
    (GW : FnOk P w K mg base CX0 1 fW fdW ["pairs", "gone"] spWo) (gW : mg "without" = some (.ref fW)) (kW : PySem.W.keepIn K (.ref fW) = true) (bW : Binds K fdW ["pairs", "gone"] [])
    (GB : FnOk P w K mg base CX0 1 fB fdB ["knot"] spBit) (gB : mg "bit_of" = some (.ref fB)) (kB : PySem.W.keepIn K (.ref fB) = true) (bB : Binds K fdB ["knot"] []) :
    FnOk P w K mg base CX0 3 f fd ["here", "knot", "left"] spCan := by
  refine F.ok scCan (fun vs H Q E h => ?_) (fun cdv A outer s H vs Q E hr h => ⟨_,
    pss_cons (ps_set (i := 3) scCan.nd rfl (Or.inl rfl) (pe_call GP hr rfl gP kP bP .nil pass0 (pa_cons (pv 0) (pa_cons (pv 1) pa_nil))))
    (pss_one (ps_ret (pe_and (pe_cmpR op_in_seq (pv 3) (pv 2) (by rfl))
      (pe_one (pe_call GR (hr.mono (by decide)) rfl gR kR bR .nil pass0 (pa_cons (pe_call GB (hr.mono (by decide)) rfl gB kB bB .nil pass0 (pa_cons (pv 1) pa_nil))
        (pa_cons (pe_call GW (hr.mono (by decide)) rfl gW kW bW .nil pass0 (pa_cons (pv 2) (pa_cons (pv 3) pa_nil))) pa_nil))))))), ?_⟩)
  · obtain ⟨x, k, a, l, rfl, _⟩ := h
    rfl
  · obtain ⟨x, k, a, l, rfl, hx, hk, ha, hl, q⟩ := h
    refine ⟨_, rfl, _, rfl, x, k, rfl, hx, hk, ?_⟩
    refine ⟨_, rfl, _, rfl, a, _, rfl, .inl (SqL.of ha), rfl, flat_ints, _, rfl, ?_⟩
    rw [in_ints]
    unfold Bit.canGo at q
    by_cases c : Bit.pr x k ∈ l
    · refine if_true_of (by rw [decide_eq_true c]; rfl) ?_
      rw [List.contains_iff_mem.mpr c, Bool.true_and] at q
      refine ⟨_, rfl, k, rfl, hk, _, rfl, _, rfl, a, l, _, rfl, ha, hl, fun H1 D hD h1 hx1 => ?_⟩
      refine ⟨2 ^ k, D, _, rfl, h1, ?_, fun H2 h2 => q H2 (hx1.trans h2)⟩
      have : (Bit.wo l (Bit.pr x k)).length ≤ l.length := List.length_filter_le _ _
      omega
    · refine if_false_of (by rw [decide_eq_false c]; rfl) ?_
      have e : l.contains (Bit.pr x k) = false := by rw [← Bool.not_eq_true, List.contains_iff_mem]; exact c
      rw [e, Bool.false_and] at q
      exact q H Ext.refl
end Nm

set_option Elab.async false
set_option maxRecDepth 100000
set_option maxHeartbeats 2000000
namespace Nm
open PySem PySem.Spec PyProof.Rows L2
open PySem.W (Codec)
open Eul (Ok Fine)
variable {P : Program} {w : World} {K : PySem.W.Frag} {mg : Str → Option Value} {base : Heap} {C : Addr}

/-! ### earliest_way -/
def spEarly : Sp := fun vs H Q _ => ∃ (a : Addr) (l : List Nat) (n : Uw24.Net) (v : List Nat), vs = [.ref a] ∧ H a = some (Ls (l.map (Bit.pp n))) ∧ Ok n ∧ Fine n l ∧ n.way l = some v ∧ NewL H v Q
abbrev nEarly : List Str := ["pairs", "here", "way", "left", "there", "knot"]
theorem scEarly : FnScope nEarly ["pairs"] (defScope sEarly) := ⟨rfl, rfl, rfl, by decide +kernel, rfl, by decide +kernel, by decide +kernel⟩
abbrev tCanGo : TT := tB (tCall spCan [] E0 (tCons (tVar 1) (tCons (tVar 5) (tCons (tVar 3) tNil))))
theorem ok_early {f fF fC fW fP : Addr} {fd fdF fdC fdW fdP : FuncData} (F : Fun K "earliest_way" "earliest_way" sEarly f fd) (T : Txt K mg C)
    (GF : FnOk P w K mg base CX0 4 fF fdF ["pairs"] spFirst) (gF : mg "first_knot" = some (.ref fF)) (kF : PySem.W.keepIn K (.ref fF) = true) (bF : Binds K fdF ["pairs"] [])
    (GC : FnOk P w K mg base CX0 3 fC fdC ["here", "knot", "left"] spCan) (gC : mg "can_go" = some (.ref fC)) (kC : PySem.W.keepIn K (.ref fC) = true) (bC : Binds K fdC ["here", "knot", "left"] [])
    (GW : FnOk P w K mg base CX0 1 fW fdW ["pairs", "gone"] spWo) (gW : mg "without" = some (.ref fW)) (kW : PySem.W.keepIn K (.ref fW) = true) (bW : Binds K fdW ["pairs", "gone"] [])
    (GP : FnOk P w K mg base CX0 2 fP fdP ["knot", "other"] spPair) (gP : mg "pair_of" = some (.ref fP)) (kP : PySem.W.keepIn K (.ref fP) = true) (bP : Binds K fdP ["knot", "other"] []) :
    FnOk P w K mg base CX0 5 f fd ["pairs"] spEarly := by
  obtain ⟨tK, gK⟩ := T.gK
  refine F.ok scEarly (fun vs H Q E h => ?_) (fun cdv A outer s H vs Q E hr h => ⟨_,
    pss_cons (ps_if (pt_not (pt_truth (pv 0) (by intro _; rfl))) (pss_one (ps_ret (pe_lst pa_nil))) pss_nil)
    (pss_cons (ps_set (i := 1) scEarly.nd rfl (Or.inr rfl) (pe_call GF hr rfl gF kF bF .nil pass0 (pa_cons (pv 0) pa_nil)))
    (pss_cons (ps_set (i := 2) scEarly.nd rfl (Or.inl rfl) (pe_lst (pa_cons (pv 1) pa_nil)))
    (pss_cons (ps_set (i := 3) scEarly.nd rfl (Or.inr rfl) (pv 0))
    (pss_cons (ps_while PassesOwn.never (pt_truth (pv 3) (by intro _; rfl))
      (pss_cons (ps_set (i := 4) scEarly.nd rfl (Or.inl rfl) (pe_callB (cr_min rfl) (by rfl) T.min (by decide +kernel) (pa_cons
        (pe_lc (own := [("knot", 5)]) (g := gName 5) (tt := tCanGo) rfl scEarly.nd (pi_range1 rfl T.rng (pa_cons (pe_glob (v := .int 16) rfl gK ⟨_, rfl⟩) pa_nil))
          (blkOk_by (N := nEarly) (sc := defScope sEarly) (by decide +kernel)) (fun _ _ _ _ _ => pg_name (i := 5) scEarly.nd rfl (Or.inl rfl))
          (fun _ _ _ _ _ => pts_one (pt_val (pe_call GC (hr.mono (by decide)) rfl gC kC bC .nil pass0 (pa_cons (pv 1) (pa_cons (pv 5) (pa_cons (pv 3) pa_nil))))))
          (fun _ _ _ _ _ => pv 5)) pa_nil)))
      (pss_cons (ps_set (i := 3) scEarly.nd rfl (Or.inr rfl) (pe_call GW (hr.mono (by decide)) rfl gW kW bW .nil pass0 (pa_cons (pv 3)
        (pa_cons (pe_call GP (hr.mono (by decide)) rfl gP kP bP .nil pass0 (pa_cons (pv 1) (pa_cons (pv 4) pa_nil))) pa_nil))))
      (pss_cons (ps_expr (pe_bm PySem.F.plainAttrs_list PySem.F.slot_list_append PySem.F.type_list_append mt_append (pv 2) (pa_cons (pv 4) pa_nil)))
      (pss_one (ps_set (i := 1) scEarly.nd rfl (Or.inr rfl) (pv 4)))))))
    (pss_one (ps_ret (pv 2))))))), ?_⟩)
  · obtain ⟨a, l, n, v, rfl, _⟩ := h
    rfl
  · obtain ⟨a, l, n, v, rfl, ha, o, f, hv, q⟩ := h
    refine ⟨_, rfl, _, .inl ⟨_, SqL.of ha, rfl⟩, ?_⟩
    rw [empty_ints]
    by_cases ne : l = []
    · subst ne
      refine if_true_of rfl ?_
      refine ⟨by show 0 ≤ sizeLine; decide, fun p np => ?_⟩
      rw [Eul.way_nil] at hv
      cases hv
      exact q _ p np upd_same (Ext.new np)
    · refine if_false_of (by cases l with | nil => exact absurd rfl ne | cons _ _ => rfl) ?_
      refine ⟨_, rfl, a, l, n, v, rfl, ha, o, f, ne, hv, fun k hk H1 hx1 => ?_⟩
      refine ⟨_, rfl, by show 1 ≤ sizeLine; decide, fun W hW => ?_⟩
      have hW0 : H W = none := hx1.none hW
      have ha1 := hx1 _ _ ha
      have aW : a ≠ W := ne_new ha hW0
      refine ⟨_, rfl, ?_⟩
      simp only [gName, tSeq]
      have hlen : l.length ≤ 24 := fine_len o f
      refine while_by (fun σ H2 => Ext H H2 ∧ ∃ (x : Nat) (a' : Addr) (l' v' d : List Nat) (o4 o5 : Option V), σ = [some (.ref a), some (.int x), some (.ref W), some (.ref a'), o4, o5] ∧
        H2 W = some (Ls (d ++ [x])) ∧ H2 a' = some (Ls (l'.map (Bit.pp n))) ∧ a' ≠ W ∧ Fine n l' ∧ l'.length ≤ l.length ∧ d.length + l'.length ≤ l.length ∧ n.first l'.length l' x = some (x :: v') ∧ v = d ++ (x :: v')) (lenAt 3) ?_ ?_ ?_
      · obtain ⟨j, y, v', _, _, _, e, _⟩ := Bit.step_way o f ne hk
        refine ⟨hx1.trans (Ext.new hW), k, a, l, v', [], none, none, rfl, upd_same, ?_, aW, f, Nat.le_refl _, by rw [List.length_nil]; omega, by rw [← e]; exact hk, e⟩
        rw [upd_ne aW]
        exact ha1
      · rintro σ H2 ⟨hx2, x, a', l', v', d, o4, o5, rfl, hW2, ha2, neW, f', len1, len2, hf, hv'⟩
        refine ⟨_, rfl, _, .inl ⟨_, SqL.of ha2, rfl⟩, ?_⟩
        by_cases ne' : l' = []
        · subst ne'
          refine if_false_of rfl ?_
          rw [Eul.first_nil] at hf
          cases hf
          rw [hv'] at q
          exact ⟨_, rfl, q H2 W hW0 hW2 hx2⟩
        · refine if_true_of (by cases l' with | nil => exact absurd rfl ne' | cons _ _ => rfl) ?_
          obtain ⟨j, y, u, hy, ov, j16, eu, fu, ewo, cj, least⟩ := Bit.step_way o f' ne' hf
          have xk := (Eul.over_ne o (f'.lt y hy) ov).2.1
          have k16 := Eul.knots_le o
          have hlen' : lenAt 3 [some (.ref a), some (.int x), some (.ref W), some (.ref a'), o4, o5] H2 = (l'.map (Bit.pp n)).length := lenAt_of rfl ha2
          rw [List.length_map] at hlen'
          refine ⟨16, rfl, by decide, by decide, fun D hD => lc_genR (n := 16) (fun k => V.int (k : Int)) (fun k => Bit.canGo x k (l'.map (Bit.pp n))) hD (by decide) ?_ ?_⟩
          · intro m hm H3 hx3 Y Z hZ hY
            refine ⟨rfl, _, rfl, _, rfl, _, rfl, x, m, a', _, rfl, by omega, by omega, hx3 _ _ ha2, by rw [List.length_map]; omega, fun H4 hx4 => ⟨_, rfl, ?_⟩⟩
            cases e : Bit.canGo x m (l'.map (Bit.pp n)) with
            | true => exact iteT ⟨_, rfl, hY H4 hx4 e⟩
            | false => exact iteF (hZ H4 hx4 e)
          · intro H3 hx3 hD3
            have e3 : ((List.range 16).filter fun k => Bit.canGo x k (l'.map (Bit.pp n))).map (fun k => V.int ((k : Nat) : Int)) = (Cal.nts ((List.range 16).filter fun k => Bit.canGo x k (l'.map (Bit.pp n)))).map V.int := by
              rw [ints_map]
            rw [e3] at hD3
            have jm : j ∈ (List.range 16).filter fun k => Bit.canGo x k (l'.map (Bit.pp n)) := List.mem_filter.mpr ⟨List.mem_range.mpr j16, cj⟩
            refine ⟨D, _, rfl, SqL.of hD3, ?_, ?_⟩
            · rw [List.length_map]; exact List.length_pos_of_mem jm
            · intro m hm1 hm2
              obtain ⟨m', hm', rfl⟩ := List.mem_map.mp hm1
              have h5 := least m' (List.mem_filter.mp hm').2
              have h6 := hm2 j (List.mem_map.mpr ⟨j, jm, rfl⟩)
              have ej : m' = j := by omega
              subst ej
              refine ⟨_, rfl, _, rfl, _, rfl, x, m', rfl, by omega, by omega, a', _, _, rfl, hx3 _ _ ha2, by rw [List.length_map]; omega, fun H4 A4 hA4 hl4 hx4 => ?_⟩
              rw [ewo] at hl4
              have hW4 := hx4 _ _ (hx3 _ _ hW2)
              have neA : A4 ≠ W := by intro z; rw [z, hx3 _ _ hW2] at hA4; cases hA4
              refine ⟨_, rfl, .inl ⟨rfl, _, SqL.of hW4⟩, _, rfl, W, _, _, rfl, rfl, hW4, ?_, ?_⟩
              · rw [ints_len, List.length_append, List.length_singleton]
                show _ < 2 ^ 24
                omega
              · have ll := Bit.less_len f'.nd hy
                refine ⟨_, rfl, ⟨((hx2.trans hx3).trans hx4).upd hW0, m', A4, Bit.less l' y, ?_⟩, ?_⟩
                · obtain ⟨v2, ev2⟩ : ∃ v2, u = m' :: v2 := by
                    by_cases z : Bit.less l' y = []
                    · rw [z, Eul.first_nil] at fu; cases fu; exact ⟨_, rfl⟩
                    · obtain ⟨_, _, v2, _, _, _, e2, _⟩ := Bit.step_way o (f'.filter _) z fu
                      exact ⟨v2, e2⟩
                  have eu' : v' = m' :: v2 := by rw [← ev2]; injection eu
                  refine ⟨v2, d ++ [x], some (.int (m' : Int)), o5, rfl, ?_, ?_, neA, f'.filter _, by omega, by rw [List.length_append, List.length_singleton]; omega, by rw [← ev2]; exact fu, ?_⟩
                  · rw [upd_same, Ls_snoc]
                  · rw [upd_ne neA]; exact hl4
                  · rw [hv', eu', List.append_assoc]; rfl
                · rw [hlen', lenAt_of (a := A4) (l := (Bit.less l' y).map (Bit.pp n)) rfl (by rw [upd_ne neA]; exact hl4), List.length_map]
                  omega
      · exact fun σ H Q Q' h ⟨v, e, k, t, z⟩ => ⟨v, e, k, t, h _ _ z⟩
end Nm

set_option Elab.async false
set_option maxRecDepth 100000
set_option maxHeartbeats 2000000
namespace Nm
open PySem PySem.Spec PyProof.Rows L2
open PySem.W (Codec)
open Eul (Ok Fine)
variable {P : Program} {w : World} {K : PySem.W.Frag} {mg : Str → Option Value} {base : Heap} {C : Addr}

/-! ### An answer, and things thrown away -/
theorem Ext.keep {H H' : Hp} {a t : Addr} (h : Ext H H') : Keep H H' a t := fun b o e _ _ => h b o e
theorem Done.ext {H H' : Hp} {a t p : Addr} {n : Uw24.Net} {L : List Nat} {r : Uw24.Net × Uw24.Ans} {Q : VK} (D : Done C H a t r Q) (N : NetAt C H a t n L) (np : H p = none) (hx : Ext H H')
    {vs : List V} (e1 : r.1 = n) (e2 : (Uw24Neutral.out r.2).map V.int = vs) (hp : H' p = some (.lst vs)) : Q (.ref p) H' :=
  D H' p t L np (by rw [e2]; exact hp) (by rw [e1]; exact N.ext hx) (.inl rfl) hx.keep
theorem no_m {m : Str} {w h : Nat} {t : Addr} (h1 : (m == "wide") = false) (h2 : (m == "high") = false) (h3 : (m == "torn") = false) : (nF w h t).lookup m = none := nF_no h1 h2 h3

/-! ### has_knot -/
def spHasK (C : Addr) : Sp := fun vs H Q _ => ∃ (a t : Addr) (n : Uw24.Net) (L : List Nat) (k : Nat), vs = [.ref a, .int k] ∧ NetAt C H a t n L ∧ Q (.bl (decide (k < n.knots))) H
theorem scHasK : FnScope ["self", "knot"] ["self", "knot"] (defScope sHasK) := ⟨rfl, rfl, rfl, by decide +kernel, rfl, by decide +kernel, by decide +kernel⟩
theorem ok_hasK {f : Addr} {fd : FuncData} (F : Fun K "has_knot" "Net.has_knot" sHasK f fd) (T : Txt K mg C) : FnOk P w K mg base CX0 1 f fd ["self", "knot"] (spHasK C) := by
  refine F.ok scHasK (fun vs H Q E h => ?_) (fun cdv A outer s H vs Q E hr h => ⟨_, pss_one (ps_ret (pe_cmp (pc_lt (pv 1) (pe_op op_mul (pe_fld (pv 0) rfl) (pe_fld (pv 0) rfl))) rfl)), ?_⟩)
  · obtain ⟨a, t, n, L, k, rfl, _⟩ := h
    rfl
  · obtain ⟨a, t, n, L, k, rfl, N, q⟩ := h
    obtain ⟨dx, ha⟩ := N.ob
    have o := N.inv.ok
    refine ⟨_, rfl, _, rfl, a, C, dx, _, _, rfl, ha, T.cl, T.nW, nF_wide, _, rfl, a, C, dx, _, _, rfl, ha, T.cl, T.nH, nF_high, _, _, rfl, rfl, .inl ⟨?_, ?_⟩, ?_⟩
    · omega
    · have := o.w4; omega
    · refine ⟨_, _, rfl, rfl, ?_⟩
      have e : decide ((k : Int) < (n.wide : Int) * (n.high : Int)) = decide (k < n.knots) := by
        unfold Uw24.Net.knots
        rw [Bool.eq_iff_iff, decide_eq_true_iff, decide_eq_true_iff, ← Int.natCast_mul]
        omega
      rw [← e] at q
      exact q

/-! ### knots_of, pairs_of -/
theorem row_ends {b m : Nat} : b / m * (m + 1) + b % m = b + b / m := by
  have := Nat.div_add_mod b m
  rw [Nat.mul_add, Nat.mul_one, Nat.mul_comm]
  omega
def spKnots (C : Addr) : Sp := fun vs H Q _ => ∃ (a t : Addr) (n : Uw24.Net) (L : List Nat) (b : Nat), vs = [.ref a, .int b] ∧ NetAt C H a t n L ∧ NewL H [(n.ends b).1, (n.ends b).2] Q
theorem scKnots : FnScope ["self", "bar", "knot"] ["self", "bar"] (defScope sKnots) := ⟨rfl, rfl, rfl, by decide +kernel, rfl, by decide +kernel, by decide +kernel⟩
theorem ok_knots {f fR : Addr} {fd fdR : FuncData} (F : Fun K "knots_of" "Net.knots_of" sKnots f fd) (T : Txt K mg C)
    (GR : FnOk P w K mg base CX0 1 fR fdR ["self"] (spRow C)) (mR : Meth K C "row_bars" fR) (bR : Binds K fdR ["self"] []) : FnOk P w K mg base CX0 2 f fd ["self", "bar"] (spKnots C) := by
  refine F.ok scKnots (fun vs H Q E h => ?_) (fun cdv A outer s H vs Q E hr h => ⟨_,
    (pss_cons (ps_if (pt_cmpR op_lt (pv 1) (pe_meth0 (pv 0) T.cl mR GR hr bR .nil pass0) (nomark _))
      (pss_cons (ps_set (i := 2) scKnots.nd rfl (Or.inl rfl) (pe_op op_add (pv 1) (pe_op op_fdivN (pv 1) (pe_op op_sub (pe_fld (pv 0) rfl) pe_int))))
      (pss_one (ps_ret (pe_lst (pa_cons (pv 2) (pa_cons (pe_op op_add (pv 2) pe_int) pa_nil))))))
      pss_nil)
    (pss_cons (ps_set (i := 2) scKnots.nd rfl (Or.inl rfl) (pe_op op_sub (pv 1) (pe_meth0 (pv 0) T.cl mR GR hr bR .nil pass0)))
    (pss_one (ps_ret (pe_lst (pa_cons (pv 2) (pa_cons (pe_op op_add (pv 2) (pe_fld (pv 0) rfl)) pa_nil))))))), ?_⟩)
  · obtain ⟨a, t, n, L, b, rfl, _⟩ := h
    rfl
  · obtain ⟨a, t, n, L, b, rfl, N, q⟩ := h
    obtain ⟨dx, ha⟩ := N.ob
    have o := N.inv.ok
    refine ⟨_, rfl, _, rfl, a, dx, _, rfl, ha, nF_no (by decide +kernel) (by decide +kernel) (by decide +kernel), a, t, n, L, rfl, N, _, _, rfl, rfl, _, rfl, ?_⟩
    by_cases c2 : b < n.flat
    · refine if_true_of (decide_eq_true (by omega)) ?_
      have w2 := o.w2
      have w4 := o.w4
      refine ⟨_, rfl, _, rfl, _, rfl, a, C, dx, _, _, rfl, ha, T.cl, T.nW, nF_wide, _, _, rfl, rfl, _, _, rfl, rfl, ⟨by omega, by omega⟩, _, _, rfl, rfl, ?_⟩
      refine ⟨_, rfl, _, rfl, _, _, rfl, rfl, by show 2 ≤ sizeLine; decide, fun p np => q _ p np ?_ (Ext.new np)⟩
      rw [upd_same]
      have e1 : (b : Int).fdiv ((n.wide : Int) - 1) = ((b / (n.wide - 1) : Nat) : Int) := by
        rw [Int.fdiv_eq_ediv_of_nonneg _ (by omega)]
        have : (n.wide : Int) - 1 = ((n.wide - 1 : Nat) : Int) := by omega
        rw [this]
        rfl
      have e2 : b / (n.wide - 1) * n.wide + b % (n.wide - 1) = b + b / (n.wide - 1) := by
        have := row_ends (b := b) (m := n.wide - 1)
        rw [show n.wide - 1 + 1 = n.wide by omega] at this
        exact this
      simp only [Ls, Cal.nts, List.map_cons, List.map_nil, Uw24.Net.ends, if_pos c2, e1, e2, Int.natCast_add]
      rfl
    · refine if_false_of (decide_eq_false (by omega)) ?_
      refine ⟨_, rfl, _, rfl, a, dx, _, rfl, ha, nF_no (by decide +kernel) (by decide +kernel) (by decide +kernel), a, t, n, L, rfl, N, _, _, rfl, rfl, ?_⟩
      refine ⟨_, rfl, _, rfl, _, rfl, a, C, dx, _, _, rfl, ha, T.cl, T.nW, nF_wide, _, _, rfl, rfl, by show 2 ≤ sizeLine; decide, fun p np => q _ p np ?_ (Ext.new np)⟩
      rw [upd_same]
      have e1 : (b : Int) - (n.flat : Nat) = ((b - n.flat : Nat) : Int) := by omega
      simp only [Ls, Cal.nts, List.map_cons, List.map_nil, Uw24.Net.ends, if_neg c2, e1, Int.natCast_add]

def spPairs (C : Addr) : Sp := fun vs H Q _ => ∃ (a t d : Addr) (n : Uw24.Net) (L l : List Nat), vs = [.ref a, .ref d] ∧ NetAt C H a t n L ∧ H d = some (Ls l) ∧ (∀ b ∈ l, b < n.bars) ∧ l.length < 1000 ∧ NewL H (l.map (Bit.pp n)) Q
theorem scPairs : FnScope ["self", "bars", "pairs", "bar", "knots"] ["self", "bars"] (defScope sPairs) := ⟨rfl, rfl, rfl, by decide +kernel, rfl, by decide +kernel, by decide +kernel⟩
theorem ok_pairs {f fK fP : Addr} {fd fdK fdP : FuncData} (F : Fun K "pairs_of" "Net.pairs_of" sPairs f fd) (T : Txt K mg C)
    (GK : FnOk P w K mg base CX0 2 fK fdK ["self", "bar"] (spKnots C)) (mK : Meth K C "knots_of" fK) (bK : Binds K fdK ["self", "bar"] [])
    (GP : FnOk P w K mg base CX0 2 fP fdP ["knot", "other"] spPair) (gP : mg "pair_of" = some (.ref fP)) (kP : PySem.W.keepIn K (.ref fP) = true) (bP : Binds K fdP ["knot", "other"] []) :
    FnOk P w K mg base CX0 3 f fd ["self", "bars"] (spPairs C) := by
  refine F.ok scPairs (fun vs H Q E h => ?_) (fun cdv A outer s H vs Q E hr h => ⟨_,
    pss_cons (ps_set (i := 2) scPairs.nd rfl (Or.inl rfl) (pe_lst pa_nil))
    (pss_cons (ps_for PassesOwn.never rfl (pi_list (pv 1)) (pg_name (i := 3) scPairs.nd rfl (Or.inl rfl))
      (pss_cons (ps_set (i := 4) scPairs.nd rfl (Or.inl rfl) (pe_meth (pv 0) T.cl mK GK hr bK .nil pass0 (pa_cons (pv 3) pa_nil)))
      (pss_one (ps_expr (pe_bm PySem.F.plainAttrs_list PySem.F.slot_list_append PySem.F.type_list_append mt_append (pv 2)
        (pa_cons (pe_call GP hr rfl gP kP bP .nil pass0 (pa_cons (pe_ix ix_list (pv 4) pe_int (fun _ _ => rfl)) (pa_cons (pe_ix ix_list (pv 4) pe_int (fun _ _ => rfl)) pa_nil))) pa_nil))))))
    (pss_one (ps_ret (pv 2)))), ?_⟩)
  · obtain ⟨a, t, d, n, L, l, rfl, _⟩ := h
    rfl
  · obtain ⟨a, t, d, n, L, l, rfl, N, hd, hl, len, q⟩ := h
    have o := N.inv.ok
    refine ⟨by show 0 ≤ sizeLine; decide, fun D hD => ?_⟩
    have hd' : upd H D (.lst []) d = some (Ls l) := Ext.new hD _ _ hd
    refine ⟨_, rfl, d, rfl, ⟨_, SqL.of hd'⟩, for_list (xs := (Cal.nts l).map V.int)
      (fun i σ H1 => Ext H H1 ∧ H1 D = some (Ls ((l.take i).map (Bit.pp n))) ∧ ∃ o3 o4, σ = [some (.ref a), some (.ref d), some (.ref D), o3, o4]) ?_ ?_ ?_ ?_⟩
    · exact ⟨Ext.new hD, upd_same, _, _, rfl⟩
    · rintro i σ H1 _ ⟨hx, _⟩
      exact SqL.of (hx _ _ hd)
    · rintro i x σ H1 hi ⟨hx, hD1, o3, o4, rfl⟩
      obtain ⟨b, hb, rfl⟩ := ints_at hi
      have N1 := N.ext hx
      obtain ⟨dx, ha⟩ := N1.ob
      have bl := hl b (List.mem_of_getElem? hb)
      have lt := Eul.ends_lt o bl
      have k16 := Eul.knots_le o
      refine ⟨_, rfl, a, dx, _, rfl, ha, nF_no (by decide +kernel) (by decide +kernel) (by decide +kernel), _, rfl, a, t, n, L, b, rfl, N1, fun H2 p hp h2 hx2 => ?_⟩
      refine ⟨_, rfl, .inl ⟨rfl, _, SqL.of (hx2 _ _ hD1)⟩, ?_⟩
      refine ⟨_, rfl, p, _, 0, _, rfl, rfl, SqL.of h2, at0, _, rfl, p, _, 1, _, rfl, rfl, SqL.of h2, atI_nat (j := 1) rfl, (n.ends b).1, (n.ends b).2, rfl, by omega, by omega, ?_⟩
      refine ⟨D, _, _, rfl, rfl, hx2 _ _ hD1, ?_, ?_⟩
      · rw [ints_len, List.length_map, List.length_take]
        show _ < 2 ^ 24
        omega
      · refine ⟨(hx.trans hx2).upd hD, ?_, _, _, rfl⟩
        rw [upd_same, Ls_snoc, take_succ' hb, List.map_append]
        rfl
    · rintro σ H1 ⟨hx, hD1, o3, o4, rfl⟩
      rw [ints_len, List.take_length] at hD1
      exact ⟨_, rfl, q H1 D hD hD1 hx⟩

/-! ### ends -/
def spEnds (C : Addr) : Sp := fun vs H Q _ => ∃ (a t : Addr) (n : Uw24.Net) (L : List Nat) (b : Nat), vs = [.ref a, .int b] ∧ NetAt C H a t n L ∧ Done C H a t (Uw24.step n (.ends b)) Q
theorem scEnds : FnScope ["self", "bar"] ["self", "bar"] (defScope sEnds) := ⟨rfl, rfl, rfl, by decide +kernel, rfl, by decide +kernel, by decide +kernel⟩
theorem ok_ends {f fH fR : Addr} {fd fdH fdR : FuncData} (F : Fun K "ends" "Net.ends" sEnds f fd) (T : Txt K mg C)
    (GH : FnOk P w K mg base CX0 3 fH fdH ["self", "bar"] (spHas C)) (mH : Meth K C "has_bar" fH) (bH : Binds K fdH ["self", "bar"] [])
    (GR : FnOk P w K mg base CX0 2 fR fdR ["self", "bar"] (spKnots C)) (mR : Meth K C "knots_of" fR) (bR : Binds K fdR ["self", "bar"] []) : FnOk P w K mg base CX0 4 f fd ["self", "bar"] (spEnds C) := by
  refine F.ok scEnds (fun vs H Q E h => ?_) (fun cdv A outer s H vs Q E hr h => ⟨_,
    pss_cons (ps_if (pt_not (pt_val (pe_meth (pv 0) T.cl mH GH hr bH .nil pass0 (pa_cons (pv 1) pa_nil)))) (pss_one (ps_ret (pe_lst (pa_cons (pe_un un_neg pe_int) pa_nil)))) pss_nil)
    (pss_one (ps_ret (pe_op op_cat (pe_lst (pa_cons pe_int pa_nil)) (pe_meth (pv 0) T.cl mR GR (hr.mono (by decide)) bR .nil pass0 (pa_cons (pv 1) pa_nil))))), ?_⟩)
  · obtain ⟨a, t, n, L, b, rfl, _⟩ := h
    rfl
  · obtain ⟨a, t, n, L, b, rfl, N, D⟩ := h
    obtain ⟨dx, ha⟩ := N.ob
    refine ⟨_, rfl, a, dx, _, rfl, ha, nF_no (by decide +kernel) (by decide +kernel) (by decide +kernel), _, rfl, ?_⟩
    refine ⟨a, t, n, L, b, rfl, N, ?_⟩
    refine ⟨_, rfl, ?_⟩
    by_cases c1 : b < n.bars
    · rw [decide_eq_true c1]
      refine iteF ?_
      have hs : Uw24.step n (.ends b) = (n, ⟨0, [(n.ends b).1, (n.ends b).2]⟩) := by
        simp only [Uw24.step]
        rw [if_neg (by omega)]
      refine ⟨by show 1 ≤ sizeLine; decide, fun p np => ?_⟩
      have x1 : Ext H (upd H p (.lst [V.int 0])) := Ext.new np
      obtain ⟨dx1, ha1⟩ := (N.ext x1).ob
      refine ⟨_, rfl, a, dx1, _, rfl, ha1, nF_no (by decide +kernel) (by decide +kernel) (by decide +kernel), _, rfl, a, t, n, L, b, rfl, N.ext x1, fun H2 p2 hp2 h2 x2 => ?_⟩
      refine ⟨p, p2, _, _, rfl, rfl, x2 _ _ upd_same, h2, by show 3 ≤ sizeLine; decide, fun p3 np3 => ?_⟩
      have x3 : Ext H2 (upd H2 p3 (.lst ([V.int 0] ++ (Cal.nts [(n.ends b).1, (n.ends b).2]).map V.int))) := Ext.new np3
      exact D.ext N ((x1.trans x2).none np3) ((x1.trans x2).trans x3) (by rw [hs]) (by rw [hs]; rfl) upd_same
    · rw [decide_eq_false c1]
      refine iteT ?_
      refine ⟨_, rfl, by show 1 ≤ sizeLine; decide, fun p np => ?_⟩
      have hs : Uw24.step n (.ends b) = (n, Uw24.ok (-2)) := by
        simp only [Uw24.step]
        rw [if_pos (by omega)]
      exact D.same N np (by rw [hs]) (by rw [hs]; rfl)

/-! ### odd -/
theorem perm_lt {n : Uw24.Net} {L : List Nat} (v : Cal.Inv n) (pm : L.Perm n.torn) : ∀ b ∈ L, b < n.bars := fun b hb => v.lt b (pm.mem_iff.mp hb)
theorem perm_len {n : Uw24.Net} {L : List Nat} (v : Cal.Inv n) (pm : L.Perm n.torn) : L.length ≤ 8 := by rw [pm.length_eq]; exact v.most
def spOdd (C : Addr) : Sp := fun vs H Q _ => ∃ (a t : Addr) (n : Uw24.Net) (L : List Nat), vs = [.ref a] ∧ NetAt C H a t n L ∧ Done C H a t (Uw24.step n .odd) Q
theorem scOdd : FnScope ["self", "odd"] ["self"] (defScope sOdd) := ⟨rfl, rfl, rfl, by decide +kernel, rfl, by decide +kernel, by decide +kernel⟩
theorem kin_len {x : Nat} : (Bit.kin x).length ≤ 16 := by
  have : (Bit.kin x).length ≤ (List.range 16).length := List.length_filter_le _ _
  rw [List.length_range] at this
  exact this
theorem ok_odd {f fO fP : Addr} {fd fdO fdP : FuncData} (F : Fun K "odd" "Net.odd" sOdd f fd) (T : Txt K mg C)
    (GO : FnOk P w K mg base CX0 3 fO fdO ["pairs"] spOddk) (gO : mg "odd_knots" = some (.ref fO)) (kO : PySem.W.keepIn K (.ref fO) = true) (bO : Binds K fdO ["pairs"] [])
    (GP : FnOk P w K mg base CX0 3 fP fdP ["self", "bars"] (spPairs C)) (mP : Meth K C "pairs_of" fP) (bP : Binds K fdP ["self", "bars"] []) : FnOk P w K mg base CX0 4 f fd ["self"] (spOdd C) := by
  refine F.ok scOdd (fun vs H Q E h => ?_) (fun cdv A outer s H vs Q E hr h => ⟨_,
    pss_cons (ps_set (i := 1) scOdd.nd rfl (Or.inl rfl) (pe_call GO hr rfl gO kO bO .nil pass0 (pa_cons (pe_meth (pv 0) T.cl mP GP hr bP .nil pass0 (pa_cons (pe_fld (pv 0) rfl) pa_nil)) pa_nil)))
    (pss_one (ps_ret (pe_op op_cat (pe_lst (pa_cons (pe_callB call_len_seq (by rfl) T.len PySem.boot_len (pa_cons (pv 1) pa_nil)) pa_nil)) (pv 1)))), ?_⟩)
  · obtain ⟨a, t, n, L, rfl, _⟩ := h
    rfl
  · obtain ⟨a, t, n, L, rfl, N, D⟩ := h
    obtain ⟨dx, ha⟩ := N.ob
    have lt := perm_lt N.inv N.pm
    have len := perm_len N.inv N.pm
    refine ⟨_, rfl, a, dx, _, rfl, ha, nF_no (by decide +kernel) (by decide +kernel) (by decide +kernel), _, rfl, a, C, dx, _, _, rfl, ha, T.cl, T.nT, nF_torn, a, t, t, n, L, L, rfl, N, N.ls, lt, by omega, fun H1 p1 hp1 h1 x1 => ?_⟩
    refine ⟨p1, _, rfl, h1, fun H2 p2 hp2 h2 x2 => ?_⟩
    rw [Bit.oddk_odd N.inv.ok lt, Cal.odd_perm N.pm] at h2
    have ol : (n.odd n.torn).length ≤ 16 := by
      have := Bit.oddk_odd N.inv.ok (perm_lt N.inv (List.Perm.refl _))
      rw [← this]
      exact kin_len
    refine ⟨_, rfl, p2, _, rfl, .inl (SqL.of h2), by show 1 ≤ sizeLine; decide, fun p3 np3 => ?_⟩
    have x3 : Ext H2 (upd H2 p3 (.lst [V.int (((Cal.nts (n.odd n.torn)).map V.int).length : Nat)])) := Ext.new np3
    refine ⟨_, rfl, p3, p2, _, _, rfl, rfl, upd_same, x3 _ _ h2, ?_, fun p4 np4 => ?_⟩
    · rw [ints_len]
      show 1 + _ ≤ 2 ^ 24
      omega
    · refine D.ext N (((x1.trans x2).trans x3).none np4) (((x1.trans x2).trans x3).trans (Ext.new np4)) rfl ?_ upd_same
      rw [ints_len]
      rfl
end Nm

set_option Elab.async false
set_option maxRecDepth 100000
set_option maxHeartbeats 2000000
namespace Nm
open PySem PySem.Spec PyProof.Rows L2
open PySem.W (Codec)
open Eul (Ok Fine)
variable {P : Program} {w : World} {K : PySem.W.Frag} {mg : Str → Option Value} {base : Heap} {C : Addr}

/-! ### Lists of numbers, compared -/
theorem eqv_ints : ∀ (xs ys : List Int), PyData.eqvAll (xs.map PyData.int) (ys.map PyData.int) = decide (xs = ys)
  | [], [] => by unfold PyData.eqvAll; rfl
  | [], y :: ys => by rw [List.map_nil, List.map_cons]; unfold PyData.eqvAll; rfl
  | x :: xs, [] => by rw [List.map_nil, List.map_cons]; unfold PyData.eqvAll; rfl
  | x :: xs, y :: ys => by
    rw [List.map_cons, List.map_cons]
    unfold PyData.eqvAll
    rw [eqv_ints xs ys]
    have e : (PyData.int x).eqv (PyData.int y) = (x == y) := by unfold PyData.eqv; rfl
    rw [e, Bool.eq_iff_iff]
    simp
theorem eqv_list (xs ys : List Int) : (PyData.list (xs.map PyData.int)).eqv (PyData.list (ys.map PyData.int)) = decide (xs = ys) := by
  rw [← eqv_ints]; unfold PyData.eqv; rfl
theorem dp_ints {H : Hp} : ∀ (xs : List Int), DpAll K H (xs.map V.int) (xs.map PyData.int)
  | [] => .nil
  | x :: xs => .cons (.int x) (dp_ints xs)
theorem sorted_eq : ∀ {l m : List Int}, l.Pairwise (· ≤ ·) → m.Pairwise (· ≤ ·) → l.Perm m → l = m
  | [], m, _, _, p => List.Perm.nil_eq p
  | x :: l, [], _, _, p => by have := p.length_eq; cases this
  | x :: l, y :: m, h, g, p => by
    have ⟨hx, hl⟩ := List.pairwise_cons.mp h
    have ⟨gy, gm⟩ := List.pairwise_cons.mp g
    have e : x = y := by
      have m1 : x ∈ y :: m := p.mem_iff.mp (List.mem_cons_self ..)
      have m2 : y ∈ x :: l := p.mem_iff.mpr (List.mem_cons_self ..)
      rcases List.mem_cons.mp m1 with q | q
      · exact q
      · rcases List.mem_cons.mp m2 with q' | q'
        · exact q'.symm
        · have := gy x q; have := hx y q'; omega
    subst e
    rw [sorted_eq hl gm (List.Perm.cons_inv p)]
theorem ints_perm {l m : List Nat} : (Cal.nts l).Perm (Cal.nts m) ↔ l.Perm m := by
  constructor
  · intro h
    have := h.map Int.toNat
    rw [Cal.ints_toNat, Cal.ints_toNat] at this
    exact this
  · exact fun h => h.map _

/-! ### A comprehension over any walk -/
theorem lc_walk {J : It} {n : Nat} {G : Hp → Prop} {Y : Nat → Hp → V → Hp → Prop} (wk : Walk J n G Y) {g : TG} {tt : TT} {te : TE} {vs : List Nat} {σ : L2.St} {H1 : Hp} {D : Addr} {Qd : Hp → Prop} (Pv : Nat → Hp → Prop)
    (h0 : Pv 0 (upd H1 D (.lst []))) (hG : ∀ i H, i ≤ n → Pv i H → G H)
    (hs : ∀ i x H H', i < n → Pv i H → Y i H x H' → Turn g tt te vs σ x H' (fun y H4 => ∃ acc, H4 D = some (.lst acc) ∧ acc.length < sizeLine ∧ Pv (i + 1) (upd H4 D (.lst (acc ++ [y])))) (Pv (i + 1)))
    (hd : ∀ H, Pv n H → Qd H) :
    ∃ W : Nat → Nat → Hp → Prop, (∃ m, W 0 m (upd H1 D (HO.lst []))) ∧ ∀ (i m : Nat) (H : Hp), W i m H → J.stop i H ∧ Qd H ∨ J.go i H ∧ ∃ Nx : Hp → Prop,
      (∀ (H' : Hp), Nx H' → ∃ m', m' < m ∧ W (i + 1) m' H') ∧ ∀ (x : V) (H' : Hp), J.yld i H x H' → g x (wipe σ vs) H' fun σ2 H2 => wipe σ2 vs = wipe σ vs ∧
        tt σ2 H2 fun b H3 => if b = true then te σ2 H3 fun y H4 => ∃ acc, H4 D = some (HO.lst acc) ∧ acc.length < sizeLine ∧ Nx (upd H4 D (HO.lst (acc ++ [y]))) else Nx H3 := by
  refine ⟨fun i m H => m = n - i ∧ i ≤ n ∧ Pv i H, ⟨n, by omega, Nat.zero_le _, h0⟩, ?_⟩
  rintro i m H ⟨hm, hi, hP⟩
  by_cases c : i = n
  · subst c
    exact .inl ⟨wk.stops H (hG _ H (Nat.le_refl _) hP), hd H hP⟩
  · refine .inr ⟨wk.goes i H (by omega) (hG i H hi hP), Pv (i + 1), fun H' h => ⟨n - (i + 1), by omega, rfl, by omega, h⟩, ?_⟩
    intro x H' hy
    exact hs i x H H' (by omega) hP (wk.yields i H x H' (by omega) (hG i H hi hP) hy)

theorem yes_turn {σ : L2.St} {H : Hp} {te : TE} {Y : V → Hp → Prop} {Z : Hp → Prop} (h : te σ H Y) : tYes σ H fun b H3 => if b = true then te σ H3 Y else Z H3 := by
  show if true = true then te σ H Y else Z H
  exact iteT h

/-! ### check -/
theorem cut_tail {l : List Nat} : cutV ((Cal.nts l).map V.int) (some 1) none = (Cal.nts (l.drop 1)).map V.int := by
  unfold cutV HT.sIx
  simp only
  rw [if_neg (by decide)]
  cases l with
  | nil => rfl
  | cons x l =>
    have e : min (Int.toNat 1) ((Cal.nts (x :: l)).map V.int).length = 1 := by
      rw [ints_len, List.length_cons]
      show min 1 _ = 1
      omega
    rw [e]
    show List.take _ ((Cal.nts l).map V.int) = (Cal.nts l).map V.int
    apply List.take_of_length_le
    rw [ints_len, ints_len, List.length_cons]
    omega
def spCheck (C : Addr) : Sp := fun vs H Q _ => ∃ (a t d : Addr) (n : Uw24.Net) (L l : List Nat), vs = [.ref a, .ref d] ∧ NetAt C H a t n L ∧ H d = some (Ls l) ∧ l.length ≤ 30 ∧ Done C H a t (Uw24.step n (.check l)) Q
abbrev nCheck : List Str := ["self", "knots", "steps", "knot", "here", "there"]
theorem scCheck : FnScope nCheck ["self", "knots"] (defScope sCheck) := ⟨rfl, rfl, rfl, by decide +kernel, rfl, by decide +kernel, by decide +kernel⟩
theorem ok_check {f fH fP fQ : Addr} {fd fdH fdP fdQ : FuncData} (F : Fun K "check" "Net.check" sCheck f fd) (T : Txt K mg C)
    (GH : FnOk P w K mg base CX0 1 fH fdH ["self", "knot"] (spHasK C)) (mH : Meth K C "has_knot" fH) (bH : Binds K fdH ["self", "knot"] [])
    (GP : FnOk P w K mg base CX0 2 fP fdP ["knot", "other"] spPair) (gP : mg "pair_of" = some (.ref fP)) (kP : PySem.W.keepIn K (.ref fP) = true) (bP : Binds K fdP ["knot", "other"] [])
    (GQ : FnOk P w K mg base CX0 3 fQ fdQ ["self", "bars"] (spPairs C)) (mQ : Meth K C "pairs_of" fQ) (bQ : Binds K fdQ ["self", "bars"] []) :
    FnOk P w K mg base CX0 4 f fd ["self", "knots"] (spCheck C) := by
  refine F.ok scCheck (fun vs H Q E h => ?_) (fun cdv A outer s H vs Q E hr h => ⟨_,
    pss_cons (ps_if (pt_not (pt_val (pe_callB (cr_all rfl) (by rfl) T.all (by decide +kernel) (pa_cons
      (pe_lc (own := [("knot", 3)]) (g := gName 3) (tt := tYes) (te := tMeth C "has_knot" (spHasK C) [] E0 (tVar 0) (tCons (tVar 3) tNil)) rfl scCheck.nd (pi_list (pv 1))
        (blkOk_by (N := nCheck) (sc := defScope sCheck) (by decide +kernel)) (fun _ _ _ _ _ => pg_name (i := 3) scCheck.nd rfl (Or.inl rfl)) (fun _ _ _ _ _ => pts_nil)
        (fun _ _ _ _ _ => pe_meth (pv 0) T.cl mH GH (hr.mono (by decide)) bH .nil pass0 (pa_cons (pv 3) pa_nil))) pa_nil)))) (pss_one (ps_ret (pe_lst (pa_cons (pe_un un_neg pe_int) pa_nil)))) pss_nil)
    (pss_cons (ps_setLc (i := 2) (own := [("here", 4), ("there", 5)]) (g := gTup K 2 (gCons (gName 4) (gCons (gName 5) gNil))) (tt := tYes) (te := tCall spPair [] E0 (tCons (tVar 4) (tCons (tVar 5) tNil))) rfl scCheck.nd rfl rfl (sw_true rfl rfl rfl (by decide +kernel))
        (pi_zip rfl T.zip (pa_cons (pv 1) (pa_cons (pe_slice sl_list (pv 1) (po_some pe_int) po_none) pa_nil)))
        (blkOk_by (N := nCheck) (sc := defScope sCheck) (by decide +kernel)) (fun _ _ _ _ _ => pg_tup rfl (pgs_cons (pg_name (i := 4) scCheck.nd rfl (Or.inl rfl)) (pgs_cons (pg_name (i := 5) scCheck.nd rfl (Or.inl rfl)) pgs_nil)))
        (fun _ _ _ _ _ => pts_nil) (fun _ _ _ _ _ => pe_call GP (hr.mono (by decide)) rfl gP kP bP .nil pass0 (pa_cons (pv 4) (pa_cons (pv 5) pa_nil))))
    (pss_cons (ps_if (pt_cmpR (op_eqD hr.units) (pe_callB cr_sorted (by rfl) T.srt (by decide +kernel) (pa_cons (pv 2) pa_nil))
        (pe_callB cr_sorted (by rfl) T.srt (by decide +kernel) (pa_cons (pe_meth (pv 0) T.cl mQ GQ hr bQ .nil pass0 (pa_cons (pe_fld (pv 0) rfl) pa_nil)) pa_nil)) (nomark _))
      (pss_one (ps_ret (pe_lst (pa_cons pe_int pa_nil)))) pss_nil)
    (pss_one (ps_ret (pe_lst (pa_cons pe_int pa_nil)))))), ?_⟩)
  · obtain ⟨a, t, d, n, L, l, rfl, _⟩ := h
    rfl
  · obtain ⟨a, t, d, n, L, l, rfl, N, hd, len, D⟩ := h
    refine ⟨_, rfl, d, rfl, ⟨_, SqL.of hd⟩, fun D1 hD1 => lc_gen l (fun k => V.int (k : Int)) (fun k => V.bl (decide (k < n.knots))) (fun _ => true) hD1 (by rw [hd, Ls_eq]) (by omega) ?_ ?_⟩
    · intro k hk H2 h2 Y Z hZ hY
      refine ⟨rfl, ?_⟩
      show if true = true then tMeth C "has_knot" (spHasK C) [] E0 (tVar 0) (tCons (tVar 3) tNil) _ H2 Y else Z H2
      refine iteT ?_
      have N2 := N.ext h2
      obtain ⟨dx, ha⟩ := N2.ob
      exact ⟨_, rfl, a, dx, _, rfl, ha, nF_no (by decide +kernel) (by decide +kernel) (by decide +kernel), _, rfl, a, t, n, L, k, rfl, N2, hY H2 Ext.refl rfl⟩
    · intro H1 x1 hD
      have e1 : (l.filter fun _ => true).map (fun k => V.bl (decide (k < n.knots))) = (l.map fun k => decide (k < n.knots)).map V.bl := by
        rw [List.map_map, List.filter_eq_self.mpr (fun _ _ => rfl)]; rfl
      rw [e1] at hD
      refine ⟨D1, _, rfl, SqL.of hD, _, rfl, ?_⟩
      have e2 : (l.map fun k => decide (k < n.knots)).all id = l.all fun k => decide (k < n.knots) := by rw [List.all_map]; rfl
      rw [e2]
      cases c : l.all fun k => decide (k < n.knots) with
      | false =>
        refine if_true_of rfl ?_
        have hs : Uw24.step n (.check l) = (n, Uw24.ok (-1)) := by
          simp only [Uw24.step]
          rw [if_pos c]
        refine ⟨_, rfl, by show 1 ≤ sizeLine; decide, fun p np => ?_⟩
        exact D.ext N (x1.none np) (x1.trans (Ext.new np)) (by rw [hs]) (by rw [hs]; rfl) upd_same
      | true =>
        refine if_false_of rfl ?_
        have hk : ∀ k ∈ l, k < 16 := fun k hk => Nat.lt_of_lt_of_le (of_decide_eq_true (List.all_eq_true.mp c k hk)) (Eul.knots_le N.inv.ok)
        have hs : Uw24.step n (.check l) = (n, Uw24.ok (if n.walks n.torn l = true then 1 else 0)) := by
          simp only [Uw24.step]
          rw [if_neg (by rw [c]; decide)]
        have hd1 := x1 _ _ hd
        refine ⟨_, rfl, _, rfl, 1, rfl, d, _, rfl, SqL.of hd1, fun p2 hp2 => ?_⟩
        rw [cut_tail]
        have x2 : Ext H1 (upd H1 p2 (Ls (l.drop 1))) := Ext.new hp2
        refine ⟨d, p2, (Cal.nts l).map V.int, (Cal.nts (l.drop 1)).map V.int, rfl, SqL.of (x2 _ _ hd1), SqL.of upd_same, fun D3 hD3 => ?_⟩
        refine lc_walk (walk_zip (xs := (Cal.nts l).map V.int) (ys := (Cal.nts (l.drop 1)).map V.int) rfl) (fun i H3 => Ext (upd H1 p2 (Ls (l.drop 1))) H3 ∧ H3 D3 = some (Ls (((l.zip (l.drop 1)).take i).map fun q => Bit.pr q.1 q.2))) ?_ ?_ ?_ ?_
        · exact ⟨Ext.new hD3, upd_same⟩
        · exact fun i H3 _ h => ⟨SqL.of (h.1 _ _ (x2 _ _ hd1)), SqL.of (h.1 _ _ upd_same)⟩
        · rintro i x H3 H4 hi ⟨x3, hD3'⟩ ⟨Tt, y, z, rfl, hT, rfl, hy, hz⟩
          obtain ⟨y', hy', rfl⟩ := ints_at hy
          obtain ⟨z', hz', rfl⟩ := ints_at hz
          have x4 : Ext H3 (upd H3 Tt (.tup [V.int (y' : Int), V.int (z' : Int)])) := Ext.new hT
          have yl := hk y' (List.mem_of_getElem? hy')
          have zl := hk z' (List.mem_of_mem_drop (List.mem_of_getElem? hz'))
          refine ⟨Tt, _, rfl, SqT.of upd_same, rfl, _, _, rfl, _, _, rfl, rfl, rfl, yes_turn ?_⟩
          refine ⟨_, rfl, _, rfl, y', z', rfl, by omega, by omega, _, x4 _ _ hD3', ?_, ?_, ?_⟩
          · rw [ints_len, List.length_map, List.length_take, List.length_zip]
            show _ < 2 ^ 24
            omega
          · exact (x3.trans x4).upd hD3
          · have ez : (l.zip (l.drop 1))[i]? = some (y', z') := by
              rw [List.getElem?_zip_eq_some]; exact ⟨hy', hz'⟩
            rw [upd_same, Ls_snoc, take_succ' ez, List.map_append]
            rfl
        · rintro H3 ⟨x3, hD3'⟩
          rw [ints_len, ints_len] at hD3'
          have e3 : ((l.zip (l.drop 1)).take (min l.length (l.drop 1).length)).map (fun q => Bit.pr q.1 q.2) = Bit.steps l := by
            rw [Bit.steps_zip, List.take_of_length_le (by rw [List.length_zip]; exact Nat.le_refl _)]
          rw [e3] at hD3'
          have x13 := (x1.trans x2).trans x3
          have sl : (Bit.steps l).length ≤ 30 := by
            rw [Bit.steps_zip, List.length_map, List.length_zip]; omega
          refine ⟨_, rfl, D3, _, rfl, SqL.of hD3', by rw [List.length_map]; omega, fun n1 p4 pm1 so1 np4 => ?_⟩
          have x4 : Ext H3 (upd H3 p4 (.lst (n1.map V.int))) := Ext.new np4
          have N4 := N.ext (x13.trans x4)
          obtain ⟨dx, ha⟩ := N4.ob
          have lt := perm_lt N.inv N.pm
          have len8 := perm_len N.inv N.pm
          refine ⟨_, rfl, a, dx, _, rfl, ha, nF_no (by decide +kernel) (by decide +kernel) (by decide +kernel), _, rfl, a, C, dx, _, _, rfl, ha, T.cl, T.nT, nF_torn, a, t, t, n, L, L, rfl, N4, N4.ls, lt, by omega, fun H5 p5 hp5 h5 x5 => ?_⟩
          refine ⟨p5, _, rfl, SqL.of h5, by rw [List.length_map, List.length_map]; omega, fun n2 p6 pm2 so2 np6 => ?_⟩
          have x6 : Ext H5 (upd H5 p6 (.lst (n2.map V.int))) := Ext.new np6
          refine ⟨_, _, .lst (SqL.of (x6 _ _ (x5 _ _ upd_same))) (dp_ints n1), .lst (SqL.of upd_same) (dp_ints n2), PySem.W.shaped_ints n1, PySem.W.shaped_ints n2, _, rfl, ?_⟩
          rw [eqv_list]
          have x16 := ((x13.trans x4).trans x5).trans x6
          have key : n1 = n2 ↔ n.walks n.torn l = true := by
            rw [Bit.walks_iff N.inv.ok l n.torn N.inv.fine]
            have pmL : (L.map (Bit.pp n)).Perm (n.torn.map (Bit.pp n)) := N.pm.map _
            constructor
            · intro e
              exact (ints_perm.mp ((pm1.symm.trans (e ▸ List.Perm.refl _)).trans pm2)).trans pmL
            · intro h
              exact sorted_eq so1 so2 ((pm1.trans (ints_perm.mpr (h.trans pmL.symm))).trans pm2.symm)
          by_cases c2 : n1 = n2
          · refine if_true_of (decide_eq_true c2) ?_
            refine ⟨by show 1 ≤ sizeLine; decide, fun p np => ?_⟩
            rw [if_pos (key.mp c2)] at hs
            exact D.ext N (x16.none np) (x16.trans (Ext.new np)) (by rw [hs]) (by rw [hs]; rfl) upd_same
          · refine if_false_of (decide_eq_false c2) ?_
            refine ⟨by show 1 ≤ sizeLine; decide, fun p np => ?_⟩
            rw [if_neg (fun h => c2 (key.mpr h))] at hs
            exact D.ext N (x16.none np) (x16.trans (Ext.new np)) (by rw [hs]) (by rw [hs]; rfl) upd_same
end Nm

set_option Elab.async false
set_option maxRecDepth 100000
set_option maxHeartbeats 2000000
namespace Nm
open PySem PySem.Spec PyProof.Rows L2
open PySem.W (Codec)
open Eul (Ok Fine)
variable {P : Program} {w : World} {K : PySem.W.Frag} {mg : Str → Option Value} {base : Heap} {C : Addr}

/-! ### may_come_to_do -/
theorem cat_ints {l m : List Nat} : (Cal.nts l).map V.int ++ (Cal.nts m).map V.int = (Cal.nts (l ++ m)).map V.int := by
  rw [Cal.nts, Cal.nts, Cal.nts, List.map_append, List.map_append]
theorem Ls_cat {l m : List Nat} : HO.lst ((Cal.nts l).map V.int ++ (Cal.nts m).map V.int) = Ls (l ++ m) := by rw [cat_ints]
def spMay (C : Addr) : Sp := fun vs H Q _ => ∃ (a t d : Addr) (n : Uw24.Net) (L l : List Nat), vs = [.ref a, .ref d] ∧ NetAt C H a t n L ∧ H d = some (Ls l) ∧ (∀ b ∈ l, b < n.bars) ∧ l.length ≤ 4 ∧ Val H (.bl (Bit.may n L l)) Q
theorem scMay : FnScope ["self", "cut", "odd"] ["self", "cut"] (defScope sMay) := ⟨rfl, rfl, rfl, by decide +kernel, rfl, by decide +kernel, by decide +kernel⟩
theorem ok_may {f fO fP : Addr} {fd fdO fdP : FuncData} (F : Fun K "may_come_to_do" "Net.may_come_to_do" sMay f fd) (T : Txt K mg C)
    (GO : FnOk P w K mg base CX0 3 fO fdO ["pairs"] spOddk) (gO : mg "odd_knots" = some (.ref fO)) (kO : PySem.W.keepIn K (.ref fO) = true) (bO : Binds K fdO ["pairs"] [])
    (GP : FnOk P w K mg base CX0 3 fP fdP ["self", "bars"] (spPairs C)) (mP : Meth K C "pairs_of" fP) (bP : Binds K fdP ["self", "bars"] []) : FnOk P w K mg base CX0 4 f fd ["self", "cut"] (spMay C) := by
  obtain ⟨tM, gM⟩ := T.gO
  obtain ⟨tC, gC⟩ := T.gC
  refine F.ok scMay (fun vs H Q E h => ?_) (fun cdv A outer s H vs Q E hr h => ⟨_,
    pss_cons (ps_set (i := 2) scMay.nd rfl (Or.inl rfl) (pe_call GO hr rfl gO kO bO .nil pass0 (pa_cons (pe_meth (pv 0) T.cl mP GP hr bP .nil pass0 (pa_cons (pe_op op_cat (pe_fld (pv 0) rfl) (pv 1)) pa_nil)) pa_nil)))
    (pss_one (ps_ret (pe_cmpR op_le (pe_callB call_len_seq (by rfl) T.len PySem.boot_len (pa_cons (pv 2) pa_nil))
      (pe_op op_add (pe_glob (v := .int 2) rfl gM ⟨_, rfl⟩) (pe_op op_mul pe_int (pe_op op_sub (pe_glob (v := .int 4) rfl gC ⟨_, rfl⟩) (pe_callB call_len_seq (by rfl) T.len PySem.boot_len (pa_cons (pv 1) pa_nil))))) (nomark _)))), ?_⟩)
  · obtain ⟨a, t, d, n, L, l, rfl, _⟩ := h
    rfl
  · obtain ⟨a, t, d, n, L, l, rfl, N, hd, hl, l4, q⟩ := h
    obtain ⟨dx, ha⟩ := N.ob
    have lt := perm_lt N.inv N.pm
    have len := perm_len N.inv N.pm
    have ltA : ∀ b ∈ L ++ l, b < n.bars := by
      intro b hb
      rcases List.mem_append.mp hb with h | h
      · exact lt b h
      · exact hl b h
    refine ⟨_, rfl, a, dx, _, rfl, ha, nF_no (by decide +kernel) (by decide +kernel) (by decide +kernel), _, rfl, a, C, dx, _, _, rfl, ha, T.cl, T.nT, nF_torn, _, rfl, t, d, _, _, rfl, rfl, N.ls, hd, ?_, fun p1 np1 => ?_⟩
    · rw [ints_len, ints_len]
      show _ ≤ 2 ^ 24
      omega
    · rw [Ls_cat]
      have x1 : Ext H (upd H p1 (Ls (L ++ l))) := Ext.new np1
      refine ⟨a, t, p1, n, L, L ++ l, rfl, N.ext x1, upd_same, ltA, by rw [List.length_append]; omega, fun H2 p2 hp2 h2 x2 => ?_⟩
      refine ⟨p2, _, rfl, h2, fun H3 p3 hp3 h3 x3 => ?_⟩
      rw [Bit.oddk_odd N.inv.ok ltA] at h3
      have x13 := (x1.trans x2).trans x3
      refine ⟨_, rfl, p3, _, rfl, .inl (SqL.of h3), ?_⟩
      refine ⟨_, rfl, d, _, rfl, .inl (SqL.of (x13 _ _ hd)), _, _, rfl, rfl, _, _, rfl, rfl, .inl ⟨by decide, by decide⟩, _, _, rfl, rfl, _, _, rfl, rfl, ?_⟩
      have e : decide ((((Cal.nts (n.odd (L ++ l))).map V.int).length : Int) ≤ 2 + 2 * (4 - (((Cal.nts l).map V.int).length : Int))) = Bit.may n L l := by
        unfold Bit.may
        rw [ints_len, ints_len, Bool.eq_iff_iff, decide_eq_true_iff, decide_eq_true_iff]
        omega
      have q' := q H3 x13
      rw [← e] at q'
      exact q'

/-! ### Lists of sets -/
def LLs (H : Hp) (a : Addr) (sets : List (List Nat)) : Prop := ∃ ps : List (Addr × List Nat), ps.map Prod.snd = sets ∧ H a = some (.lst (ps.map fun q => V.ref q.1)) ∧ ∀ q ∈ ps, q.1 ≠ a ∧ H q.1 = some (Ls q.2)
theorem LLs.ext {H H1 : Hp} {a : Addr} {sets : List (List Nat)} (h : LLs H a sets) (x : Ext H H1) : LLs H1 a sets := by
  obtain ⟨ps, h1, h2, h3⟩ := h
  exact ⟨ps, h1, x _ _ h2, fun q hq => ⟨(h3 q hq).1, x _ _ (h3 q hq).2⟩⟩
theorem LLs.push {H : Hp} {a p : Addr} {sets : List (List Nat)} {s : List Nat} (h : LLs H a sets) (hp : H p = some (Ls s)) (ne : p ≠ a) :
    ∃ acc, H a = some (.lst acc) ∧ acc.length = sets.length ∧ LLs (upd H a (.lst (acc ++ [V.ref p]))) a (sets ++ [s]) := by
  obtain ⟨ps, h1, h2, h3⟩ := h
  refine ⟨_, h2, by rw [List.length_map, ← h1, List.length_map], ps ++ [(p, s)], by rw [List.map_append, h1]; rfl, by rw [upd_same, List.map_append]; rfl, ?_⟩
  intro q hq
  rcases List.mem_append.mp hq with z | z
  · exact ⟨(h3 q z).1, by rw [upd_ne (h3 q z).1]; exact (h3 q z).2⟩
  · rw [List.mem_singleton] at z
    subst z
    exact ⟨ne, by rw [upd_ne ne]; exact hp⟩

/-- one of two values, and what follows -/
theorem if_val {c : Bool} {σ : L2.St} {H : Hp} {ta tb : TE} {Q : VK} {v : V} (h : Q v H) (ha : c = true → ∀ Q' : VK, Q' v H → ta σ H Q') (hb : c = false → ∀ Q' : VK, Q' v H → tb σ H Q') :
    if c = true then ta σ H Q else tb σ H Q := by
  cases c with
  | true => exact iteT (ha rfl Q h)
  | false => exact iteF (hb rfl Q h)

/-! ### larger_sets -/
theorem last_ints {l : List Nat} {z : Nat} (h : l.getLast? = some z) : atI ((Cal.nts l).map V.int) (-1) = some (V.int z) := by
  obtain ⟨l', rfl⟩ : ∃ l', l = l' ++ [z] := by
    have := List.getLast?_eq_some_iff.mp h
    exact this
  rw [← cat_ints]
  exact atI_last _ _
def spLarger (C : Addr) : Sp := fun vs H Q _ => ∃ (a t d : Addr) (n : Uw24.Net) (L : List Nat) (sets : List (List Nat)), vs = [.ref a, .ref d] ∧ NetAt C H a t n L ∧ LLs H d sets ∧
  (∀ s ∈ sets, s.length < 4 ∧ ∀ b ∈ s, b < n.bars) ∧ (sets.flatMap (Bit.more n L)).length ≤ 331776 ∧
  ∀ H' p, H p = none → LLs H' p (sets.flatMap (Bit.more n L)) → Ext H H' → Q (.ref p) H'
abbrev nLarger : List Str := ["self", "sets", "larger", "cut", "first", "bar"]
theorem scLarger : FnScope nLarger ["self", "sets"] (defScope sLarger) := ⟨rfl, rfl, rfl, by decide +kernel, rfl, by decide +kernel, by decide +kernel⟩
/-- the sets from one, up to a place -/
def moreTo (n : Uw24.Net) (L s : List Nat) (a j : Nat) : List (List Nat) := (((List.range j).map (a + ·)).filter fun b => !n.torn.contains b && Bit.may n L (s ++ [b])).map fun b => s ++ [b]
theorem moreTo_succ {n : Uw24.Net} {L s : List Nat} {a j : Nat} : moreTo n L s a (j + 1) = moreTo n L s a j ++ if (!n.torn.contains (a + j) && Bit.may n L (s ++ [a + j])) = true then [s ++ [a + j]] else [] := by
  unfold moreTo
  rw [List.range_succ, List.map_append, List.filter_append, List.map_append]
  congr 1
  rw [List.map_cons, List.map_nil, List.filter_cons]
  split <;> rfl
theorem moreTo_all {n : Uw24.Net} {L s : List Nat} {a : Nat} (ha : a = match s.getLast? with | none => 0 | some z => z + 1) : moreTo n L s a (n.bars - a) = Bit.more n L s := by
  unfold moreTo Bit.more
  rw [Bit.rest_range ha, List.filter_filter]
  congr 1
  apply List.filter_congr
  intro b _
  rw [Bool.and_comm]
theorem ok_larger {f fA fM : Addr} {fd fdA fdM : FuncData} (F : Fun K "larger_sets" "Net.larger_sets" sLarger f fd) (T : Txt K mg C)
    (GA : FnOk P w K mg base CX0 2 fA fdA ["self"] (spAll C)) (mA : Meth K C "all_bars" fA) (bA : Binds K fdA ["self"] [])
    (GM : FnOk P w K mg base CX0 4 fM fdM ["self", "cut"] (spMay C)) (mM : Meth K C "may_come_to_do" fM) (bM : Binds K fdM ["self", "cut"] []) : FnOk P w K mg base CX0 5 f fd ["self", "sets"] (spLarger C) := by
  refine F.ok scLarger (fun vs H Q E h => ?_) (fun cdv A outer s H vs Q E hr h => ⟨_,
    pss_cons (ps_set (i := 2) scLarger.nd rfl (Or.inl rfl) (pe_lst pa_nil))
    (pss_cons (ps_for PassesOwn.never rfl (pi_list (pv 1)) (pg_name (i := 3) scLarger.nd rfl (Or.inl rfl))
      (pss_cons (ps_set (i := 4) scLarger.nd rfl (Or.inl rfl) (pe_ifExp (pt_truth (pv 3) (by intro _; rfl)) (pe_op op_add (pe_ix ix_list (pv 3) (pe_un un_neg pe_int) (fun _ _ => rfl)) pe_int) pe_int))
      (pss_one (ps_for PassesOwn.never rfl (pi_range2 rfl T.rng (pa_cons (pv 4) (pa_cons (pe_meth0 (pv 0) T.cl mA GA (hr.mono (by decide)) bA .nil pass0) pa_nil))) (pg_name (i := 5) scLarger.nd rfl (Or.inl rfl))
        (pss_one (ps_if (PW.pt (pw_and (pt_cmpR op_notIn_seq (pv 5) (pe_fld (pv 0) rfl) (by rfl)) (pw_and1 (pt_val (pe_meth (pv 0) T.cl mM GM hr bM .nil pass0 (pa_cons (pe_op op_cat (pv 3) (pe_lst (pa_cons (pv 5) pa_nil))) pa_nil))))))
          (pss_one (ps_expr (pe_bm PySem.F.plainAttrs_list PySem.F.slot_list_append PySem.F.type_list_append mt_append (pv 2) (pa_cons (pe_op op_cat (pv 3) (pe_lst (pa_cons (pv 5) pa_nil))) pa_nil))))
          pss_nil))))))
    (pss_one (ps_ret (pv 2)))), ?_⟩)
  · obtain ⟨a, t, d, n, L, sets, rfl, _⟩ := h
    rfl
  · obtain ⟨a, t, d, n, L, sets, rfl, N, hS, hs4, len, q⟩ := h
    have b24 := Eul.bars_le N.inv.ok
    obtain ⟨ps, e1, hd, hps⟩ := hS
    refine ⟨by show 0 ≤ sizeLine; decide, fun D hD => ?_⟩
    have x0 : Ext H (upd H D (.lst [])) := Ext.new hD
    refine ⟨_, rfl, d, rfl, ⟨_, SqL.of (x0 _ _ hd)⟩, for_list (xs := ps.map fun q => V.ref q.1)
      (fun i σ H1 => Ext H H1 ∧ LLs H1 D ((sets.take i).flatMap (Bit.more n L)) ∧ ∃ o3 o4 o5, σ = [some (.ref a), some (.ref d), some (.ref D), o3, o4, o5]) ?_ ?_ ?_ ?_⟩
    · refine ⟨x0, ⟨[], rfl, upd_same, fun q hq => by cases hq⟩, _, _, _, rfl⟩
    · rintro i σ H1 _ ⟨hx, _⟩
      exact SqL.of (hx _ _ hd)
    · rintro i x σ H1 hi ⟨hx, hL, o3, o4, o5, rfl⟩
      rw [List.getElem?_map] at hi
      cases ei : ps[i]? with
      | none => rw [ei] at hi; cases hi
      | some pq =>
        rw [ei] at hi
        cases hi
        obtain ⟨p, sx⟩ := pq
        have es : sets[i]? = some sx := by rw [← e1, List.getElem?_map, ei]; rfl
        have hp : H p = some (Ls sx) := (hps _ (List.mem_of_getElem? ei)).2
        have hp1 := hx _ _ hp
        obtain ⟨sx4, sxb⟩ := hs4 sx (List.mem_of_getElem? es)
        refine ⟨_, rfl, _, .inl ⟨_, SqL.of hp1, rfl⟩, ?_⟩
        rw [empty_ints]
        obtain ⟨z, ez⟩ : ∃ z : Nat, z = match sx.getLast? with | none => 0 | some y => y + 1 := ⟨_, rfl⟩
        have z24 : z ≤ 24 := by
          cases el : sx.getLast? with
          | none => rw [el] at ez; simp only at ez; omega
          | some y =>
            rw [el] at ez
            simp only at ez
            have := sxb y (List.mem_of_getLast? el)
            omega
        refine if_val (v := V.int (z : Int)) ?_ ?_ ?_
        · have N1 := N.ext hx
          obtain ⟨dx, ha⟩ := N1.ob
          refine ⟨_, rfl, _, rfl, a, dx, _, rfl, ha, nF_no (by decide +kernel) (by decide +kernel) (by decide +kernel), a, t, n, L, rfl, N1, (z : Int), (n.bars : Int), rfl, ⟨by omega, by omega, by omega, by omega⟩, ?_⟩
          refine for_range (lo := (z : Int)) (n := ((n.bars : Int) - (z : Int)).toNat)
            (fun j σ H2 => Ext H H2 ∧ LLs H2 D ((sets.take i).flatMap (Bit.more n L) ++ moreTo n L sx z j) ∧ ∃ o5, σ = [some (.ref a), some (.ref d), some (.ref D), some (.ref p), some (.int (z : Int)), o5]) ?_ ?_ ?_
          · refine ⟨hx, ?_, _, rfl⟩
            have e0 : moreTo n L sx z 0 = [] := rfl
            rw [e0, List.append_nil]
            exact hL
          · rintro j σ H2 hj ⟨x2, hL2, o5', rfl⟩
            have N2 := N.ext x2
            obtain ⟨dx2, ha2⟩ := N2.ob
            have hp2 := x2 _ _ hp
            have eb : V.int ((z : Int) + (j : Int)) = V.int ((z + j : Nat) : Int) := by rw [Int.natCast_add]
            rw [eb]
            have jb : z + j < n.bars := by omega
            have mem : inV (V.int ((z + j : Nat) : Int)) ((Cal.nts L).map V.int) = n.torn.contains (z + j) := by
              rw [in_ints, Bool.eq_iff_iff, decide_eq_true_iff, List.contains_iff_mem, N.pm.mem_iff]
            refine ⟨_, rfl, _, rfl, a, C, dx2, _, _, rfl, ha2, T.cl, T.nT, nF_torn, t, _, rfl, .inl (SqL.of N2.ls), rfl, flat_ints, _, rfl, ?_⟩
            simp only [if_true]
            rw [mem]
            cases c1 : n.torn.contains (z + j) with
            | true =>
              refine iteF (iteF ?_)
              refine ⟨x2, ?_, _, rfl⟩
              rw [moreTo_succ, c1, Bool.not_true, Bool.false_and, if_neg Bool.false_ne_true, List.append_nil]
              exact hL2
            | false =>
              refine iteT ?_
              have cat : ∀ (H3 : Hp), Ext H H3 → ∀ Q' : VK, (∀ H4 p4, H3 p4 = none → H4 p4 = some (Ls (sx ++ [z + j])) → Ext H3 H4 → Q' (.ref p4) H4) →
                  tOp rCat (tVar 3) (tLst (tCons (tVar 5) tNil)) [some (.ref a), some (.ref d), some (.ref D), some (.ref p), some (.int (z : Int)), some (.int ((z + j : Nat) : Int))] H3 Q' := by
                intro H3 x3 Q' k
                refine ⟨_, rfl, _, rfl, by show 1 ≤ sizeLine; decide, fun p4 np4 => ?_⟩
                have x4 : Ext H3 (upd H3 p4 (.lst [V.int ((z + j : Nat) : Int)])) := Ext.new np4
                refine ⟨p, p4, _, _, rfl, rfl, x4 _ _ (x3 _ _ hp), upd_same, ?_, fun p5 np5 => ?_⟩
                · rw [ints_len]
                  show _ + 1 ≤ 2 ^ 24
                  omega
                · refine k _ p5 (x4.none np5) ?_ (x4.trans (Ext.new np5))
                  rw [upd_same, ints_snoc]
              refine ⟨_, rfl, a, dx2, _, rfl, ha2, nF_no (by decide +kernel) (by decide +kernel) (by decide +kernel), ?_⟩
              refine cat H2 x2 _ fun H3 p3 hp3 h3 x3 => ?_
              refine ⟨a, t, p3, n, L, sx ++ [z + j], rfl, N2.ext x3, h3, ?_, ?_, fun H4 x4 => ⟨_, rfl, ?_⟩⟩
              · intro b hb
                rcases List.mem_append.mp hb with h | h
                · exact sxb b h
                · rw [List.mem_singleton] at h; omega
              · rw [List.length_append, List.length_singleton]; omega
              · have x24 := x3.trans x4
                cases c2 : Bit.may n L (sx ++ [z + j]) with
                | false =>
                  refine iteF ?_
                  refine ⟨x2.trans x24, ?_, _, rfl⟩
                  rw [moreTo_succ, c2, Bool.and_false, if_neg Bool.false_ne_true, List.append_nil]
                  exact hL2.ext x24
                | true =>
                  refine iteT ?_
                  have hL4 := hL2.ext x24
                  have hD4 : ∃ acc, H4 D = some (.lst acc) := by obtain ⟨_, _, h, _⟩ := hL4; exact ⟨_, h⟩
                  obtain ⟨acc4, hD4⟩ := hD4
                  refine ⟨_, rfl, .inl ⟨rfl, _, SqL.of hD4⟩, ?_⟩
                  refine cat H4 (x2.trans x24) _ fun H5 p5 hp5 h5 x5 => ?_
                  have neD : p5 ≠ D := by intro e; rw [e, hD4] at hp5; cases hp5
                  obtain ⟨acc, hacc, lacc, hL5⟩ := (hL4.ext x5).push h5 neD
                  refine ⟨D, _, _, rfl, rfl, hacc, ?_, ?_⟩
                  · rw [lacc, List.length_append]
                    have e1 : ((sets.take i).flatMap (Bit.more n L)).length ≤ 331776 := by
                      have e2 : (sets.flatMap (Bit.more n L)).length = ((sets.take i).flatMap (Bit.more n L)).length + ((sets.drop i).flatMap (Bit.more n L)).length := by
                        rw [← List.length_append, ← List.flatMap_append, List.take_append_drop]
                      omega
                    have e3 : (moreTo n L sx z j).length ≤ j := by
                      unfold moreTo
                      rw [List.length_map]
                      refine Nat.le_trans (List.length_filter_le _ _) ?_
                      rw [List.length_map, List.length_range]
                      exact Nat.le_refl _
                    show _ < 2 ^ 24
                    omega
                  · refine ⟨((x2.trans x24).trans x5).upd hD, ?_, _, rfl⟩
                    rw [moreTo_succ, c1, c2, Bool.not_false, Bool.true_and, if_pos rfl, ← List.append_assoc]
                    exact hL5
          · rintro σ H2 ⟨x2, hL2, o5', rfl⟩
            refine ⟨x2, ?_, _, _, _, rfl⟩
            have e3 : ((n.bars : Int) - (z : Int)).toNat = n.bars - z := by omega
            rw [e3, moreTo_all ez] at hL2
            rw [take_succ' es, List.flatMap_append, List.flatMap_cons, List.flatMap_nil, List.append_nil]
            exact hL2
        · intro c Q' k
          cases el : sx.getLast? with
          | none =>
            have : sx = [] := List.getLast?_eq_none_iff.mp el
            subst this
            cases c
          | some y =>
            rw [el] at ez
            simp only at ez
            subst ez
            refine ⟨_, rfl, _, rfl, p, _, -1, _, rfl, rfl, SqL.of hp1, last_ints el, _, _, rfl, rfl, ?_⟩
            exact k
        · intro c Q' k
          cases sx with
          | nil =>
            have : z = 0 := ez
            subst this
            exact k
          | cons _ _ => cases c
    · rintro σ H1 ⟨hx, hL, o3, o4, o5, rfl⟩
      have e2 : (ps.map fun q => V.ref q.1).length = sets.length := by rw [List.length_map, ← e1, List.length_map]
      rw [e2, List.take_length] at hL
      exact ⟨_, rfl, q H1 D hD hL hx⟩
end Nm

set_option Elab.async false
set_option maxRecDepth 100000
set_option maxHeartbeats 2000000
namespace Nm
open PySem PySem.Spec PyProof.Rows L2
open PySem.W (Codec)
open Eul (Ok Fine)
variable {P : Program} {w : World} {K : PySem.W.Frag} {mg : Str → Option Value} {base : Heap} {C : Addr}

/-! ### best -/
def spBest (C : Addr) : Sp := fun vs H Q _ => ∃ (a t : Addr) (n : Uw24.Net) (L : List Nat), vs = [.ref a] ∧ NetAt C H a t n L ∧ Done C H a t (Uw24.step n .best) Q
abbrev nBest : List Str := ["self", "sets", "size", "done", "cut"]
theorem scBest : FnScope nBest ["self"] (defScope sBest) := ⟨rfl, rfl, rfl, by decide +kernel, rfl, by decide +kernel, by decide +kernel⟩
theorem kept_in {n : Uw24.Net} {L : List Nat} {k : Nat} {s : List Nat} (h : s ∈ Bit.kept n L k) : s.Sublist n.sound ∧ s.length = k := Cal.mem_some.mp (List.mem_filter.mp h).1
theorem sub_lt {n : Uw24.Net} {s : List Nat} (h : s.Sublist n.sound) : ∀ b ∈ s, b < n.bars := fun _ hb => (Cal.mem_sound.mp (h.subset hb)).1
theorem way_len {n : Uw24.Net} (o : Ok n) {l v : List Nat} (f : Fine n l) (h : n.way l = some v) : v.length ≤ l.length + 1 := by
  by_cases c : l = []
  · subst c
    rw [Eul.way_nil] at h
    cases h
    exact Nat.zero_le _
  · obtain ⟨k, h1, _⟩ := Bit.way_start o f c h
    obtain ⟨p, u, pm, e, kn⟩ := Eul.first_kn _ _ _ _ f.nd h1
    rw [kn.len, pm.length_eq]
    exact Nat.le_refl _
abbrev tHasW (K : PySem.W.Frag) (C : Addr) : TT := tB (tCall spWay [] E0 (tCons (tMeth C "pairs_of" (spPairs C) [] E0 (tVar 0) (tCons (tOp rCat (tFld K (tVar 0) "torn") (tVar 4)) tNil)) tNil))
theorem ok_best {f fL fP fW fE : Addr} {fd fdL fdP fdW fdE : FuncData} (F : Fun K "best" "Net.best" sBest f fd) (T : Txt K mg C)
    (GL : FnOk P w K mg base CX0 5 fL fdL ["self", "sets"] (spLarger C)) (mL : Meth K C "larger_sets" fL) (bL : Binds K fdL ["self", "sets"] [])
    (GP : FnOk P w K mg base CX0 3 fP fdP ["self", "bars"] (spPairs C)) (mP : Meth K C "pairs_of" fP) (bP : Binds K fdP ["self", "bars"] [])
    (GW : FnOk P w K mg base CX0 4 fW fdW ["pairs"] spWay) (gW : mg "has_way" = some (.ref fW)) (kW : PySem.W.keepIn K (.ref fW) = true) (bW : Binds K fdW ["pairs"] [])
    (GE : FnOk P w K mg base CX0 5 fE fdE ["pairs"] spEarly) (gE : mg "earliest_way" = some (.ref fE)) (kE : PySem.W.keepIn K (.ref fE) = true) (bE : Binds K fdE ["pairs"] []) :
    FnOk P w K mg base CX0 6 f fd ["self"] (spBest C) := by
  obtain ⟨tC, gC⟩ := T.gC
  refine F.ok scBest (fun vs H Q E h => ?_) (fun cdv A outer s H vs Q E hr h => ⟨_,
    pss_cons (ps_set (i := 1) scBest.nd rfl (Or.inl rfl) (pe_lst (pa_cons (pe_lst pa_nil) pa_nil)))
    (pss_cons (ps_for PassesOwn.never rfl (pi_range1 rfl T.rng (pa_cons (pe_op op_add (pe_glob (v := .int 4) rfl gC ⟨_, rfl⟩) pe_int) pa_nil)) (pg_name (i := 2) scBest.nd rfl (Or.inl rfl))
      (pss_cons (ps_if (pt_cmpR op_gt (pv 2) pe_int (nomark _)) (pss_one (ps_set (i := 1) scBest.nd rfl (Or.inl rfl) (pe_meth (pv 0) T.cl mL GL hr bL .nil pass0 (pa_cons (pv 1) pa_nil)))) pss_nil)
      (pss_cons (ps_setLc (i := 3) (own := [("cut", 4)]) (g := gName 4) (tt := tHasW K C) rfl scBest.nd rfl rfl (sw_true rfl rfl rfl (by decide +kernel)) (pi_list (pv 1))
        (blkOk_by (N := nBest) (sc := defScope sBest) (by decide +kernel)) (fun _ _ _ _ _ => pg_name (i := 4) scBest.nd rfl (Or.inl rfl))
        (fun _ _ _ _ _ => pts_one (pt_val (pe_call GW (hr.mono (by decide)) rfl gW kW bW .nil pass0 (pa_cons (pe_meth (pv 0) T.cl mP GP (hr.mono (by decide)) bP .nil pass0 (pa_cons (pe_op op_cat (pe_fld (pv 0) rfl) (pv 4)) pa_nil)) pa_nil))))
        (fun _ _ _ _ _ => pv 4))
      (pss_one (ps_if (pt_truth (pv 3) (by intro _; rfl))
        (pss_one (ps_ret (pe_op op_cat (pe_op op_cat (pe_lst (pa_cons (pv 2) (pa_cons (pe_callB call_len_seq (by rfl) T.len PySem.boot_len (pa_cons (pv 3) pa_nil)) pa_nil))) (pe_ix ix_list (pv 3) pe_int (fun _ _ => rfl)))
          (pe_call GE hr rfl gE kE bE .nil pass0 (pa_cons (pe_meth (pv 0) T.cl mP GP (hr.mono (by decide)) bP .nil pass0 (pa_cons (pe_op op_cat (pe_fld (pv 0) rfl) (pe_ix ix_list (pv 3) pe_int (fun _ _ => rfl))) pa_nil)) pa_nil)))))
        pss_nil)))))
    (pss_one (ps_ret (pe_lst (pa_cons (pe_un un_neg pe_int) pa_nil))))), ?_⟩)
  · obtain ⟨a, t, n, L, rfl, _⟩ := h
    rfl
  · obtain ⟨a, t, n, L, rfl, N, D⟩ := h
    have o := N.inv.ok
    have len8 := perm_len N.inv N.pm
    refine ⟨by show 0 ≤ sizeLine; decide, fun p0 np0 => ?_⟩
    have x0 : Ext H (upd H p0 (.lst [])) := Ext.new np0
    refine ⟨by show 1 ≤ sizeLine; decide, fun S0 nS0 => ?_⟩
    have x1 : Ext (upd H p0 (.lst [])) (upd (upd H p0 (.lst [])) S0 (.lst [V.ref p0])) := Ext.new nS0
    have p0S : p0 ≠ S0 := by intro e; rw [← e, upd_same] at nS0; cases nS0
    refine ⟨_, _, rfl, rfl, 5, rfl, by decide, by decide, ?_⟩
    refine for_range (lo := 0) (n := 5)
      (fun i σ H1 => Ext H H1 ∧ (∀ j, j < i → n.by_ j = []) ∧ ∃ (S : Addr) (o2 o3 o4 : Option V), LLs H1 S (Bit.kept n L (i - 1)) ∧ σ = [some (.ref a), some (.ref S), o2, o3, o4]) ?_ ?_ ?_
    · refine ⟨x0.trans x1, fun j hj => by omega, S0, _, _, _, ⟨[(p0, [])], ?_, upd_same, ?_⟩, rfl⟩
      · rw [Bit.kept_zero]; rfl
      · intro q hq
        rw [List.mem_singleton] at hq
        subst hq
        exact ⟨p0S, by rw [upd_ne p0S, upd_same]; rfl⟩
    · rintro i σ H1 hi ⟨xH, no, S, o2, o3, o4, hS, rfl⟩
      have ei : V.int (0 + (i : Int)) = V.int (i : Int) := by rw [Int.zero_add]
      rw [ei]
      have x1 := xH
      -- with the sets of this size
      have main : ∀ (S' : Addr) (H2 : Hp), Ext H H2 → LLs H2 S' (Bit.kept n L i) → ∀ (o2 o3 o4 : Option V) (Qd : VK), (∀ (Dn : Addr) (ps' : List (Addr × List Nat)) (H3 : Hp), Ext H2 H3 → H3 Dn = some (.lst (ps'.map fun q => V.ref q.1)) →
            (∀ q ∈ ps', H3 q.1 = some (Ls q.2)) → ps'.map Prod.snd = n.by_ i → Qd (.ref Dn) H3) →
          tLc (iList K (tVar 1)) (gName 4) (tHasW K C) (tVar 4) [4] [some (.ref a), some (.ref S'), o2, o3, o4] H2 Qd := by
        intro S' H2 x2 hS' o2 o3 o4 Qd hQd
        obtain ⟨ps, e1, hs, hps⟩ := hS'
        refine ⟨_, rfl, S', rfl, ⟨_, SqL.of hs⟩, fun Dn hDn => lc_gen ps (fun q => V.ref q.1) (fun q => V.ref q.1) (fun q => Bit.hasWay ((L ++ q.2).map (Bit.pp n))) hDn hs ?_ ?_ ?_⟩
        · have := Bit.kept_len o (L := L) (k := i) (by omega)
          rw [← e1, List.length_map] at this
          omega
        · intro q hq H3 x3 Y Z hZ hY
          have hq2 : q.2 ∈ Bit.kept n L i := by rw [← e1]; exact List.mem_map.mpr ⟨q, hq, rfl⟩
          have ⟨sub, lq⟩ := kept_in hq2
          have N3 := N.ext (x2.trans x3)
          obtain ⟨dx, ha⟩ := N3.ob
          have hq3 := x3 _ _ (hps q hq).2
          have lt : ∀ b ∈ L ++ q.2, b < n.bars := by
            intro b hb
            rcases List.mem_append.mp hb with h | h
            · exact perm_lt N.inv N.pm b h
            · exact sub_lt sub b h
          refine ⟨rfl, _, rfl, a, dx, _, rfl, ha, nF_no (by decide +kernel) (by decide +kernel) (by decide +kernel), _, rfl, a, C, dx, _, _, rfl, ha, T.cl, T.nT, nF_torn, _, rfl, t, q.1, _, _, rfl, rfl, N3.ls, hq3, ?_, fun p4 np4 => ?_⟩
          · rw [ints_len, ints_len]
            show _ ≤ 2 ^ 24
            omega
          · rw [Ls_cat]
            have x4 : Ext H3 (upd H3 p4 (Ls (L ++ q.2))) := Ext.new np4
            refine ⟨a, t, p4, n, L, L ++ q.2, rfl, N3.ext x4, upd_same, lt, by rw [List.length_append]; omega, fun H5 p5 hp5 h5 x5 => ?_⟩
            refine ⟨p5, _, rfl, h5, by rw [List.length_map, List.length_append]; omega, fun H6 x6 => ⟨_, rfl, ?_⟩⟩
            have x36 := (x4.trans x5).trans x6
            cases c : Bit.hasWay ((L ++ q.2).map (Bit.pp n)) with
            | true => exact iteT ⟨_, rfl, hY H6 x36 c⟩
            | false => exact iteF (hZ H6 x36 c)
        · intro H3 x3 hD3
          refine hQd Dn (ps.filter fun q => Bit.hasWay ((L ++ q.2).map (Bit.pp n))) H3 x3 hD3 (fun q hq => x3 _ _ (hps q (List.mem_filter.mp hq).1).2) ?_
          rw [← Bit.done_by N.inv N.pm (k := i) (by omega), ← e1, List.filter_map]
          rfl
      refine ⟨_, rfl, _, _, rfl, rfl, _, rfl, ?_⟩
      by_cases c0 : i = 0
      · refine if_false_of (decide_eq_false (by omega)) ?_
        have hS' : LLs H1 S (Bit.kept n L i) := by rw [c0] at hS ⊢; exact hS
        simp only [tNext, tSeq, tAsg]
        refine main S H1 xH hS' _ _ _ _ fun Dn ps' H3 x3 hDn hps' eby => ?_
        refine ⟨_, rfl, _, .inl ⟨_, SqL.of hDn, rfl⟩, ?_⟩
        have x23 := xH.trans x3
        cases ps' with
        | nil =>
          refine if_false_of rfl ?_
          refine ⟨x23, ?_, S, _, _, _, hS'.ext x3, rfl⟩
          intro j hj
          by_cases c : j = i
          · rw [c]; exact eby.symm
          · exact no j (by omega)
        | cons q0 r =>
          refine if_true_of rfl ?_
          obtain ⟨d0, s0⟩ := q0
          have hq0 : H3 d0 = some (Ls s0) := hps' _ (List.mem_cons_self ..)
          have eby' : n.by_ i = s0 :: r.map Prod.snd := eby.symm
          have sin : s0 ∈ n.by_ i := by rw [eby']; exact List.mem_cons_self ..
          have ⟨sin1, sin2⟩ := List.mem_filter.mp sin
          have ⟨sub, slen⟩ := Cal.mem_some.mp sin1
          have f := Cal.fine_cut N.inv sub
          have pm' : (L ++ s0).Perm (n.torn ++ s0) := N.pm.append_right s0
          have f' : Fine n (L ++ s0) := f.perm pm'.symm
          have hw : (n.way (n.torn ++ s0)).isSome = true := by rw [← Eul.goes_way o f]; exact sin2
          obtain ⟨v, hv⟩ := Option.isSome_iff_exists.mp hw
          have hv' : n.way (L ++ s0) = some v := by rw [Cal.way_perm o f' pm']; exact hv
          have vlen := way_len o f' hv'
          rw [List.length_append] at vlen
          have hb : n.best = some ⟨s0, (r.map Prod.snd).length + 1⟩ := Bit.best_some (by omega) eby' no
          have hs : Uw24.step n .best = (n, ⟨(s0.length : Nat), ((r.map Prod.snd).length + 1) :: (s0 ++ v)⟩) := by
            simp only [Uw24.step]
            rw [hb]
            simp only
            rw [hv]
            rfl
          refine ⟨_, rfl, _, rfl, Dn, _, rfl, .inl (SqL.of hDn), by show 2 ≤ sizeLine; decide, fun p4 np4 => ?_⟩
          have x4 := Ext.new (o := .lst [V.int (i : Int), V.int ((((d0, s0) :: r).map fun q => V.ref q.1).length : Nat)]) np4
          refine ⟨_, rfl, Dn, _, 0, _, rfl, rfl, SqL.of (x4 _ _ hDn), at0, p4, d0, _, _, rfl, rfl, upd_same, x4 _ _ hq0, ?_, fun p5 np5 => ?_⟩
          · rw [ints_len]
            show 2 + _ ≤ 2 ^ 24
            omega
          have x5 := Ext.new (o := .lst ([V.int (i : Int), V.int ((((d0, s0) :: r).map fun q => V.ref q.1).length : Nat)] ++ (Cal.nts s0).map V.int)) np5
          have x25 := (x23.trans x4).trans x5
          have N5 := N.ext x25
          obtain ⟨dx, ha⟩ := N5.ob
          refine ⟨_, rfl, a, dx, _, rfl, ha, nF_no (by decide +kernel) (by decide +kernel) (by decide +kernel), _, rfl, a, C, dx, _, _, rfl, ha, T.cl, T.nT, nF_torn, _, rfl, Dn, _, 0, _, rfl, rfl, SqL.of ((x4.trans x5) _ _ hDn), at0, t, d0, _, _, rfl, rfl, N5.ls, (x4.trans x5) _ _ hq0, ?_, fun p6 np6 => ?_⟩
          · rw [ints_len, ints_len]
            show _ ≤ 2 ^ 24
            omega
          rw [Ls_cat]
          have x6 := Ext.new (o := Ls (L ++ s0)) np6
          refine ⟨a, t, p6, n, L, L ++ s0, rfl, N5.ext x6, upd_same, f'.lt, by rw [List.length_append]; omega, fun H7 p7 hp7 h7 x7 => ?_⟩
          refine ⟨p7, L ++ s0, n, v, rfl, h7, o, f', hv', fun H8 p8 hp8 h8 x8 => ?_⟩
          refine ⟨p5, p8, _, _, rfl, rfl, ((x6.trans x7).trans x8) _ _ upd_same, h8, ?_, fun p9 np9 => ?_⟩
          · rw [List.length_append, ints_len, ints_len]
            show 2 + _ + _ ≤ 2 ^ 24
            omega
          have x28 := ((x25.trans x6).trans x7).trans x8
          refine D.ext N (x28.none np9) (x28.trans (Ext.new np9)) (by rw [hs]) ?_ upd_same
          rw [hs]
          show V.int (s0.length : Nat) :: V.int (((r.map Prod.snd).length + 1 : Nat) : Int) :: (Cal.nts (s0 ++ v)).map V.int = _
          rw [← cat_ints, slen, List.length_map, List.length_map, List.length_cons]
          rfl
      · refine if_true_of (decide_eq_true (by omega)) ?_
        have N1 := N.ext xH
        obtain ⟨dx1, ha1⟩ := N1.ob
        have en : Bit.kept n L i = (Bit.kept n L (i - 1)).flatMap (Bit.more n L) := by
          have e := @Bit.kept_next n L (i - 1)
          rw [show i - 1 + 1 = i by omega] at e
          exact e
        refine ⟨_, rfl, a, dx1, _, rfl, ha1, nF_no (by decide +kernel) (by decide +kernel) (by decide +kernel), _, rfl, a, t, S, n, L, _, rfl, N1, hS, ?_, ?_, fun H2 S' hS0 hS2 xS => ?_⟩
        · intro s hs
          have ⟨h1, h2⟩ := kept_in hs
          exact ⟨by omega, sub_lt h1⟩
        · rw [← en]; exact Bit.kept_len o (by omega)
        rw [← en] at hS2
        have x2 := xH.trans xS
        simp only [gName, tSeq, tAsg]
        refine main S' H2 x2 hS2 _ _ _ _ fun Dn ps' H3 x3 hDn hps' eby => ?_
        refine ⟨_, rfl, _, .inl ⟨_, SqL.of hDn, rfl⟩, ?_⟩
        have x23 := x2.trans x3
        cases ps' with
        | nil =>
          refine if_false_of rfl ?_
          refine ⟨x23, ?_, S', _, _, _, hS2.ext x3, rfl⟩
          intro j hj
          by_cases c : j = i
          · rw [c]; exact eby.symm
          · exact no j (by omega)
        | cons q0 r =>
          refine if_true_of rfl ?_
          obtain ⟨d0, s0⟩ := q0
          have hq0 : H3 d0 = some (Ls s0) := hps' _ (List.mem_cons_self ..)
          have eby' : n.by_ i = s0 :: r.map Prod.snd := eby.symm
          have sin : s0 ∈ n.by_ i := by rw [eby']; exact List.mem_cons_self ..
          have ⟨sin1, sin2⟩ := List.mem_filter.mp sin
          have ⟨sub, slen⟩ := Cal.mem_some.mp sin1
          have f := Cal.fine_cut N.inv sub
          have pm' : (L ++ s0).Perm (n.torn ++ s0) := N.pm.append_right s0
          have f' : Fine n (L ++ s0) := f.perm pm'.symm
          have hw : (n.way (n.torn ++ s0)).isSome = true := by rw [← Eul.goes_way o f]; exact sin2
          obtain ⟨v, hv⟩ := Option.isSome_iff_exists.mp hw
          have hv' : n.way (L ++ s0) = some v := by rw [Cal.way_perm o f' pm']; exact hv
          have vlen := way_len o f' hv'
          rw [List.length_append] at vlen
          have hb : n.best = some ⟨s0, (r.map Prod.snd).length + 1⟩ := Bit.best_some (by omega) eby' no
          have hs : Uw24.step n .best = (n, ⟨(s0.length : Nat), ((r.map Prod.snd).length + 1) :: (s0 ++ v)⟩) := by
            simp only [Uw24.step]
            rw [hb]
            simp only
            rw [hv]
            rfl
          refine ⟨_, rfl, _, rfl, Dn, _, rfl, .inl (SqL.of hDn), by show 2 ≤ sizeLine; decide, fun p4 np4 => ?_⟩
          have x4 := Ext.new (o := .lst [V.int (i : Int), V.int ((((d0, s0) :: r).map fun q => V.ref q.1).length : Nat)]) np4
          refine ⟨_, rfl, Dn, _, 0, _, rfl, rfl, SqL.of (x4 _ _ hDn), at0, p4, d0, _, _, rfl, rfl, upd_same, x4 _ _ hq0, ?_, fun p5 np5 => ?_⟩
          · rw [ints_len]
            show 2 + _ ≤ 2 ^ 24
            omega
          have x5 := Ext.new (o := .lst ([V.int (i : Int), V.int ((((d0, s0) :: r).map fun q => V.ref q.1).length : Nat)] ++ (Cal.nts s0).map V.int)) np5
          have x25 := (x23.trans x4).trans x5
          have N5 := N.ext x25
          obtain ⟨dx, ha⟩ := N5.ob
          refine ⟨_, rfl, a, dx, _, rfl, ha, nF_no (by decide +kernel) (by decide +kernel) (by decide +kernel), _, rfl, a, C, dx, _, _, rfl, ha, T.cl, T.nT, nF_torn, _, rfl, Dn, _, 0, _, rfl, rfl, SqL.of ((x4.trans x5) _ _ hDn), at0, t, d0, _, _, rfl, rfl, N5.ls, (x4.trans x5) _ _ hq0, ?_, fun p6 np6 => ?_⟩
          · rw [ints_len, ints_len]
            show _ ≤ 2 ^ 24
            omega
          rw [Ls_cat]
          have x6 := Ext.new (o := Ls (L ++ s0)) np6
          refine ⟨a, t, p6, n, L, L ++ s0, rfl, N5.ext x6, upd_same, f'.lt, by rw [List.length_append]; omega, fun H7 p7 hp7 h7 x7 => ?_⟩
          refine ⟨p7, L ++ s0, n, v, rfl, h7, o, f', hv', fun H8 p8 hp8 h8 x8 => ?_⟩
          refine ⟨p5, p8, _, _, rfl, rfl, ((x6.trans x7).trans x8) _ _ upd_same, h8, ?_, fun p9 np9 => ?_⟩
          · rw [List.length_append, ints_len, ints_len]
            show 2 + _ + _ ≤ 2 ^ 24
            omega
          have x28 := ((x25.trans x6).trans x7).trans x8
          refine D.ext N (x28.none np9) (x28.trans (Ext.new np9)) (by rw [hs]) ?_ upd_same
          rw [hs]
          show V.int (s0.length : Nat) :: V.int (((r.map Prod.snd).length + 1 : Nat) : Int) :: (Cal.nts (s0 ++ v)).map V.int = _
          rw [← cat_ints, slen, List.length_map, List.length_map, List.length_cons]
          rfl
    · rintro σ H1 ⟨xH, no, S, o2, o3, o4, hS, rfl⟩
      have hb : n.best = none := Bit.best_none.mpr fun k hk => no k (by omega)
      have hs : Uw24.step n .best = (n, Uw24.ok (-6)) := by
        simp only [Uw24.step]
        rw [hb]
      refine ⟨_, rfl, by show 1 ≤ sizeLine; decide, fun p np => ?_⟩
      exact D.ext N (xH.none np) (xH.trans (Ext.new np)) (by rw [hs]) (by rw [hs]; rfl) upd_same
end Nm

set_option Elab.async false
set_option maxRecDepth 100000
set_option maxHeartbeats 2000000
namespace Nm
open PySem PySem.Spec PyProof.Rows L2
open PySem.W (Codec)
open Eul (Ok Fine)
variable {P : Program} {w : World} {K : PySem.W.Frag} {mg : Str → Option Value} {base : Heap} {C : Addr}

/-! ### One call, as it is spelled -/
inductive Asks : Int → List Int → Uw24.Call → Prop where
  | begins (x y : Nat) : Asks 0 [(x : Int), (y : Int)] (.begins x y)
  | tear (b : Nat) : Asks 1 [(b : Int)] (.tear b)
  | mend (b : Nat) : Asks 2 [(b : Int)] (.mend b)
  | ends (b : Nat) : Asks 3 [(b : Int)] (.ends b)
  | odd : Asks 4 [] .odd
  | check (m : List Nat) : m.length ≤ 30 → Asks 5 ((m.length : Int) :: Cal.nts m) (.check m)
  | best : Asks 6 [] .best
theorem asks_of {p : Int} {r t : List Int} {x : Uw24.Call} (h : Cal.Shape p r x t) : ∃ f, r = f ++ t ∧ Asks p f x := by
  cases h with
  | begins x y _ _ => exact ⟨_, rfl, .begins x y⟩
  | tear b _ => exact ⟨_, rfl, .tear b⟩
  | mend b _ => exact ⟨_, rfl, .mend b⟩
  | ends b _ => exact ⟨_, rfl, .ends b⟩
  | odd => exact ⟨[], rfl, .odd⟩
  | check m _ h _ => exact ⟨_, rfl, .check m h⟩
  | best => exact ⟨[], rfl, .best⟩
theorem Done.mono {H H1 : Hp} {a t : Addr} {r : Uw24.Net × Uw24.Ans} {Q : VK} (D : Done C H a t r Q) (x : Ext H H1) : Done C H1 a t r Q :=
  fun H' p t' L' np hp N ht k => D H' p t' L' (x.none np) hp N (ht.imp id x.none) (fun b o e h1 h2 => k b o (x _ _ e) h1 h2)

/-! ### answer_of -/
def spAnsOf (C : Addr) : Sp := fun vs H Q _ => ∃ (a t d : Addr) (n : Uw24.Net) (L : List Nat) (p : Int) (f : List Int) (x : Uw24.Call), vs = [.ref a, .int p, .ref d] ∧ NetAt C H a t n L ∧ H d = some (.lst (f.map V.int)) ∧ Asks p f x ∧ Done C H a t (Uw24.step n x) Q
theorem scAnsOf : FnScope ["net", "call", "numbers"] ["net", "call", "numbers"] (defScope sAnsOf) := ⟨rfl, rfl, rfl, by decide +kernel, rfl, by decide +kernel, by decide +kernel⟩
theorem ok_ansOf {f f0 f1 f2 f3 f4 f5 f6 : Addr} {fd fd0 fd1 fd2 fd3 fd4 fd5 fd6 : FuncData} (F : Fun K "answer_of" "answer_of" sAnsOf f fd) (T : Txt K mg C)
    (G0 : FnOk P w K mg base CX0 3 f0 fd0 ["self", "wide", "high"] (spBeg C)) (m0 : Meth K C "begins" f0) (b0 : Binds K fd0 ["self", "wide", "high"] [])
    (G1 : FnOk P w K mg base CX0 4 f1 fd1 ["self", "bar"] (spTear C)) (m1 : Meth K C "tear" f1) (b1 : Binds K fd1 ["self", "bar"] [])
    (G2 : FnOk P w K mg base CX0 4 f2 fd2 ["self", "bar"] (spMend C)) (m2 : Meth K C "mend" f2) (b2 : Binds K fd2 ["self", "bar"] [])
    (G3 : FnOk P w K mg base CX0 4 f3 fd3 ["self", "bar"] (spEnds C)) (m3 : Meth K C "ends" f3) (b3 : Binds K fd3 ["self", "bar"] [])
    (G4 : FnOk P w K mg base CX0 4 f4 fd4 ["self"] (spOdd C)) (m4 : Meth K C "odd" f4) (b4 : Binds K fd4 ["self"] [])
    (G5 : FnOk P w K mg base CX0 4 f5 fd5 ["self", "knots"] (spCheck C)) (m5 : Meth K C "check" f5) (b5 : Binds K fd5 ["self", "knots"] [])
    (G6 : FnOk P w K mg base CX0 6 f6 fd6 ["self"] (spBest C)) (m6 : Meth K C "best" f6) (b6 : Binds K fd6 ["self"] []) :
    FnOk P w K mg base CX0 7 f fd ["net", "call", "numbers"] (spAnsOf C) := by
  obtain ⟨t0, g0⟩ := T.g0
  obtain ⟨t1, g1⟩ := T.g1
  obtain ⟨t2, g2⟩ := T.g2
  obtain ⟨t3, g3⟩ := T.g3
  obtain ⟨t4, g4⟩ := T.g4
  obtain ⟨t5, g5⟩ := T.g5
  refine F.ok scAnsOf (fun vs H Q E h => ?_) (fun cdv A outer s H vs Q E hr h => ⟨_,
    pss_cons (ps_if (pt_cmpR op_eq (pv 1) (pe_glob (v := .int 0) rfl g0 ⟨_, rfl⟩) (nomark _)) (pss_one (ps_ret (pe_meth (pv 0) T.cl m0 G0 (hr.mono (by decide)) b0 .nil pass0 (pa_cons (pe_ix ix_list (pv 2) pe_int (fun _ _ => rfl)) (pa_cons (pe_ix ix_list (pv 2) pe_int (fun _ _ => rfl)) pa_nil))))) pss_nil)
    (pss_cons (ps_if (pt_cmpR op_eq (pv 1) (pe_glob (v := .int 1) rfl g1 ⟨_, rfl⟩) (nomark _)) (pss_one (ps_ret (pe_meth (pv 0) T.cl m1 G1 (hr.mono (by decide)) b1 .nil pass0 (pa_cons (pe_ix ix_list (pv 2) pe_int (fun _ _ => rfl)) pa_nil)))) pss_nil)
    (pss_cons (ps_if (pt_cmpR op_eq (pv 1) (pe_glob (v := .int 2) rfl g2 ⟨_, rfl⟩) (nomark _)) (pss_one (ps_ret (pe_meth (pv 0) T.cl m2 G2 (hr.mono (by decide)) b2 .nil pass0 (pa_cons (pe_ix ix_list (pv 2) pe_int (fun _ _ => rfl)) pa_nil)))) pss_nil)
    (pss_cons (ps_if (pt_cmpR op_eq (pv 1) (pe_glob (v := .int 3) rfl g3 ⟨_, rfl⟩) (nomark _)) (pss_one (ps_ret (pe_meth (pv 0) T.cl m3 G3 (hr.mono (by decide)) b3 .nil pass0 (pa_cons (pe_ix ix_list (pv 2) pe_int (fun _ _ => rfl)) pa_nil)))) pss_nil)
    (pss_cons (ps_if (pt_cmpR op_eq (pv 1) (pe_glob (v := .int 4) rfl g4 ⟨_, rfl⟩) (nomark _)) (pss_one (ps_ret (pe_meth0 (pv 0) T.cl m4 G4 (hr.mono (by decide)) b4 .nil pass0))) pss_nil)
    (pss_cons (ps_if (pt_cmpR op_eq (pv 1) (pe_glob (v := .int 5) rfl g5 ⟨_, rfl⟩) (nomark _)) (pss_one (ps_ret (pe_meth (pv 0) T.cl m5 G5 (hr.mono (by decide)) b5 .nil pass0 (pa_cons (pe_slice sl_list (pv 2) (po_some pe_int) po_none) pa_nil)))) pss_nil)
    (pss_one (ps_ret (pe_meth0 (pv 0) T.cl m6 G6 hr b6 .nil pass0)))))))), ?_⟩)
  · obtain ⟨a, t, d, n, L, p, f, x, rfl, _⟩ := h
    rfl
  · obtain ⟨a, t, d, n, L, p, f, x, rfl, N, hd, hA, D⟩ := h
    obtain ⟨dx, ha⟩ := N.ob
    cases hA with
    | begins x y =>
      refine ⟨_, rfl, rfl, _, rfl, iteT ?_⟩
      refine ⟨_, rfl, a, dx, _, rfl, ha, nF_no (by decide +kernel) (by decide +kernel) (by decide +kernel), _, rfl, d, _, 0, _, rfl, rfl, SqL.of hd, at0, _, rfl, d, _, 1, _, rfl, rfl, SqL.of hd, atI_nat (j := 1) rfl, ?_⟩
      exact ⟨a, t, n, L, x, y, rfl, N, D⟩
    | tear b =>
      refine ⟨_, rfl, rfl, _, rfl, iteF ?_⟩
      refine ⟨_, rfl, rfl, _, rfl, iteT ?_⟩
      refine ⟨_, rfl, a, dx, _, rfl, ha, nF_no (by decide +kernel) (by decide +kernel) (by decide +kernel), _, rfl, d, _, 0, _, rfl, rfl, SqL.of hd, at0, ?_⟩
      exact ⟨a, t, n, L, b, rfl, N, D⟩
    | mend b =>
      refine ⟨_, rfl, rfl, _, rfl, iteF ?_⟩
      refine ⟨_, rfl, rfl, _, rfl, iteF ?_⟩
      refine ⟨_, rfl, rfl, _, rfl, iteT ?_⟩
      refine ⟨_, rfl, a, dx, _, rfl, ha, nF_no (by decide +kernel) (by decide +kernel) (by decide +kernel), _, rfl, d, _, 0, _, rfl, rfl, SqL.of hd, at0, ?_⟩
      exact ⟨a, t, n, L, b, rfl, N, D⟩
    | ends b =>
      refine ⟨_, rfl, rfl, _, rfl, iteF ?_⟩
      refine ⟨_, rfl, rfl, _, rfl, iteF ?_⟩
      refine ⟨_, rfl, rfl, _, rfl, iteF ?_⟩
      refine ⟨_, rfl, rfl, _, rfl, iteT ?_⟩
      refine ⟨_, rfl, a, dx, _, rfl, ha, nF_no (by decide +kernel) (by decide +kernel) (by decide +kernel), _, rfl, d, _, 0, _, rfl, rfl, SqL.of hd, at0, ?_⟩
      exact ⟨a, t, n, L, b, rfl, N, D⟩
    | odd =>
      refine ⟨_, rfl, rfl, _, rfl, iteF ?_⟩
      refine ⟨_, rfl, rfl, _, rfl, iteF ?_⟩
      refine ⟨_, rfl, rfl, _, rfl, iteF ?_⟩
      refine ⟨_, rfl, rfl, _, rfl, iteF ?_⟩
      refine ⟨_, rfl, rfl, _, rfl, iteT ?_⟩
      refine ⟨_, rfl, a, dx, _, rfl, ha, nF_no (by decide +kernel) (by decide +kernel) (by decide +kernel), ?_⟩
      exact ⟨a, t, n, L, rfl, N, D⟩
    | check m h30 =>
      refine ⟨_, rfl, rfl, _, rfl, iteF ?_⟩
      refine ⟨_, rfl, rfl, _, rfl, iteF ?_⟩
      refine ⟨_, rfl, rfl, _, rfl, iteF ?_⟩
      refine ⟨_, rfl, rfl, _, rfl, iteF ?_⟩
      refine ⟨_, rfl, rfl, _, rfl, iteF ?_⟩
      refine ⟨_, rfl, rfl, _, rfl, iteT ?_⟩
      have hd' : H d = some (Ls (m.length :: m)) := hd
      refine ⟨_, rfl, a, dx, _, rfl, ha, nF_no (by decide +kernel) (by decide +kernel) (by decide +kernel), _, rfl, 1, rfl, d, _, rfl, SqL.of hd', fun p1 np1 => ?_⟩
      rw [cut_tail]
      have x1 : Ext H (upd H p1 (Ls ((m.length :: m).drop 1))) := Ext.new np1
      exact ⟨a, t, p1, n, L, m, rfl, N.ext x1, upd_same, h30, D.mono x1⟩
    | best =>
      refine ⟨_, rfl, rfl, _, rfl, iteF ?_⟩
      refine ⟨_, rfl, rfl, _, rfl, iteF ?_⟩
      refine ⟨_, rfl, rfl, _, rfl, iteF ?_⟩
      refine ⟨_, rfl, rfl, _, rfl, iteF ?_⟩
      refine ⟨_, rfl, rfl, _, rfl, iteF ?_⟩
      refine ⟨_, rfl, rfl, _, rfl, iteF ?_⟩
      refine ⟨_, rfl, a, dx, _, rfl, ha, nF_no (by decide +kernel) (by decide +kernel) (by decide +kernel), ?_⟩
      exact ⟨a, t, n, L, rfl, N, D⟩

/-! ### behind_call -/
abbrev seven : List V := [.int 2, .int 1, .int 1, .int 1, .int 0, .int 1, .int 0]
theorem drop_get {ns r : List Int} {i : Nat} {p : Int} (h : ns.drop i = p :: r) : ns[i]? = some p ∧ ns.drop (i + 1) = r ∧ i < ns.length := by
  have h1 : (ns.drop i)[0]? = some p := by rw [h]; rfl
  rw [List.getElem?_drop, Nat.add_zero] at h1
  refine ⟨h1, ?_, ?_⟩
  · rw [← List.tail_drop, h]; rfl
  · exact (List.getElem?_eq_some_iff.mp h1).1
theorem map_at {ns : List Int} {i : Nat} {p : Int} (h : ns[i]? = some p) : atI (ns.map V.int) (i : Nat) = some (V.int p) := atI_nat (by rw [List.getElem?_map, h]; rfl)
def spBehind (K : PySem.W.Frag) : Sp := fun vs H Q _ => ∃ (d : Addr) (ns : List Int) (i : Nat) (p : Int) (f t : List Int) (x : Uw24.Call), vs = [.ref d, .int i] ∧ SqL K H d (ns.map V.int) ∧ ns.drop i = p :: (f ++ t) ∧ Asks p f x ∧ Q (.int ((i + 1 + f.length : Nat) : Int)) H
theorem scBehind : FnScope ["calls", "place", "call", "behind"] ["calls", "place"] (defScope sBehind) := ⟨rfl, rfl, rfl, by decide +kernel, rfl, by decide +kernel, by decide +kernel⟩
theorem ok_behind {f aN : Addr} {fd : FuncData} (F : Fun K "behind_call" "behind_call" sBehind f fd) (T : Txt K mg C) (gN : mg "NUMBERS_BEHIND" = some (.ref aN)) (tN : ∀ H, SqT K H aN seven) :
    FnOk P w K mg base CX0 1 f fd ["calls", "place"] (spBehind K) := by
  obtain ⟨t5, g5⟩ := T.g5
  refine F.ok scBehind (fun vs H Q E h => ?_) (fun cdv A outer s H vs Q E hr h => ⟨_,
    pss_cons (ps_set (i := 2) scBehind.nd rfl (Or.inl rfl) (pe_ix ix_list (pv 0) (pv 1) (fun _ _ => rfl)))
    (pss_cons (ps_set (i := 3) scBehind.nd rfl (Or.inl rfl) (pe_op op_add (pe_op op_add (pv 1) pe_int) (pe_ix ix_tup (pe_glob (v := .ref aN) rfl gN rfl) (pv 2) (fun _ _ => rfl))))
    (pss_cons (ps_if (pt_cmpR op_eq (pv 2) (pe_glob (v := .int 5) rfl g5 ⟨_, rfl⟩) (nomark _)) (pss_one (ps_ret (pe_op op_add (pv 3) (pe_ix ix_list (pv 0) (pe_op op_add (pv 1) pe_int) (fun _ _ => rfl))))) pss_nil)
    (pss_one (ps_ret (pv 3))))), ?_⟩)
  · obtain ⟨d, ns, i, p, f, t, x, rfl, _⟩ := h
    rfl
  · obtain ⟨d, ns, i, p, f, t, x, rfl, hd, hi, hA, q⟩ := h
    obtain ⟨hp, hr', _⟩ := drop_get hi
    refine ⟨_, rfl, _, rfl, d, _, _, _, rfl, rfl, hd, map_at hp, ?_⟩
    have at7 : ∀ (k : Nat) (j : Nat), p = (j : Nat) → (seven)[j]? = some (V.int (k : Int)) → atI seven p = some (V.int (k : Int)) := by
      intro k j e h
      rw [e]
      exact atI_nat h
    by_cases c : p = 5
    · subst c
      cases hA with
      | check m h30 =>
        refine ⟨_, rfl, _, _, rfl, rfl, _, rfl, aN, _, _, _, rfl, rfl, tN H, at7 1 5 rfl rfl, _, _, rfl, rfl, ?_⟩
        refine ⟨_, rfl, rfl, _, rfl, iteT ?_⟩
        have h1 : ns[i + 1]? = some (m.length : Int) := by
          rw [List.cons_append] at hr'
          exact (drop_get hr').1
        have e : V.int ((i : Int) + 1) = V.int ((i + 1 : Nat) : Int) := by rw [Int.natCast_add]; rfl
        refine ⟨_, rfl, _, rfl, _, rfl, _, _, rfl, rfl, d, _, ((i + 1 : Nat) : Int), _, rfl, e, hd, map_at h1, _, _, rfl, rfl, ?_⟩
        have e2 : ((i : Int) + 1 + 1 + (m.length : Int)) = ((i + 1 + ((m.length : Int) :: Cal.nts m).length : Nat) : Int) := by
          rw [List.length_cons, List.length_map]; omega
        rw [← e2] at q
        exact q
    · have key : ∃ k : Nat, f.length = k ∧ atI seven p = some (V.int (k : Int)) := by
        cases hA with
        | begins => exact ⟨2, rfl, at7 2 0 rfl rfl⟩
        | tear => exact ⟨1, rfl, at7 1 1 rfl rfl⟩
        | mend => exact ⟨1, rfl, at7 1 2 rfl rfl⟩
        | ends => exact ⟨1, rfl, at7 1 3 rfl rfl⟩
        | odd => exact ⟨0, rfl, at7 0 4 rfl rfl⟩
        | check => exact absurd rfl c
        | best => exact ⟨0, rfl, at7 0 6 rfl rfl⟩
      obtain ⟨k, e1, e2⟩ := key
      refine ⟨_, rfl, _, _, rfl, rfl, _, rfl, aN, _, _, _, rfl, rfl, tN H, e2, _, _, rfl, rfl, ?_⟩
      refine ⟨_, rfl, rfl, _, rfl, ?_⟩
      refine if_false_of (decide_eq_false (by intro e; injection e with e; exact c e)) ?_
      refine ⟨_, rfl, ?_⟩
      have e3 : ((i : Int) + 1 + (k : Int)) = ((i + 1 + f.length : Nat) : Int) := by rw [e1]; omega
      rw [← e3] at q
      exact q
end Nm

set_option Elab.async false
set_option maxRecDepth 100000
set_option maxHeartbeats 2000000
namespace Nm
open PySem PySem.Spec PyProof.Rows L2
open PySem.W (Codec)
open Eul (Ok Fine)
variable {P : Program} {w : World} {K : PySem.W.Frag} {mg : Str → Option Value} {base : Heap} {C : Addr}

/-! ### answers -/
theorem SqL.ext {H H1 : Hp} {a : Addr} {xs : List V} (h : SqL K H a xs) (x : Ext H H1) : SqL K H1 a xs := by
  rcases h with (h | ⟨o, h⟩) | h
  · exact .inl (.inl (x _ _ h))
  · exact .inl (.inr ⟨o, x _ _ h⟩)
  · exact .inr h
theorem asked_short {l : List Int} (h : PyUw24.answers_asked l = true) : (PyUw24.answers l).length ≤ 10000000 := by
  unfold PyUw24.answers_asked at h
  split at h
  · cases h
  · simp only [Bool.and_eq_true] at h
    exact of_decide_eq_true h.2
theorem cut_mid {ns : List Int} {i j : Nat} (h : i + 1 ≤ j) (hj : j ≤ ns.length) : cutV (ns.map V.int) (some ((i : Int) + 1)) (some (j : Int)) = ((ns.drop (i + 1)).take (j - (i + 1))).map V.int := by
  unfold cutV HT.sIx
  simp only
  rw [if_neg (by omega), if_neg (by omega), List.length_map]
  have e1 : ((j : Int)).toNat = j := by omega
  have e2 : ((i : Int) + 1).toNat = i + 1 := by omega
  rw [e1, e2, Nat.min_eq_left hj, Nat.min_eq_left (by omega), List.map_take, List.map_drop]
def spAns (K : PySem.W.Frag) : Sp := fun vs H Q _ => ∃ (a : Addr) (ns : List Int), vs = [.ref a] ∧ SqL K H a (ns.map V.int) ∧ ns.length ≤ 30000 ∧ PyUw24.answers_asked ns = true ∧
  ∀ H' p, H' p = some (.lst ((PyUw24.answers ns).map V.int)) → Q (.ref p) H'
abbrev nAns : List Str := ["calls", "net", "told", "place", "behind", "answer"]
theorem scAns : FnScope nAns ["calls"] (defScope sAns) := ⟨rfl, rfl, rfl, by decide +kernel, rfl, by decide +kernel, by decide +kernel⟩
/-- which place -/
def placeAt (k : Nat) (σ : L2.St) : Nat := match σ[k]? with
  | some (some (.int i)) => i.toNat
  | _ => 0
theorem ok_ans {f fI fA fB : Addr} {fd fdI fdA fdB : FuncData} (F : Fun K "answers" "answers" sAns f fd) (T : Txt K mg C)
    (MK : Mk K C fI) (gC : mg "Net" = some (.ref C)) (GI : FnOk P w K mg base CX0 1 fI fdI ["self"] (spInit C)) (bI : Binds K fdI ["self"] [])
    (GA : FnOk P w K mg base CX0 7 fA fdA ["net", "call", "numbers"] (spAnsOf C)) (gA : mg "answer_of" = some (.ref fA)) (kA : PySem.W.keepIn K (.ref fA) = true) (bA : Binds K fdA ["net", "call", "numbers"] [])
    (GB : FnOk P w K mg base CX0 1 fB fdB ["calls", "place"] (spBehind K)) (gB : mg "behind_call" = some (.ref fB)) (kB : PySem.W.keepIn K (.ref fB) = true) (bB : Binds K fdB ["calls", "place"] []) :
    FnOk P w K mg base CX0 8 f fd ["calls"] (spAns K) := by
  refine F.ok scAns (fun vs H Q E h => ?_) (fun cdv A outer s H vs Q E hr h => ⟨_,
    pss_cons (ps_set (i := 1) scAns.nd rfl (Or.inl rfl) (pe_make0 MK GI (hr.mono (by decide)) rfl gC bI .nil pass0))
    (pss_cons (ps_set (i := 2) scAns.nd rfl (Or.inl rfl) (pe_lst pa_nil))
    (pss_cons (ps_set (i := 3) scAns.nd rfl (Or.inl rfl) pe_int)
    (pss_cons (ps_while PassesOwn.never (pt_cmpR op_lt (pv 3) (pe_callB call_len_seq (by rfl) T.len PySem.boot_len (pa_cons (pv 0) pa_nil)) (nomark _))
      (pss_cons (ps_set (i := 4) scAns.nd rfl (Or.inl rfl) (pe_call GB (hr.mono (by decide)) rfl gB kB bB .nil pass0 (pa_cons (pv 0) (pa_cons (pv 3) pa_nil))))
      (pss_cons (ps_set (i := 5) scAns.nd rfl (Or.inl rfl) (pe_call GA hr rfl gA kA bA .nil pass0 (pa_cons (pv 1) (pa_cons (pe_ix ix_list (pv 0) (pv 3) (fun _ _ => rfl)) (pa_cons (pe_slice sl_list (pv 0) (po_some (pe_op op_add (pv 3) pe_int)) (po_some (pv 4))) pa_nil)))))
      (pss_cons (ps_expr (pe_bm PySem.F.plainAttrs_list PySem.F.slot_list_append PySem.F.type_list_append mt_append (pv 2) (pa_cons (pe_callB call_len_seq (by rfl) T.len PySem.boot_len (pa_cons (pv 5) pa_nil)) pa_nil)))
      (pss_cons (ps_expr (pe_bm PySem.F.plainAttrs_list PySem.F.slot_list_extend PySem.F.type_list_extend mt_extend (pv 2) (pa_cons (pv 5) pa_nil)))
      (pss_one (ps_set (i := 3) scAns.nd rfl (Or.inl rfl) (pv 4))))))))
    (pss_one (ps_ret (pv 2)))))), ?_⟩)
  · obtain ⟨a, ns, rfl, _⟩ := h
    rfl
  · obtain ⟨d, ns, rfl, hd, h30, hask, q⟩ := h
    have short := asked_short hask
    intro a dx na ndx nex
    have hx0 : Ext H (upd (upd H dx (.own a)) a (.ins C dx [])) := (Ext.new ndx).upd na
    refine ⟨a, dx, rfl, upd_same, fun H1 t nt N keep => ⟨rfl, ?_⟩⟩
    have nt' : H t = none := hx0.none nt
    have x1 : Ext H H1 := fun b o e => keep b o (hx0 _ _ e) (ne_new e na)
    refine ⟨by show 0 ≤ sizeLine; decide, fun D nD => ?_⟩
    have nD' : H D = none := x1.none nD
    have x2 : Ext H1 (upd H1 D (.lst [])) := Ext.new nD
    obtain ⟨dx1, ha1⟩ := N.ob
    simp only [gName, tSeq]
    refine while_by (fun σ H2 => Ext H H2 ∧ ∃ (i : Nat) (t' : Addr) (n : Uw24.Net) (L : List Nat) (told : List Int) (o4 o5 : Option V), σ = [some (.ref d), some (.ref a), some (.ref D), some (.int (i : Int)), o4, o5] ∧
      NetAt C H2 a t' n L ∧ H2 D = some (.lst (told.map V.int)) ∧ H t' = none ∧ a ≠ D ∧ t' ≠ D ∧ i ≤ ns.length ∧ Cal.Good (ns.drop i) ∧ told ++ Cal.due n (ns.drop i) = PyUw24.answers ns) (fun σ _ => ns.length - placeAt 3 σ) ?_ ?_ ?_
    · refine ⟨x1.trans x2, 0, t, Uw24.init, [], [], _, _, rfl, N.ext x2, upd_same, nt', ne_new ha1 nD, ne_new N.ls nD, Nat.zero_le _, Cal.asked_good hask, ?_⟩
      rw [List.nil_append, List.drop_zero]
      exact (Cal.answers_due ns).symm
    · rintro σ H2 ⟨xH, i, t', n, L, told, o4, o5, rfl, N2, hD2, nt2, aD, tD, hi, good, hdue⟩
      refine ⟨_, rfl, _, rfl, d, _, rfl, .inl (SqL.ext hd xH), _, _, rfl, rfl, _, rfl, ?_⟩
      rw [List.length_map]
      by_cases c : i < ns.length
      · refine if_true_of (decide_eq_true (by omega)) ?_
        cases hdr : ns.drop i with
        | nil =>
          have := congrArg List.length hdr
          rw [List.length_drop, List.length_nil] at this
          omega
        | cons p r =>
          rw [hdr] at good hdue
          obtain ⟨x, tl, shp, good', hnext⟩ := Cal.next good
          obtain ⟨f, rfl, hA⟩ := asks_of shp
          obtain ⟨hp, hr', _⟩ := drop_get hdr
          have hlen : i + 1 + f.length ≤ ns.length := by
            have := congrArg List.length hr'
            rw [List.length_drop, List.length_append] at this
            omega
          have htl : ns.drop (i + 1 + f.length) = tl := by
            rw [← List.drop_drop, hr', List.drop_left]
          rw [hnext n] at hdue
          have tlen : told.length + (Cal.tell (Uw24.step n x).2).length ≤ 10000000 := by
            have := congrArg List.length hdue
            rw [List.length_append, List.length_append] at this
            omega
          refine ⟨_, rfl, _, rfl, d, ns, i, p, f, tl, x, rfl, SqL.ext hd xH, hdr, hA, ?_⟩
          refine ⟨_, rfl, _, rfl, _, rfl, d, _, _, _, rfl, rfl, SqL.ext hd xH, map_at hp, _, rfl, _, rfl, _, _, rfl, rfl, _, rfl, _, rfl, _, rfl, d, _, rfl, SqL.ext hd xH, fun p3 np3 => ?_⟩
          have ecut : cutV (ns.map V.int) (some ((i : Int) + 1)) (some ((i + 1 + f.length : Nat) : Int)) = f.map V.int := by
            rw [cut_mid (by omega) hlen, hr', show i + 1 + f.length - (i + 1) = f.length by omega, List.take_left]
          rw [ecut]
          have x3 : Ext H2 (upd H2 p3 (.lst (f.map V.int))) := Ext.new np3
          have N3 := N2.ext x3
          refine ⟨a, t', p3, n, L, p, f, x, rfl, N3, upd_same, hA, fun H4 p4 t4 L4 np4 hp4 N4 ht4 keep4 => ?_⟩
          have nt4 : H t4 = none := by
            rcases ht4 with e | e
            · rw [e]; exact nt2
            · exact (xH.trans x3).none e
          have x4 : Ext H H4 := fun b o e => keep4 b o ((xH.trans x3) _ _ e) (ne_new e na) (ne_new e nt2)
          have hD4 : H4 D = some (.lst (told.map V.int)) := keep4 D _ (x3 _ _ hD2) aD.symm tD.symm
          have p4D : p4 ≠ D := by intro e; rw [e, x3 _ _ hD2] at np4; cases np4
          have t4D : t4 ≠ D := by
            rcases ht4 with e | e
            · rw [e]; exact tD
            · intro z; rw [z, x3 _ _ hD2] at e; cases e
          have tl1 : (Cal.tell (Uw24.step n x).2).length = (Uw24Neutral.out (Uw24.step n x).2).length + 1 := by
            unfold Cal.tell; rw [List.length_cons]
          refine ⟨_, rfl, .inl ⟨rfl, _, SqL.of hD4⟩, _, rfl, p4, _, rfl, .inl (SqL.of hp4), D, _, _, rfl, rfl, hD4, ?_, ?_⟩
          · rw [List.length_map]
            show _ < 2 ^ 24
            omega
          · rw [List.length_map]
            have hp5 : upd H4 D (.lst (told.map V.int ++ [V.int (((Uw24Neutral.out (Uw24.step n x).2).length : Nat) : Int)])) p4 = some (.lst ((Uw24Neutral.out (Uw24.step n x).2).map V.int)) := by
              rw [upd_ne p4D]; exact hp4
            refine ⟨_, rfl, .inl ⟨rfl, _, SqL.of upd_same⟩, _, rfl, D, p4, _, _, rfl, rfl, upd_same, hp5, ?_, ?_⟩
            · rw [List.length_append, List.length_map, List.length_map, List.length_singleton]
              show _ ≤ 2 ^ 24
              omega
            · obtain ⟨dx4, ha4⟩ := N4.ob
              refine ⟨_, rfl, ⟨(x4.upd nD').upd nD', i + 1 + f.length, t4, (Uw24.step n x).1, L4, told ++ Cal.tell (Uw24.step n x).2, _, _, rfl, ⟨⟨dx4, ?_⟩, ?_, N4.pm, N4.inv⟩, ?_, nt4, aD, t4D, hlen, ?_, ?_⟩, ?_⟩
              · rw [upd_ne aD, upd_ne aD]; exact ha4
              · rw [upd_ne t4D, upd_ne t4D]; exact N4.ls
              · rw [upd_same, List.map_append]
                unfold Cal.tell
                rw [List.map_cons, List.append_assoc]
                rfl
              · rw [htl]; exact good'
              · rw [htl, List.append_assoc]; exact hdue
              · show ns.length - ((i + 1 + f.length : Nat) : Int).toNat < ns.length - ((i : Nat) : Int).toNat
                omega
      · refine if_false_of (decide_eq_false (by omega)) ?_
        have e0 : ns.drop i = [] := List.drop_eq_nil_of_le (by omega)
        rw [e0, Cal.due_nil, List.append_nil] at hdue
        subst hdue
        exact ⟨_, rfl, q H2 D hD2⟩
    · exact fun σ H Q Q' h ⟨v, e, v2, e2, p, ys, e3, e4, i, j, e5, e6, k, e7, z⟩ => ⟨v, e, v2, e2, p, ys, e3, e4, i, j, e5, e6, k, e7, h _ _ z⟩
end Nm

set_option Elab.async false
set_option maxRecDepth 100000
set_option maxHeartbeats 2000000
namespace Nm
open PySem PySem.Spec PyProof.Rows L2
open PySem.W (Codec)
theorem all_mk {P : Program} {w : World} {K : PySem.W.Frag} {h : Heap} {mg : Str → Option Value} {fa C aN f1 f2 f3 f4 f5 f6 f7 f8 f9 f10 f11 f12 f13 f14 f15 f16 f17 f18 f19 f20 f21 f22 f23 f24 f25 f26 f27 f28 f29 f30 : Addr} (X : K.In h) (G : h.Ns mainGlobals mg) (hfa : mg "answers" = some (.ref fa))
    {dN od1 od2 od3 od4 od5 od6 od7 od8 od9 od10 od11 od12 od13 od14 od15 od16 od17 od18 od19 od20 od21 od22 od23 od24 od25 od26 od27 od28 od29 od30 an1 an2 an3 an4 an5 an6 an7 an8 an9 an10 an11 an12 an13 an14 an15 an16 an17 an18 an19 an20 an21 an22 an23 an24 an25 an26 an27 an28 an29 an30 : Option Addr} {slN sl1 sl2 sl3 sl4 sl5 sl6 sl7 sl8 sl9 sl10 sl11 sl12 sl13 sl14 sl15 sl16 sl17 sl18 sl19 sl20 sl21 sl22 sl23 sl24 sl25 sl26 sl27 sl28 sl29 sl30 : Array (Option Value)} {oc1 oc2 oc3 oc4 oc5 oc6 oc7 oc8 oc9 oc10 oc11 oc12 oc13 oc14 oc15 oc16 oc17 oc18 oc19 oc20 oc21 oc22 oc23 oc24 oc25 oc26 oc27 oc28 oc29 oc30 kV1 kV2 kV3 kV4 kV5 kV6 kV7 kV8 kV9 kV10 kV11 kV12 kV13 kV14 kV15 kV16 kV17 kV18 kV19 kV20 kV21 kV22 kV23 kV24 kV25 kV26 kV27 kV28 kV29 kV30 dc1 dc2 dc3 dc4 dc5 dc6 dc7 dc8 dc9 dc10 dc11 dc12 dc13 dc14 dc15 dc16 dc17 dc18 dc19 dc20 dc21 dc22 dc23 dc24 dc25 dc26 dc27 dc28 dc29 dc30 pm1 pm2 pm3 pm4 pm5 pm6 pm7 pm8 pm9 pm10 pm11 pm12 pm13 pm14 pm15 pm16 pm17 pm18 pm19 pm20 pm21 pm22 pm23 pm24 pm25 pm26 pm27 pm28 pm29 pm30 cd1 cd2 cd3 cd4 cd5 cd6 cd7 cd8 cd9 cd10 cd11 cd12 cd13 cd14 cd15 cd16 cd17 cd18 cd19 cd20 cd21 cd22 cd23 cd24 cd25 cd26 cd27 cd28 cd29 cd30 ct1 ct2 ct3 ct4 ct5 ct6 ct7 ct8 ct9 ct10 ct11 ct12 ct13 ct14 ct15 ct16 ct17 ct18 ct19 ct20 ct21 ct22 ct23 ct24 ct25 ct26 ct27 ct28 ct29 ct30 : Value} {tgL tgM tgT tgK tgC tgO tyy0 tyy1 tyy2 tyy3 tyy4 tyy5 u0 u1 u2 u3 u4 u5 u6 : Tok} {qN : Nat}
    (aC : PySem.W.nsIn K mainGlobals "Net" = some (some (.ref C)))
    (a1 : PySem.W.nsIn K mainGlobals "is_side" = some (some (.ref f1)))
    (l1 : K.lookup f1 = some ⟨oc1, od1, .func (PySem.W.fnOf "is_side" "is_side" (defArgs sSide) (defBody sSide) (defScope sSide) .none kV1 dc1 pm1 an1 cd1 ct1), sl1⟩)
    (c1 : PySem.W.codeIn K cd1 "is_side" = true)
    (k1 : PySem.W.keepIn K (.ref f1) = true)
    (a2 : PySem.W.nsIn K mainGlobals "bit_of" = some (some (.ref f2)))
    (l2 : K.lookup f2 = some ⟨oc2, od2, .func (PySem.W.fnOf "bit_of" "bit_of" (defArgs sBit) (defBody sBit) (defScope sBit) .none kV2 dc2 pm2 an2 cd2 ct2), sl2⟩)
    (c2 : PySem.W.codeIn K cd2 "bit_of" = true)
    (k2 : PySem.W.keepIn K (.ref f2) = true)
    (a3 : PySem.W.nsIn K mainGlobals "pair_of" = some (some (.ref f3)))
    (l3 : K.lookup f3 = some ⟨oc3, od3, .func (PySem.W.fnOf "pair_of" "pair_of" (defArgs sPair) (defBody sPair) (defScope sPair) .none kV3 dc3 pm3 an3 cd3 ct3), sl3⟩)
    (c3 : PySem.W.codeIn K cd3 "pair_of" = true)
    (k3 : PySem.W.keepIn K (.ref f3) = true)
    (a4 : PySem.W.nsIn K mainGlobals "knots_in" = some (some (.ref f4)))
    (l4 : K.lookup f4 = some ⟨oc4, od4, .func (PySem.W.fnOf "knots_in" "knots_in" (defArgs sKin) (defBody sKin) (defScope sKin) .none kV4 dc4 pm4 an4 cd4 ct4), sl4⟩)
    (c4 : PySem.W.codeIn K cd4 "knots_in" = true)
    (k4 : PySem.W.keepIn K (.ref f4) = true)
    (a5 : PySem.W.nsIn K mainGlobals "odd_knots" = some (some (.ref f5)))
    (l5 : K.lookup f5 = some ⟨oc5, od5, .func (PySem.W.fnOf "odd_knots" "odd_knots" (defArgs sOddk) (defBody sOddk) (defScope sOddk) .none kV5 dc5 pm5 an5 cd5 ct5), sl5⟩)
    (c5 : PySem.W.codeIn K cd5 "odd_knots" = true)
    (k5 : PySem.W.keepIn K (.ref f5) = true)
    (a6 : PySem.W.nsIn K mainGlobals "all_reached" = some (some (.ref f6)))
    (l6 : K.lookup f6 = some ⟨oc6, od6, .func (PySem.W.fnOf "all_reached" "all_reached" (defArgs sReach) (defBody sReach) (defScope sReach) .none kV6 dc6 pm6 an6 cd6 ct6), sl6⟩)
    (c6 : PySem.W.codeIn K cd6 "all_reached" = true)
    (k6 : PySem.W.keepIn K (.ref f6) = true)
    (a7 : PySem.W.nsIn K mainGlobals "has_way" = some (some (.ref f7)))
    (l7 : K.lookup f7 = some ⟨oc7, od7, .func (PySem.W.fnOf "has_way" "has_way" (defArgs sWay) (defBody sWay) (defScope sWay) .none kV7 dc7 pm7 an7 cd7 ct7), sl7⟩)
    (c7 : PySem.W.codeIn K cd7 "has_way" = true)
    (k7 : PySem.W.keepIn K (.ref f7) = true)
    (a8 : PySem.W.nsIn K mainGlobals "first_knot" = some (some (.ref f8)))
    (l8 : K.lookup f8 = some ⟨oc8, od8, .func (PySem.W.fnOf "first_knot" "first_knot" (defArgs sFirst) (defBody sFirst) (defScope sFirst) .none kV8 dc8 pm8 an8 cd8 ct8), sl8⟩)
    (c8 : PySem.W.codeIn K cd8 "first_knot" = true)
    (k8 : PySem.W.keepIn K (.ref f8) = true)
    (a9 : PySem.W.nsIn K mainGlobals "without" = some (some (.ref f9)))
    (l9 : K.lookup f9 = some ⟨oc9, od9, .func (PySem.W.fnOf "without" "without" (defArgs sWo) (defBody sWo) (defScope sWo) .none kV9 dc9 pm9 an9 cd9 ct9), sl9⟩)
    (c9 : PySem.W.codeIn K cd9 "without" = true)
    (k9 : PySem.W.keepIn K (.ref f9) = true)
    (a10 : PySem.W.nsIn K mainGlobals "can_go" = some (some (.ref f10)))
    (l10 : K.lookup f10 = some ⟨oc10, od10, .func (PySem.W.fnOf "can_go" "can_go" (defArgs sCan) (defBody sCan) (defScope sCan) .none kV10 dc10 pm10 an10 cd10 ct10), sl10⟩)
    (c10 : PySem.W.codeIn K cd10 "can_go" = true)
    (k10 : PySem.W.keepIn K (.ref f10) = true)
    (a11 : PySem.W.nsIn K mainGlobals "earliest_way" = some (some (.ref f11)))
    (l11 : K.lookup f11 = some ⟨oc11, od11, .func (PySem.W.fnOf "earliest_way" "earliest_way" (defArgs sEarly) (defBody sEarly) (defScope sEarly) .none kV11 dc11 pm11 an11 cd11 ct11), sl11⟩)
    (c11 : PySem.W.codeIn K cd11 "earliest_way" = true)
    (k11 : PySem.W.keepIn K (.ref f11) = true)
    (a12 : PySem.W.findIn K (.ref C) "__init__" = some (some (.ref f12)))
    (i12 : PySem.W.isFn K (.ref f12) = true)
    (l12 : K.lookup f12 = some ⟨oc12, od12, .func (PySem.W.fnOf "__init__" "Net.__init__" (defArgs sInit) (defBody sInit) (defScope sInit) .none kV12 dc12 pm12 an12 cd12 ct12), sl12⟩)
    (c12 : PySem.W.codeIn K cd12 "Net.__init__" = true)
    (k12 : PySem.W.keepIn K (.ref f12) = true)
    (a13 : PySem.W.findIn K (.ref C) "row_bars" = some (some (.ref f13)))
    (i13 : PySem.W.isFn K (.ref f13) = true)
    (l13 : K.lookup f13 = some ⟨oc13, od13, .func (PySem.W.fnOf "row_bars" "Net.row_bars" (defArgs sRow) (defBody sRow) (defScope sRow) .none kV13 dc13 pm13 an13 cd13 ct13), sl13⟩)
    (c13 : PySem.W.codeIn K cd13 "Net.row_bars" = true)
    (k13 : PySem.W.keepIn K (.ref f13) = true)
    (a14 : PySem.W.findIn K (.ref C) "all_bars" = some (some (.ref f14)))
    (i14 : PySem.W.isFn K (.ref f14) = true)
    (l14 : K.lookup f14 = some ⟨oc14, od14, .func (PySem.W.fnOf "all_bars" "Net.all_bars" (defArgs sAll) (defBody sAll) (defScope sAll) .none kV14 dc14 pm14 an14 cd14 ct14), sl14⟩)
    (c14 : PySem.W.codeIn K cd14 "Net.all_bars" = true)
    (k14 : PySem.W.keepIn K (.ref f14) = true)
    (a15 : PySem.W.findIn K (.ref C) "has_bar" = some (some (.ref f15)))
    (i15 : PySem.W.isFn K (.ref f15) = true)
    (l15 : K.lookup f15 = some ⟨oc15, od15, .func (PySem.W.fnOf "has_bar" "Net.has_bar" (defArgs sHas) (defBody sHas) (defScope sHas) .none kV15 dc15 pm15 an15 cd15 ct15), sl15⟩)
    (c15 : PySem.W.codeIn K cd15 "Net.has_bar" = true)
    (k15 : PySem.W.keepIn K (.ref f15) = true)
    (a16 : PySem.W.findIn K (.ref C) "has_knot" = some (some (.ref f16)))
    (i16 : PySem.W.isFn K (.ref f16) = true)
    (l16 : K.lookup f16 = some ⟨oc16, od16, .func (PySem.W.fnOf "has_knot" "Net.has_knot" (defArgs sHasK) (defBody sHasK) (defScope sHasK) .none kV16 dc16 pm16 an16 cd16 ct16), sl16⟩)
    (c16 : PySem.W.codeIn K cd16 "Net.has_knot" = true)
    (k16 : PySem.W.keepIn K (.ref f16) = true)
    (a17 : PySem.W.findIn K (.ref C) "knots_of" = some (some (.ref f17)))
    (i17 : PySem.W.isFn K (.ref f17) = true)
    (l17 : K.lookup f17 = some ⟨oc17, od17, .func (PySem.W.fnOf "knots_of" "Net.knots_of" (defArgs sKnots) (defBody sKnots) (defScope sKnots) .none kV17 dc17 pm17 an17 cd17 ct17), sl17⟩)
    (c17 : PySem.W.codeIn K cd17 "Net.knots_of" = true)
    (k17 : PySem.W.keepIn K (.ref f17) = true)
    (a18 : PySem.W.findIn K (.ref C) "pairs_of" = some (some (.ref f18)))
    (i18 : PySem.W.isFn K (.ref f18) = true)
    (l18 : K.lookup f18 = some ⟨oc18, od18, .func (PySem.W.fnOf "pairs_of" "Net.pairs_of" (defArgs sPairs) (defBody sPairs) (defScope sPairs) .none kV18 dc18 pm18 an18 cd18 ct18), sl18⟩)
    (c18 : PySem.W.codeIn K cd18 "Net.pairs_of" = true)
    (k18 : PySem.W.keepIn K (.ref f18) = true)
    (a19 : PySem.W.findIn K (.ref C) "begins" = some (some (.ref f19)))
    (i19 : PySem.W.isFn K (.ref f19) = true)
    (l19 : K.lookup f19 = some ⟨oc19, od19, .func (PySem.W.fnOf "begins" "Net.begins" (defArgs sBeg) (defBody sBeg) (defScope sBeg) .none kV19 dc19 pm19 an19 cd19 ct19), sl19⟩)
    (c19 : PySem.W.codeIn K cd19 "Net.begins" = true)
    (k19 : PySem.W.keepIn K (.ref f19) = true)
    (a20 : PySem.W.findIn K (.ref C) "tear" = some (some (.ref f20)))
    (i20 : PySem.W.isFn K (.ref f20) = true)
    (l20 : K.lookup f20 = some ⟨oc20, od20, .func (PySem.W.fnOf "tear" "Net.tear" (defArgs sTear) (defBody sTear) (defScope sTear) .none kV20 dc20 pm20 an20 cd20 ct20), sl20⟩)
    (c20 : PySem.W.codeIn K cd20 "Net.tear" = true)
    (k20 : PySem.W.keepIn K (.ref f20) = true)
    (a21 : PySem.W.findIn K (.ref C) "mend" = some (some (.ref f21)))
    (i21 : PySem.W.isFn K (.ref f21) = true)
    (l21 : K.lookup f21 = some ⟨oc21, od21, .func (PySem.W.fnOf "mend" "Net.mend" (defArgs sMend) (defBody sMend) (defScope sMend) .none kV21 dc21 pm21 an21 cd21 ct21), sl21⟩)
    (c21 : PySem.W.codeIn K cd21 "Net.mend" = true)
    (k21 : PySem.W.keepIn K (.ref f21) = true)
    (a22 : PySem.W.findIn K (.ref C) "ends" = some (some (.ref f22)))
    (i22 : PySem.W.isFn K (.ref f22) = true)
    (l22 : K.lookup f22 = some ⟨oc22, od22, .func (PySem.W.fnOf "ends" "Net.ends" (defArgs sEnds) (defBody sEnds) (defScope sEnds) .none kV22 dc22 pm22 an22 cd22 ct22), sl22⟩)
    (c22 : PySem.W.codeIn K cd22 "Net.ends" = true)
    (k22 : PySem.W.keepIn K (.ref f22) = true)
    (a23 : PySem.W.findIn K (.ref C) "odd" = some (some (.ref f23)))
    (i23 : PySem.W.isFn K (.ref f23) = true)
    (l23 : K.lookup f23 = some ⟨oc23, od23, .func (PySem.W.fnOf "odd" "Net.odd" (defArgs sOdd) (defBody sOdd) (defScope sOdd) .none kV23 dc23 pm23 an23 cd23 ct23), sl23⟩)
    (c23 : PySem.W.codeIn K cd23 "Net.odd" = true)
    (k23 : PySem.W.keepIn K (.ref f23) = true)
    (a24 : PySem.W.findIn K (.ref C) "check" = some (some (.ref f24)))
    (i24 : PySem.W.isFn K (.ref f24) = true)
    (l24 : K.lookup f24 = some ⟨oc24, od24, .func (PySem.W.fnOf "check" "Net.check" (defArgs sCheck) (defBody sCheck) (defScope sCheck) .none kV24 dc24 pm24 an24 cd24 ct24), sl24⟩)
    (c24 : PySem.W.codeIn K cd24 "Net.check" = true)
    (k24 : PySem.W.keepIn K (.ref f24) = true)
    (a25 : PySem.W.findIn K (.ref C) "larger_sets" = some (some (.ref f25)))
    (i25 : PySem.W.isFn K (.ref f25) = true)
    (l25 : K.lookup f25 = some ⟨oc25, od25, .func (PySem.W.fnOf "larger_sets" "Net.larger_sets" (defArgs sLarger) (defBody sLarger) (defScope sLarger) .none kV25 dc25 pm25 an25 cd25 ct25), sl25⟩)
    (c25 : PySem.W.codeIn K cd25 "Net.larger_sets" = true)
    (k25 : PySem.W.keepIn K (.ref f25) = true)
    (a26 : PySem.W.findIn K (.ref C) "may_come_to_do" = some (some (.ref f26)))
    (i26 : PySem.W.isFn K (.ref f26) = true)
    (l26 : K.lookup f26 = some ⟨oc26, od26, .func (PySem.W.fnOf "may_come_to_do" "Net.may_come_to_do" (defArgs sMay) (defBody sMay) (defScope sMay) .none kV26 dc26 pm26 an26 cd26 ct26), sl26⟩)
    (c26 : PySem.W.codeIn K cd26 "Net.may_come_to_do" = true)
    (k26 : PySem.W.keepIn K (.ref f26) = true)
    (a27 : PySem.W.findIn K (.ref C) "best" = some (some (.ref f27)))
    (i27 : PySem.W.isFn K (.ref f27) = true)
    (l27 : K.lookup f27 = some ⟨oc27, od27, .func (PySem.W.fnOf "best" "Net.best" (defArgs sBest) (defBody sBest) (defScope sBest) .none kV27 dc27 pm27 an27 cd27 ct27), sl27⟩)
    (c27 : PySem.W.codeIn K cd27 "Net.best" = true)
    (k27 : PySem.W.keepIn K (.ref f27) = true)
    (a28 : PySem.W.nsIn K mainGlobals "answer_of" = some (some (.ref f28)))
    (l28 : K.lookup f28 = some ⟨oc28, od28, .func (PySem.W.fnOf "answer_of" "answer_of" (defArgs sAnsOf) (defBody sAnsOf) (defScope sAnsOf) .none kV28 dc28 pm28 an28 cd28 ct28), sl28⟩)
    (c28 : PySem.W.codeIn K cd28 "answer_of" = true)
    (k28 : PySem.W.keepIn K (.ref f28) = true)
    (a29 : PySem.W.nsIn K mainGlobals "behind_call" = some (some (.ref f29)))
    (l29 : K.lookup f29 = some ⟨oc29, od29, .func (PySem.W.fnOf "behind_call" "behind_call" (defArgs sBehind) (defBody sBehind) (defScope sBehind) .none kV29 dc29 pm29 an29 cd29 ct29), sl29⟩)
    (c29 : PySem.W.codeIn K cd29 "behind_call" = true)
    (k29 : PySem.W.keepIn K (.ref f29) = true)
    (a30 : PySem.W.nsIn K mainGlobals "answers" = some (some (.ref f30)))
    (l30 : K.lookup f30 = some ⟨oc30, od30, .func (PySem.W.fnOf "answers" "answers" (defArgs sAns) (defBody sAns) (defScope sAns) .none kV30 dc30 pm30 an30 cd30 ct30), sl30⟩)
    (c30 : PySem.W.codeIn K cd30 "answers" = true)
    (k30 : PySem.W.keepIn K (.ref f30) = true)
    (pg : PySem.W.plainGet K C Str.empty = true)
    (hd : PySem.W.hasDictIn K C = true)
    (po : PySem.W.plainOver K C = true)
    (sa : PySem.W.findIn K (.ref C) "__setattr__" = some (some (.builtin "object.__setattr__")))
    (mk : PySem.W.makesIn K C = true)
    (kc : PySem.W.keepIn K (.ref C) = true)
    (nW : PySem.W.findIn K (.ref C) "wide" = some none)
    (nH : PySem.W.findIn K (.ref C) "high" = some none)
    (nT : PySem.W.findIn K (.ref C) "torn" = some none)
    (gL : PySem.W.nsIn K mainGlobals "LEAST_SIDE" = some (some (.int 2 tgL)))
    (gM : PySem.W.nsIn K mainGlobals "MOST_SIDE" = some (some (.int 4 tgM)))
    (gT : PySem.W.nsIn K mainGlobals "MOST_TORN" = some (some (.int 8 tgT)))
    (gK : PySem.W.nsIn K mainGlobals "MOST_KNOTS" = some (some (.int 16 tgK)))
    (gC : PySem.W.nsIn K mainGlobals "MOST_CUT" = some (some (.int 4 tgC)))
    (gO : PySem.W.nsIn K mainGlobals "MOST_ODD" = some (some (.int 2 tgO)))
    (yy0 : PySem.W.nsIn K mainGlobals "BEGINS" = some (some (.int 0 tyy0)))
    (yy1 : PySem.W.nsIn K mainGlobals "TEAR" = some (some (.int 1 tyy1)))
    (yy2 : PySem.W.nsIn K mainGlobals "MEND" = some (some (.int 2 tyy2)))
    (yy3 : PySem.W.nsIn K mainGlobals "ENDS" = some (some (.int 3 tyy3)))
    (yy4 : PySem.W.nsIn K mainGlobals "ODD" = some (some (.int 4 tyy4)))
    (yy5 : PySem.W.nsIn K mainGlobals "CHECK" = some (some (.int 5 tyy5)))
    (z_len : PySem.W.nsIn K mainGlobals "len" = some none)
    (z_range : PySem.W.nsIn K mainGlobals "range" = some none)
    (z_min : PySem.W.nsIn K mainGlobals "min" = some none)
    (z_all : PySem.W.nsIn K mainGlobals "all" = some none)
    (z_sorted : PySem.W.nsIn K mainGlobals "sorted" = some none)
    (z_zip : PySem.W.nsIn K mainGlobals "zip" = some none)
    (gN : PySem.W.nsIn K mainGlobals "NUMBERS_BEHIND" = some (some (.ref aN)))
    (lN : K.lookup aN = some ⟨.type "tuple", dN, .seq #[.int 2 u0, .int 1 u1, .int 1 u2, .int 1 u3, .int 0 u4, .int 1 u5, .int 0 u6] qN, slN⟩) :
    ∃ fd : FuncData, (∀ (s : Shared) (us : List Value), us.length = (["calls"] : List Str).length → BindsTo s fd ⟨us, []⟩ ((["calls"] : List Str).zip us)) ∧ ∀ base : Heap, K.In base → base.Ns mainGlobals mg → FnOk P w K mg base CX0 8 fa fd ["calls"] (spAns K) := by
  have e := hfa.symm.trans (PySem.W.mg_of X G a30)
  cases e
  have T : Txt K mg C := ⟨⟨pg, hd, po, sa⟩, nW, nH, nT, ⟨_, PySem.W.mg_of X G gL⟩, ⟨_, PySem.W.mg_of X G gM⟩, ⟨_, PySem.W.mg_of X G gT⟩, ⟨_, PySem.W.mg_of X G gK⟩, ⟨_, PySem.W.mg_of X G gC⟩, ⟨_, PySem.W.mg_of X G gO⟩, ⟨_, PySem.W.mg_of X G yy0⟩, ⟨_, PySem.W.mg_of X G yy1⟩, ⟨_, PySem.W.mg_of X G yy2⟩, ⟨_, PySem.W.mg_of X G yy3⟩, ⟨_, PySem.W.mg_of X G yy4⟩, ⟨_, PySem.W.mg_of X G yy5⟩, PySem.W.mg_none_of X G z_len, PySem.W.mg_none_of X G z_range, PySem.W.mg_none_of X G z_min, PySem.W.mg_none_of X G z_all, PySem.W.mg_none_of X G z_sorted, PySem.W.mg_none_of X G z_zip⟩
  have tN : ∀ H, SqT K H aN seven := fun H => .inr ⟨_, _, _, lN, rfl, rfl, by show 7 ≤ sizeLine; decide, .cons ⟨_, rfl⟩ (.cons ⟨_, rfl⟩ (.cons ⟨_, rfl⟩ (.cons ⟨_, rfl⟩ (.cons ⟨_, rfl⟩ (.cons ⟨_, rfl⟩ (.cons ⟨_, rfl⟩ (.nil)))))))⟩
  have F1 := fun_mk (st := sSide) l1 c1 k1
  have b1 := F1.binds (ps := ["knots"]) fun _ _ _ _ _ _ us hl => match us, hl with | [_], _ => rfl
  have F2 := fun_mk (st := sBit) l2 c2 k2
  have b2 := F2.binds (ps := ["knot"]) fun _ _ _ _ _ _ us hl => match us, hl with | [_], _ => rfl
  have F3 := fun_mk (st := sPair) l3 c3 k3
  have b3 := F3.binds (ps := ["knot", "other"]) fun _ _ _ _ _ _ us hl => match us, hl with | [_, _], _ => rfl
  have F4 := fun_mk (st := sKin) l4 c4 k4
  have b4 := F4.binds (ps := ["bits"]) fun _ _ _ _ _ _ us hl => match us, hl with | [_], _ => rfl
  have F5 := fun_mk (st := sOddk) l5 c5 k5
  have b5 := F5.binds (ps := ["pairs"]) fun _ _ _ _ _ _ us hl => match us, hl with | [_], _ => rfl
  have F6 := fun_mk (st := sReach) l6 c6 k6
  have b6 := F6.binds (ps := ["bits", "pairs"]) fun _ _ _ _ _ _ us hl => match us, hl with | [_, _], _ => rfl
  have F7 := fun_mk (st := sWay) l7 c7 k7
  have b7 := F7.binds (ps := ["pairs"]) fun _ _ _ _ _ _ us hl => match us, hl with | [_], _ => rfl
  have F8 := fun_mk (st := sFirst) l8 c8 k8
  have b8 := F8.binds (ps := ["pairs"]) fun _ _ _ _ _ _ us hl => match us, hl with | [_], _ => rfl
  have F9 := fun_mk (st := sWo) l9 c9 k9
  have b9 := F9.binds (ps := ["pairs", "gone"]) fun _ _ _ _ _ _ us hl => match us, hl with | [_, _], _ => rfl
  have F10 := fun_mk (st := sCan) l10 c10 k10
  have b10 := F10.binds (ps := ["here", "knot", "left"]) fun _ _ _ _ _ _ us hl => match us, hl with | [_, _, _], _ => rfl
  have F11 := fun_mk (st := sEarly) l11 c11 k11
  have b11 := F11.binds (ps := ["pairs"]) fun _ _ _ _ _ _ us hl => match us, hl with | [_], _ => rfl
  have F12 := fun_mk (st := sInit) l12 c12 k12
  have b12 := F12.binds (ps := ["self"]) fun _ _ _ _ _ _ us hl => match us, hl with | [_], _ => rfl
  have F13 := fun_mk (st := sRow) l13 c13 k13
  have b13 := F13.binds (ps := ["self"]) fun _ _ _ _ _ _ us hl => match us, hl with | [_], _ => rfl
  have F14 := fun_mk (st := sAll) l14 c14 k14
  have b14 := F14.binds (ps := ["self"]) fun _ _ _ _ _ _ us hl => match us, hl with | [_], _ => rfl
  have F15 := fun_mk (st := sHas) l15 c15 k15
  have b15 := F15.binds (ps := ["self", "bar"]) fun _ _ _ _ _ _ us hl => match us, hl with | [_, _], _ => rfl
  have F16 := fun_mk (st := sHasK) l16 c16 k16
  have b16 := F16.binds (ps := ["self", "knot"]) fun _ _ _ _ _ _ us hl => match us, hl with | [_, _], _ => rfl
  have F17 := fun_mk (st := sKnots) l17 c17 k17
  have b17 := F17.binds (ps := ["self", "bar"]) fun _ _ _ _ _ _ us hl => match us, hl with | [_, _], _ => rfl
  have F18 := fun_mk (st := sPairs) l18 c18 k18
  have b18 := F18.binds (ps := ["self", "bars"]) fun _ _ _ _ _ _ us hl => match us, hl with | [_, _], _ => rfl
  have F19 := fun_mk (st := sBeg) l19 c19 k19
  have b19 := F19.binds (ps := ["self", "wide", "high"]) fun _ _ _ _ _ _ us hl => match us, hl with | [_, _, _], _ => rfl
  have F20 := fun_mk (st := sTear) l20 c20 k20
  have b20 := F20.binds (ps := ["self", "bar"]) fun _ _ _ _ _ _ us hl => match us, hl with | [_, _], _ => rfl
  have F21 := fun_mk (st := sMend) l21 c21 k21
  have b21 := F21.binds (ps := ["self", "bar"]) fun _ _ _ _ _ _ us hl => match us, hl with | [_, _], _ => rfl
  have F22 := fun_mk (st := sEnds) l22 c22 k22
  have b22 := F22.binds (ps := ["self", "bar"]) fun _ _ _ _ _ _ us hl => match us, hl with | [_, _], _ => rfl
  have F23 := fun_mk (st := sOdd) l23 c23 k23
  have b23 := F23.binds (ps := ["self"]) fun _ _ _ _ _ _ us hl => match us, hl with | [_], _ => rfl
  have F24 := fun_mk (st := sCheck) l24 c24 k24
  have b24 := F24.binds (ps := ["self", "knots"]) fun _ _ _ _ _ _ us hl => match us, hl with | [_, _], _ => rfl
  have F25 := fun_mk (st := sLarger) l25 c25 k25
  have b25 := F25.binds (ps := ["self", "sets"]) fun _ _ _ _ _ _ us hl => match us, hl with | [_, _], _ => rfl
  have F26 := fun_mk (st := sMay) l26 c26 k26
  have b26 := F26.binds (ps := ["self", "cut"]) fun _ _ _ _ _ _ us hl => match us, hl with | [_, _], _ => rfl
  have F27 := fun_mk (st := sBest) l27 c27 k27
  have b27 := F27.binds (ps := ["self"]) fun _ _ _ _ _ _ us hl => match us, hl with | [_], _ => rfl
  have F28 := fun_mk (st := sAnsOf) l28 c28 k28
  have b28 := F28.binds (ps := ["net", "call", "numbers"]) fun _ _ _ _ _ _ us hl => match us, hl with | [_, _, _], _ => rfl
  have F29 := fun_mk (st := sBehind) l29 c29 k29
  have b29 := F29.binds (ps := ["calls", "place"]) fun _ _ _ _ _ _ us hl => match us, hl with | [_, _], _ => rfl
  have F30 := fun_mk (st := sAns) l30 c30 k30
  refine ⟨PySem.W.fnOf "answers" "answers" (defArgs sAns) (defBody sAns) (defScope sAns) .none kV30 dc30 pm30 an30 cd30 ct30, fun s us hu => match us, hu with | [_], _ => .of_eq rfl, fun base _ _ => ?_⟩
  have G1 := ok_side (P := P) (w := w) (base := base) F1 T 
  have G2 := ok_bit (P := P) (w := w) (mg := mg) (base := base) F2 
  have G3 := ok_pair (P := P) (w := w) (mg := mg) (base := base) F3 G2 (PySem.W.mg_of X G a2) k2 b2
  have G4 := ok_kin (P := P) (w := w) (base := base) F4 T G2 (PySem.W.mg_of X G a2) k2 b2
  have G5 := ok_oddk (P := P) (w := w) (mg := mg) (base := base) F5 G4 (PySem.W.mg_of X G a4) k4 b4
  have G6 := ok_reach (P := P) (w := w) (mg := mg) (base := base) F6 
  have G7 := ok_way (P := P) (w := w) (base := base) F7 T G5 (PySem.W.mg_of X G a5) k5 b5 G6 (PySem.W.mg_of X G a6) k6 b6
  have G8 := ok_first (P := P) (w := w) (base := base) F8 T G5 (PySem.W.mg_of X G a5) k5 b5 G4 (PySem.W.mg_of X G a4) k4 b4
  have G9 := ok_wo (P := P) (w := w) (mg := mg) (base := base) F9 
  have G10 := ok_can (P := P) (w := w) (mg := mg) (base := base) F10 G3 (PySem.W.mg_of X G a3) k3 b3 G6 (PySem.W.mg_of X G a6) k6 b6 G9 (PySem.W.mg_of X G a9) k9 b9 G2 (PySem.W.mg_of X G a2) k2 b2
  have G11 := ok_early (P := P) (w := w) (base := base) F11 T G8 (PySem.W.mg_of X G a8) k8 b8 G10 (PySem.W.mg_of X G a10) k10 b10 G9 (PySem.W.mg_of X G a9) k9 b9 G3 (PySem.W.mg_of X G a3) k3 b3
  have G12 := ok_init (P := P) (w := w) (base := base) F12 T 
  have G13 := ok_row (P := P) (w := w) (base := base) F13 T 
  have G14 := ok_all (P := P) (w := w) (base := base) F14 T G13 ⟨a13, i13, k13⟩ b13
  have G15 := ok_has (P := P) (w := w) (base := base) F15 T G14 ⟨a14, i14, k14⟩ b14
  have G16 := ok_hasK (P := P) (w := w) (base := base) F16 T 
  have G17 := ok_knots (P := P) (w := w) (base := base) F17 T G13 ⟨a13, i13, k13⟩ b13
  have G18 := ok_pairs (P := P) (w := w) (base := base) F18 T G17 ⟨a17, i17, k17⟩ b17 G3 (PySem.W.mg_of X G a3) k3 b3
  have G19 := ok_beg (P := P) (w := w) (base := base) F19 T G1 (PySem.W.mg_of X G a1) k1 b1 G14 ⟨a14, i14, k14⟩ b14
  have G20 := ok_tear (P := P) (w := w) (base := base) F20 T G15 ⟨a15, i15, k15⟩ b15
  have G21 := ok_mend (P := P) (w := w) (base := base) F21 T G15 ⟨a15, i15, k15⟩ b15
  have G22 := ok_ends (P := P) (w := w) (base := base) F22 T G15 ⟨a15, i15, k15⟩ b15 G17 ⟨a17, i17, k17⟩ b17
  have G23 := ok_odd (P := P) (w := w) (base := base) F23 T G5 (PySem.W.mg_of X G a5) k5 b5 G18 ⟨a18, i18, k18⟩ b18
  have G24 := ok_check (P := P) (w := w) (base := base) F24 T G16 ⟨a16, i16, k16⟩ b16 G3 (PySem.W.mg_of X G a3) k3 b3 G18 ⟨a18, i18, k18⟩ b18
  have G26 := ok_may (P := P) (w := w) (base := base) F26 T G5 (PySem.W.mg_of X G a5) k5 b5 G18 ⟨a18, i18, k18⟩ b18
  have G25 := ok_larger (P := P) (w := w) (base := base) F25 T G14 ⟨a14, i14, k14⟩ b14 G26 ⟨a26, i26, k26⟩ b26
  have G27 := ok_best (P := P) (w := w) (base := base) F27 T G25 ⟨a25, i25, k25⟩ b25 G18 ⟨a18, i18, k18⟩ b18 G7 (PySem.W.mg_of X G a7) k7 b7 G11 (PySem.W.mg_of X G a11) k11 b11
  have G28 := ok_ansOf (P := P) (w := w) (base := base) F28 T G19 ⟨a19, i19, k19⟩ b19 G20 ⟨a20, i20, k20⟩ b20 G21 ⟨a21, i21, k21⟩ b21 G22 ⟨a22, i22, k22⟩ b22 G23 ⟨a23, i23, k23⟩ b23 G24 ⟨a24, i24, k24⟩ b24 G27 ⟨a27, i27, k27⟩ b27
  have G29 := ok_behind (P := P) (w := w) (base := base) F29 T (PySem.W.mg_of X G gN) tN
  exact ok_ans F30 T ⟨mk, a12, i12, kc⟩ (PySem.W.mg_of X G aC) G12 b12 G28 (PySem.W.mg_of X G a28) k28 b28 G29 (PySem.W.mg_of X G a29) k29 b29
end Nm

set_option maxRecDepth 100000 in
set_option maxHeartbeats 8000000 in
theorem PySem.Challenge.cw_netmends_s01_answers_holds : PySem.Challenge.rw_netmends_s01_answers.Holds := by
  w_on
  k_headS
  (case hw => exact ⟨[.list [.int 4]], by decide +kernel, by decide +kernel⟩)
  k_fillS
  refine L2.walk_specK (r := PySem.Challenge.rw_netmends_s01_answers) (k := 8) (CX := L2.CX0) (ps := ["calls"]) (sp := Nm.spAns) (by decide +kernel) rfl rfl ⟨rfl, by decide, by decide⟩ (fun w h Y => PySem.W.kIn_of Y) ?F ?S (fun _ _ _ _ z => z)
  case F =>
    intro w mg fa h Y KX G hmg
    refine' Nm.all_mk KX G hmg ?aC ?a1 ?l1 ?c1 ?k1 ?a2 ?l2 ?c2 ?k2 ?a3 ?l3 ?c3 ?k3 ?a4 ?l4 ?c4 ?k4 ?a5 ?l5 ?c5 ?k5 ?a6 ?l6 ?c6 ?k6 ?a7 ?l7 ?c7 ?k7 ?a8 ?l8 ?c8 ?k8 ?a9 ?l9 ?c9 ?k9 ?a10 ?l10 ?c10 ?k10 ?a11 ?l11 ?c11 ?k11 ?a12 ?i12 ?l12 ?c12 ?k12 ?a13 ?i13 ?l13 ?c13 ?k13 ?a14 ?i14 ?l14 ?c14 ?k14 ?a15 ?i15 ?l15 ?c15 ?k15 ?a16 ?i16 ?l16 ?c16 ?k16 ?a17 ?i17 ?l17 ?c17 ?k17 ?a18 ?i18 ?l18 ?c18 ?k18 ?a19 ?i19 ?l19 ?c19 ?k19 ?a20 ?i20 ?l20 ?c20 ?k20 ?a21 ?i21 ?l21 ?c21 ?k21 ?a22 ?i22 ?l22 ?c22 ?k22 ?a23 ?i23 ?l23 ?c23 ?k23 ?a24 ?i24 ?l24 ?c24 ?k24 ?a25 ?i25 ?l25 ?c25 ?k25 ?a26 ?i26 ?l26 ?c26 ?k26 ?a27 ?i27 ?l27 ?c27 ?k27 ?a28 ?l28 ?c28 ?k28 ?a29 ?l29 ?c29 ?k29 ?a30 ?l30 ?c30 ?k30 ?pg ?hd ?po ?sa ?mk ?kc ?nW ?nH ?nT ?gL ?gM ?gT ?gK ?gC ?gO ?yy0 ?yy1 ?yy2 ?yy3 ?yy4 ?yy5 ?z_len ?z_range ?z_min ?z_all ?z_sorted ?z_zip ?gN ?lN
    (case aC => k_is)
    (case a1 => k_is)
    (case l1 => k_is)
    (case c1 => k_is)
    (case k1 => k_is)
    (case a2 => k_is)
    (case l2 => k_is)
    (case c2 => k_is)
    (case k2 => k_is)
    (case a3 => k_is)
    (case l3 => k_is)
    (case c3 => k_is)
    (case k3 => k_is)
    (case a4 => k_is)
    (case l4 => k_is)
    (case c4 => k_is)
    (case k4 => k_is)
    (case a5 => k_is)
    (case l5 => k_is)
    (case c5 => k_is)
    (case k5 => k_is)
    (case a6 => k_is)
    (case l6 => k_is)
    (case c6 => k_is)
    (case k6 => k_is)
    (case a7 => k_is)
    (case l7 => k_is)
    (case c7 => k_is)
    (case k7 => k_is)
    (case a8 => k_is)
    (case l8 => k_is)
    (case c8 => k_is)
    (case k8 => k_is)
    (case a9 => k_is)
    (case l9 => k_is)
    (case c9 => k_is)
    (case k9 => k_is)
    (case a10 => k_is)
    (case l10 => k_is)
    (case c10 => k_is)
    (case k10 => k_is)
    (case a11 => k_is)
    (case l11 => k_is)
    (case c11 => k_is)
    (case k11 => k_is)
    (case a12 => k_is)
    (case i12 => k_is)
    (case l12 => k_is)
    (case c12 => k_is)
    (case k12 => k_is)
    (case a13 => k_is)
    (case i13 => k_is)
    (case l13 => k_is)
    (case c13 => k_is)
    (case k13 => k_is)
    (case a14 => k_is)
    (case i14 => k_is)
    (case l14 => k_is)
    (case c14 => k_is)
    (case k14 => k_is)
    (case a15 => k_is)
    (case i15 => k_is)
    (case l15 => k_is)
    (case c15 => k_is)
    (case k15 => k_is)
    (case a16 => k_is)
    (case i16 => k_is)
    (case l16 => k_is)
    (case c16 => k_is)
    (case k16 => k_is)
    (case a17 => k_is)
    (case i17 => k_is)
    (case l17 => k_is)
    (case c17 => k_is)
    (case k17 => k_is)
    (case a18 => k_is)
    (case i18 => k_is)
    (case l18 => k_is)
    (case c18 => k_is)
    (case k18 => k_is)
    (case a19 => k_is)
    (case i19 => k_is)
    (case l19 => k_is)
    (case c19 => k_is)
    (case k19 => k_is)
    (case a20 => k_is)
    (case i20 => k_is)
    (case l20 => k_is)
    (case c20 => k_is)
    (case k20 => k_is)
    (case a21 => k_is)
    (case i21 => k_is)
    (case l21 => k_is)
    (case c21 => k_is)
    (case k21 => k_is)
    (case a22 => k_is)
    (case i22 => k_is)
    (case l22 => k_is)
    (case c22 => k_is)
    (case k22 => k_is)
    (case a23 => k_is)
    (case i23 => k_is)
    (case l23 => k_is)
    (case c23 => k_is)
    (case k23 => k_is)
    (case a24 => k_is)
    (case i24 => k_is)
    (case l24 => k_is)
    (case c24 => k_is)
    (case k24 => k_is)
    (case a25 => k_is)
    (case i25 => k_is)
    (case l25 => k_is)
    (case c25 => k_is)
    (case k25 => k_is)
    (case a26 => k_is)
    (case i26 => k_is)
    (case l26 => k_is)
    (case c26 => k_is)
    (case k26 => k_is)
    (case a27 => k_is)
    (case i27 => k_is)
    (case l27 => k_is)
    (case c27 => k_is)
    (case k27 => k_is)
    (case a28 => k_is)
    (case l28 => k_is)
    (case c28 => k_is)
    (case k28 => k_is)
    (case a29 => k_is)
    (case l29 => k_is)
    (case c29 => k_is)
    (case k29 => k_is)
    (case a30 => k_is)
    (case l30 => k_is)
    (case c30 => k_is)
    (case k30 => k_is)
    (case pg => k_is)
    (case hd => k_is)
    (case po => k_is)
    (case sa => k_is)
    (case mk => k_is)
    (case kc => k_is)
    (case nW => k_is)
    (case nH => k_is)
    (case nT => k_is)
    (case gL => k_is)
    (case gM => k_is)
    (case gT => k_is)
    (case gK => k_is)
    (case gC => k_is)
    (case gO => k_is)
    (case yy0 => k_is)
    (case yy1 => k_is)
    (case yy2 => k_is)
    (case yy3 => k_is)
    (case yy4 => k_is)
    (case yy5 => k_is)
    (case z_len => k_is)
    (case z_range => k_is)
    (case z_min => k_is)
    (case z_all => k_is)
    (case z_sorted => k_is)
    (case z_zip => k_is)
    (case gN => k_is)
    (case lN => k_is)
  case S =>
    intro K H xs a hO hwi hask hx
    cases hx with
    | cons h1 h2 =>
      cases h2
      cases h1 with
      | lst hs ha =>
        have e := L2.ints_dw a.1 _ ha
        subst e
        have q : ((PySem.W.Codec.inLen 0 30000 a.1 && a.1.all (PySem.W.Codec.inInt 0 4294967295)) && true) = true := hwi
        rw [Bool.and_eq_true, Bool.and_eq_true] at q
        exact ⟨_, a.1, rfl, hs, (PySem.W.Codec.inNat_iff.mp q.1.1).2, hask, fun H' p hp => .lst (L2.SqL.of hp) (L2.dw_ints _)⟩
