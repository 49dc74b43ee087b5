import PyProof.Rows.All
import Wide.All
import OpenK.AllK
import Wide.FinOn
import PyFlatLaws
import Open.SpecLaws
import KE.OsGo
import HandS.ForSpec
import HandS.Comp
import PySem.Challenge.RW_twogroups_s01_answers
set_option Elab.async false
namespace TG
open Krdf
/-! Fractions -/
theorem part_mk {a b : Nat} (h : b ≠ 0) : part a b = some (mkRat a b) := by
  unfold part
  rw [if_neg h, Rat.mkRat_eq_div]
  rfl
theorem part_none {a b : Nat} (h : b = 0) : part a b = none := if_pos h
theorem mk_num {u : Int} {l : Nat} (h : l ≠ 0) : (mkRat u l).num = u / (Nat.gcd l u.natAbs : Int) := by
  rw [Rat.num_mkRat, if_neg h]
theorem mk_den {u : Int} {l : Nat} (h : l ≠ 0) : (mkRat u l).den = l / Nat.gcd l u.natAbs := by
  rw [Rat.den_mkRat, if_neg h]
theorem fdiv_num {u g : Int} (hg : 0 < g) : u.fdiv g = u / g := Int.fdiv_eq_ediv_of_nonneg u (by omega)
theorem short_num {u l : Int} (h : 1 ≤ l) : u.fdiv (Nat.gcd l.toNat u.natAbs : Int) = (mkRat u l.toNat).num := by
  have h0 : l.toNat ≠ 0 := by omega
  rw [mk_num h0, fdiv_num]
  have := Nat.gcd_pos_of_pos_left u.natAbs (show 0 < l.toNat by omega)
  omega
theorem short_den {u l : Int} (h : 1 ≤ l) : l.fdiv (Nat.gcd l.toNat u.natAbs : Int) = ((mkRat u l.toNat).den : Int) := by
  have h0 : l.toNat ≠ 0 := by omega
  have hp := Nat.gcd_pos_of_pos_left u.natAbs (show 0 < l.toNat by omega)
  rw [mk_den h0, fdiv_num (by omega), Int.natCast_ediv]
  congr 1
  omega
theorem gcd_turn {a b : Int} (ha : 0 < a) (hb : 0 < b) : Nat.gcd b.toNat (a.fmod b).toNat = Nat.gcd a.toNat b.toNat := by
  have e : a.fmod b = ((a.toNat % b.toNat : Nat) : Int) := by
    rw [Int.fmod_eq_emod_of_nonneg a (by omega), Int.natCast_emod]
    congr 1 <;> omega
  rw [e, Int.toNat_natCast, Nat.gcd_comm a.toNat b.toNat, Nat.gcd_rec b.toNat a.toNat, Nat.gcd_comm]
theorem fmod_bounds {a b : Int} (hb : 0 < b) : 0 ≤ a.fmod b ∧ a.fmod b < b :=
  ⟨Int.fmod_nonneg_of_pos a hb, Int.fmod_lt_of_pos a hb⟩
theorem rat_eq_iff (a b : Rat) : a = b ↔ a.num = b.num ∧ (a.den : Int) = (b.den : Int) := by
  constructor
  · intro h; subst h; exact ⟨rfl, rfl⟩
  · rintro ⟨h1, h2⟩
    exact Rat.ext h1 (by omega)
theorem den_pos (a : Rat) : 1 ≤ (a.den : Int) := by
  have := a.den_pos
  omega
theorem sub_mk (a b : Rat) : mkRat (a.num * b.den - b.num * a.den) ((a.den : Int) * (b.den : Int)).toNat = a - b := by
  rw [Rat.sub_def']
  congr 1
theorem den_le {u : Int} {l : Nat} (h : l ≠ 0) : (mkRat u l).den ≤ l := by
  rw [mk_den h]
  exact Nat.div_le_self _ _
end TG

set_option Elab.async false
namespace TG
open Krdf
abbrev Cells := List (Nat × Nat)
theorem sumN_acc : ∀ (l : List Nat) (a : Nat), l.foldl (· + ·) a = a + l.sum
  | [], a => by simp
  | x :: r, a => by rw [List.foldl_cons, sumN_acc r]; simp; omega
theorem sumN_sum (l : List Nat) : sumN l = l.sum := by
  unfold sumN
  rw [sumN_acc]; omega
/-! A group's numbers, by its cells and its row -/
def cYes (k : Nat) (c : Cells) : Nat := sumN ((List.range k).map fun s => (c.getD s (0, 0)).1)
def cNo (k : Nat) (c : Cells) : Nat := sumN ((List.range k).map fun s => (c.getD s (0, 0)).2)
def cYesP (k : Nat) (c : Cells) (r : List Bool) : Nat := sumN ((List.range k).map fun s => if r.getD s false then (c.getD s (0, 0)).1 else 0)
def cNoP (k : Nat) (c : Cells) (r : List Bool) : Nat := sumN ((List.range k).map fun s => if r.getD s false then (c.getD s (0, 0)).2 else 0)
/-- what is above and below the line -/
def pairN (k : Nat) (c : Cells) (r : List Bool) (kind : Nat) : Nat × Nat :=
  let y := cYes k c
  let n := cNo k c
  let yp := cYesP k c r
  let np := cNoP k c r
  if kind = 0 then (y, y + n) else if kind = 1 then (yp + np, y + n) else if kind = 2 then (yp, y) else if kind = 3 then (np, n)
  else if kind = 4 then (yp, yp + np) else if kind = 5 then (n - np, y + n - yp - np) else (yp + (n - np), y + n)
def rateC (k : Nat) (c : Cells) (r : List Bool) (kind : Nat) : Option Rat := part (pairN k c r kind).1 (pairN k c r kind).2
theorem rate_C (t : Table) (kind g : Nat) : t.rate kind g = rateC t.k (t.cells.getD g []) (t.rules.getD g []) kind := by
  unfold rateC pairN
  show (if kind = 0 then part (t.yes g) (t.yes g + t.no g) else _) = _
  simp only []
  repeat' split
  all_goals rfl
theorem sum_le : ∀ (l : List Nat) (f h : Nat → Nat), (∀ s, f s ≤ h s) → (l.map f).sum ≤ (l.map h).sum
  | [], _, _, _ => Nat.le_refl _
  | x :: r, f, h, q => by
    have := sum_le r f h q
    have := q x
    simp
    omega
theorem yesP_le (k : Nat) (c : Cells) (r : List Bool) : cYesP k c r ≤ cYes k c := by
  unfold cYesP cYes
  rw [sumN_sum, sumN_sum]
  refine sum_le _ _ _ fun s => ?_
  split <;> omega
theorem noP_le (k : Nat) (c : Cells) (r : List Bool) : cNoP k c r ≤ cNo k c := by
  unfold cNoP cNo
  rw [sumN_sum, sumN_sum]
  refine sum_le _ _ _ fun s => ?_
  split <;> omega
/-- each cell holds at most 99 and 99 -/
def CellsOk (k : Nat) (c : Cells) : Prop := c.length = k ∧ ∀ x ∈ c, x.1 ≤ 99 ∧ x.2 ≤ 99
theorem CellsOk.at {k : Nat} {c : Cells} (h : CellsOk k c) (s : Nat) : (c.getD s (0, 0)).1 ≤ 99 ∧ (c.getD s (0, 0)).2 ≤ 99 := by
  by_cases hs : s < c.length
  · rw [List.getD_eq_getElem?_getD, List.getElem?_eq_getElem hs]
    exact h.2 _ (List.getElem_mem hs)
  · rw [List.getD_eq_getElem?_getD, List.getElem?_eq_none (by omega)]
    exact ⟨by decide, by decide⟩
theorem sum_bound : ∀ (l : List Nat) (f : Nat → Nat) (b : Nat), (∀ s, f s ≤ b) → (l.map f).sum ≤ l.length * b
  | [], _, _, _ => Nat.zero_le _
  | x :: r, f, b, q => by
    have := sum_bound r f b q
    have := q x
    simp [Nat.succ_mul]
    omega
theorem yes_le {k : Nat} {c : Cells} (h : CellsOk k c) : cYes k c ≤ k * 99 := by
  unfold cYes
  rw [sumN_sum]
  have := sum_bound (List.range k) (fun s => (c.getD s (0, 0)).1) 99 fun s => (h.at s).1
  rw [List.length_range] at this
  exact this
theorem no_le {k : Nat} {c : Cells} (h : CellsOk k c) : cNo k c ≤ k * 99 := by
  unfold cNo
  rw [sumN_sum]
  have := sum_bound (List.range k) (fun s => (c.getD s (0, 0)).2) 99 fun s => (h.at s).2
  rw [List.length_range] at this
  exact this
theorem pair_le {k : Nat} {c : Cells} (h : CellsOk k c) (hk : k ≤ 4) (r : List Bool) (q : Nat) : (pairN k c r q).2 ≤ 792 := by
  have h1 := yes_le h
  have h2 := no_le h
  have h3 := yesP_le k c r
  have h4 := noP_le k c r
  unfold pairN
  simp only []
  repeat' split
  all_goals (simp only []; omega)
/-! As whole numbers of Python's -/
def zs (c : Cells) : List Int := c.map fun x => (x.1 : Int)
def zn (c : Cells) : List Int := c.map fun x => (x.2 : Int)
def zb (r : List Bool) : List Int := r.map fun b => if b then 1 else 0
theorem zs_len (c : Cells) : (zs c).length = c.length := List.length_map _
theorem zn_len (c : Cells) : (zn c).length = c.length := List.length_map _
theorem zb_len (r : List Bool) : (zb r).length = r.length := List.length_map _
theorem zs_get {c : Cells} {s : Nat} (h : s < c.length) : (zs c)[s]? = some ((c.getD s (0, 0)).1 : Int) := by
  simp [zs, h]
theorem zn_get {c : Cells} {s : Nat} (h : s < c.length) : (zn c)[s]? = some ((c.getD s (0, 0)).2 : Int) := by
  simp [zn, h]
theorem zb_get {r : List Bool} {s : Nat} (h : s < r.length) : (zb r)[s]? = some (if r.getD s false then 1 else 0) := by
  simp [zb, h]
theorem cast_sum : ∀ l : List Nat, (l.map fun (x : Nat) => (x : Int)).sum = (l.sum : Int)
  | [] => rfl
  | x :: r => by
    have := cast_sum r
    simp [this]
theorem range_getD {α : Type} (d : α) : ∀ (l : List α), (List.range l.length).map (fun s => l.getD s d) = l := by
  intro l
  apply List.ext_getElem?
  intro i
  by_cases h : i < l.length
  · simp [h]
  · simp [h]
theorem zs_sum {k : Nat} {c : Cells} (h : c.length = k) : (zs c).sum = (cYes k c : Int) := by
  subst h
  unfold cYes zs
  rw [sumN_sum]
  have e : (List.range c.length).map (fun s => (c.getD s (0, 0)).1) = c.map (·.1) := by
    conv => rhs; rw [← range_getD (0, 0) c]
    simp
  rw [e, ← cast_sum, List.map_map]
  rfl
theorem zn_sum {k : Nat} {c : Cells} (h : c.length = k) : (zn c).sum = (cNo k c : Int) := by
  subst h
  unfold cNo zn
  rw [sumN_sum]
  have e : (List.range c.length).map (fun s => (c.getD s (0, 0)).2) = c.map (·.2) := by
    conv => rhs; rw [← range_getD (0, 0) c]
    simp
  rw [e, ← cast_sum, List.map_map]
  rfl
/-- the numbers at the chosen scores among the first i -/
def picked (xs : List Int) (r : List Bool) (i : Nat) : List Int := ((List.range i).filter fun s => r.getD s false).map fun s => xs.getD s 0
theorem picked_zero (xs : List Int) (r : List Bool) : picked xs r 0 = [] := rfl
theorem picked_yes {xs : List Int} {r : List Bool} {i : Nat} (h : r.getD i false = true) : picked xs r (i + 1) = picked xs r i ++ [xs.getD i 0] := by
  unfold picked
  rw [List.range_succ, List.filter_append, List.map_append]
  simp only [List.filter_cons, h, List.filter_nil, if_true, List.map_cons, List.map_nil]
theorem picked_not {xs : List Int} {r : List Bool} {i : Nat} (h : r.getD i false = false) : picked xs r (i + 1) = picked xs r i := by
  unfold picked
  rw [List.range_succ, List.filter_append, List.map_append]
  simp only [List.filter_cons, h, List.filter_nil, List.map_nil, List.append_nil, Bool.false_eq_true, if_false]
theorem picked_len (xs : List Int) (r : List Bool) (i : Nat) : (picked xs r i).length ≤ i := by
  unfold picked
  rw [List.length_map]
  have := List.length_filter_le (fun s => r.getD s false) (List.range i)
  rw [List.length_range] at this
  exact this
theorem picked_sum (xs : List Int) (r : List Bool) (f : Nat → Nat) (hf : ∀ s, xs.getD s 0 = (f s : Int)) : ∀ i, (picked xs r i).sum = (sumN ((List.range i).map fun s => if r.getD s false then f s else 0) : Int)
  | 0 => rfl
  | i + 1 => by
    have ih := picked_sum xs r f hf i
    rw [sumN_sum] at ih ⊢
    rw [List.range_succ, List.map_append, List.sum_append]
    cases h : r.getD i false with
    | false =>
      rw [picked_not h, ih]
      simp only [List.map_cons, List.map_nil, h, Bool.false_eq_true, if_false, List.sum_cons, List.sum_nil, Nat.add_zero]
    | true =>
      rw [picked_yes h, List.sum_append, ih, hf]
      simp only [List.map_cons, List.map_nil, h, if_true, List.sum_cons, List.sum_nil, Nat.add_zero, Int.add_zero]
      omega
theorem zs_getD (c : Cells) (s : Nat) : (zs c).getD s 0 = ((c.getD s (0, 0)).1 : Int) := by
  by_cases h : s < c.length
  · rw [List.getD_eq_getElem?_getD, zs_get h]; rfl
  · have : (zs c)[s]? = none := List.getElem?_eq_none (by rw [zs_len]; omega)
    have h2 : c[s]? = none := List.getElem?_eq_none (by omega)
    rw [List.getD_eq_getElem?_getD, this, List.getD_eq_getElem?_getD, h2]; rfl
theorem zn_getD (c : Cells) (s : Nat) : (zn c).getD s 0 = ((c.getD s (0, 0)).2 : Int) := by
  by_cases h : s < c.length
  · rw [List.getD_eq_getElem?_getD, zn_get h]; rfl
  · have : (zn c)[s]? = none := List.getElem?_eq_none (by rw [zn_len]; omega)
    have h2 : c[s]? = none := List.getElem?_eq_none (by omega)
    rw [List.getD_eq_getElem?_getD, this, List.getD_eq_getElem?_getD, h2]; rfl
theorem picked_zs (c : Cells) (r : List Bool) (k : Nat) : (picked (zs c) r k).sum = (cYesP k c r : Int) := picked_sum _ _ _ (zs_getD c) k
theorem picked_zn (c : Cells) (r : List Bool) (k : Nat) : (picked (zn c) r k).sum = (cNoP k c r : Int) := picked_sum _ _ _ (zn_getD c) k
/-- the seven pairs as the program has them -/
def pairsZ (y n yp np : Int) : List (Int × Int) := [(y, y + n), (yp + np, y + n), (yp, y), (np, n), (yp, yp + np), (n - np, y + n - (yp + np)), (yp + (n - np), y + n)]
theorem pairs_at (k : Nat) (c : Cells) (r : List Bool) (q : Nat) (hq : q < 7) :
    (pairsZ (cYes k c) (cNo k c) (cYesP k c r) (cNoP k c r))[q]? = some (((pairN k c r q).1 : Int), ((pairN k c r q).2 : Int)) := by
  have h3 := yesP_le k c r
  have h4 := noP_le k c r
  match q, hq with
  | 0, _ => rfl
  | 1, _ => rfl
  | 2, _ => rfl
  | 3, _ => rfl
  | 4, _ => rfl
  | 5, _ =>
    show some (((cNo k c : Int) - (cNoP k c r : Int)), ((cYes k c : Int) + (cNo k c : Int) - ((cYesP k c r : Int) + (cNoP k c r : Int)))) = some (((cNo k c - cNoP k c r : Nat) : Int), ((cYes k c + cNo k c - cYesP k c r - cNoP k c r : Nat) : Int))
    congr 2 <;> omega
  | 6, _ =>
    show some (((cYesP k c r : Int) + ((cNo k c : Int) - (cNoP k c r : Int))), ((cYes k c : Int) + (cNo k c : Int))) = some (((cYesP k c r + (cNo k c - cNoP k c r) : Nat) : Int), ((cYes k c + cNo k c : Nat) : Int))
    congr 2
    omega
theorem rateC_none {k : Nat} {c : Cells} {r : List Bool} {q : Nat} (h : (pairN k c r q).2 = 0) : rateC k c r q = none := part_none h
theorem rateC_some {k : Nat} {c : Cells} {r : List Bool} {q : Nat} (h : (pairN k c r q).2 ≠ 0) : rateC k c r q = some (mkRat (pairN k c r q).1 (pairN k c r q).2) := part_mk h
theorem rate_den {k : Nat} {c : Cells} {r : List Bool} {q : Nat} {x : Rat} (h : CellsOk k c) (hk : k ≤ 4) (e : rateC k c r q = some x) : x.den ≤ 792 := by
  by_cases z : (pairN k c r q).2 = 0
  · rw [rateC_none z] at e; cases e
  · rw [rateC_some z] at e
    cases e
    exact Nat.le_trans (den_le z) (pair_le h hk r q)
theorem rate_num {k : Nat} {c : Cells} {r : List Bool} {q : Nat} {x : Rat} (e : rateC k c r q = some x) : 0 ≤ x.num := by
  by_cases z : (pairN k c r q).2 = 0
  · rw [rateC_none z] at e; cases e
  · rw [rateC_some z] at e
    cases e
    rw [mk_num z]
    exact Int.ediv_nonneg (by omega) (by omega)
end TG

set_option Elab.async false
namespace TG
open Krdf
/-! The state -/
structure Wf (t : Table) : Prop where
  k1 : 1 ≤ t.k
  k4 : t.k ≤ 4
  c2 : t.cells.length = 2
  r2 : t.rules.length = 2
  ck : ∀ c ∈ t.cells, CellsOk t.k c
  rk : ∀ r ∈ t.rules, r.length = t.k
def WfA : Abs → Prop
  | none => True
  | some t => Wf t
theorem getD_mem {α : Type} {l : List α} {i : Nat} {d : α} (h : i < l.length) : l.getD i d ∈ l := by
  rw [List.getD_eq_getElem?_getD, List.getElem?_eq_getElem h]
  exact List.getElem_mem h
theorem Wf.cells {t : Table} (w : Wf t) {g : Nat} (h : g < 2) : CellsOk t.k (t.cells.getD g []) := w.ck _ (getD_mem (by rw [w.c2]; exact h))
theorem Wf.row {t : Table} (w : Wf t) {g : Nat} (h : g < 2) : (t.rules.getD g []).length = t.k := w.rk _ (getD_mem (by rw [w.r2]; exact h))
theorem wf_empty {k : Nat} (h1 : 1 ≤ k) (h4 : k ≤ 4) : Wf (empty k) := by
  refine ⟨h1, h4, rfl, rfl, fun c hc => ?_, fun r hr => ?_⟩
  · have e := List.eq_of_mem_replicate hc
    subst e
    refine ⟨List.length_replicate, fun x hx => ?_⟩
    have e := List.eq_of_mem_replicate hx
    subst e
    exact ⟨by decide, by decide⟩
  · have e := List.eq_of_mem_replicate hr
    subst e
    exact List.length_replicate
theorem mem_set {α : Type} {l : List α} {i : Nat} {a x : α} (h : x ∈ l.set i a) : x ∈ l ∨ x = a := by
  have := List.mem_or_eq_of_mem_set h
  exact this
theorem wf_count {t : Table} (w : Wf t) {g s y n : Nat} (hg : g < 2) (hy : y ≤ 99) (hn : n ≤ 99) : Wf { t with cells := t.cells.set g ((t.cells.getD g []).set s (y, n)) } := by
  refine ⟨w.k1, w.k4, ?_, w.r2, fun c hc => ?_, w.rk⟩
  · show (t.cells.set g _).length = 2
    rw [List.length_set]; exact w.c2
  · rcases mem_set hc with m | m
    · exact w.ck c m
    · subst m
      have q := w.cells hg
      refine ⟨?_, fun x hx => ?_⟩
      · rw [List.length_set]; exact q.1
      · rcases mem_set hx with m | m
        · exact q.2 x m
        · subst m; exact ⟨hy, hn⟩
theorem wf_rule {t : Table} (w : Wf t) {g : Nat} {r : List Bool} (hr : r.length = t.k) : Wf { t with rules := t.rules.set g r } := by
  refine ⟨w.k1, w.k4, w.c2, ?_, w.ck, fun q hq => ?_⟩
  · show (t.rules.set g _).length = 2
    rw [List.length_set]; exact w.r2
  · rcases mem_set hq with m | m
    · exact w.rk q m
    · subst m; exact hr
theorem wf_rules {t : Table} (w : Wf t) {a b : List Bool} (ha : a.length = t.k) (hb : b.length = t.k) : Wf { t with rules := [a, b] } := by
  refine ⟨w.k1, w.k4, w.c2, rfl, w.ck, fun q hq => ?_⟩
  simp at hq
  rcases hq with e | e <;> subst e <;> assumption
/-! The calls -/
open PyFlat (put put1 putRows putRow okCall)
inductive Form : List (List Int) → Prop
  | begin_ (k : Int) : Form [[0, k]]
  | count (g s y n : Int) : Form [[1, g, s, y, n]]
  | rule (g : Int) (l : List Int) : Form [[2, g], l]
  | rate (q g : Int) : Form [[3, q, g]]
  | alike (q : Int) : Form [[4, q]]
  | gap (q : Int) : Form [[5, q]]
  | which : Form [[6]]
  | best : Form [[7]]
  | take : Form [[8]]
  | above (g s : Int) : Form [[9, g, s]]
  | cell (g s : Int) : Form [[10, g, s]]
  | people (g : Int) : Form [[11, g]]
  | ifpick (g s q : Int) : Form [[12, g, s, q]]
  | state : Form [[13]]
theorem len0 {α : Type} {l : List α} (h : 0 = l.length) : l = [] := List.eq_nil_of_length_eq_zero h.symm
theorem len1 {α : Type} {l : List α} (h : 1 = l.length) : ∃ a, l = [a] := by
  match l, h with
  | [a], _ => exact ⟨a, rfl⟩
theorem len2 {α : Type} {l : List α} (h : 2 = l.length) : ∃ a b, l = [a, b] := by
  match l, h with
  | [a, b], _ => exact ⟨a, b, rfl⟩
theorem len3 {α : Type} {l : List α} (h : 3 = l.length) : ∃ a b c, l = [a, b, c] := by
  match l, h with
  | [a, b, c], _ => exact ⟨a, b, c, rfl⟩
theorem len4 {α : Type} {l : List α} (h : 4 = l.length) : ∃ a b c d, l = [a, b, c, d] := by
  match l, h with
  | [a, b, c, d], _ => exact ⟨a, b, c, d, rfl⟩
theorem shape_cases {p : Int} {z : Nat × Nat} (hs : PyKrdf.shape p = some z) : (p = 0 ∧ z = (1, 0)) ∨ (p = 1 ∧ z = (4, 0)) ∨ (p = 2 ∧ z = (1, 1)) ∨ (p = 3 ∧ z = (2, 0)) ∨ (p = 4 ∧ z = (1, 0)) ∨ (p = 5 ∧ z = (1, 0)) ∨ (p = 6 ∧ z = (0, 0)) ∨ (p = 7 ∧ z = (0, 0)) ∨ (p = 8 ∧ z = (0, 0)) ∨ (p = 9 ∧ z = (2, 0)) ∨ (p = 10 ∧ z = (2, 0)) ∨ (p = 11 ∧ z = (1, 0)) ∨ (p = 12 ∧ z = (3, 0)) ∨ (p = 13 ∧ z = (0, 0)) := by
  unfold PyKrdf.shape at hs
  by_cases h0 : p = 0
  · rw [if_pos h0] at hs
    have e := Option.some.inj hs
    subst e
    exact Or.inl ⟨h0, rfl⟩
  rw [if_neg h0] at hs
  by_cases h1 : p = 1
  · rw [if_pos h1] at hs
    have e := Option.some.inj hs
    subst e
    exact Or.inr (Or.inl ⟨h1, rfl⟩)
  rw [if_neg h1] at hs
  by_cases h2 : p = 2
  · rw [if_pos h2] at hs
    have e := Option.some.inj hs
    subst e
    exact Or.inr (Or.inr (Or.inl ⟨h2, rfl⟩))
  rw [if_neg h2] at hs
  by_cases h3 : p = 3
  · rw [if_pos h3] at hs
    have e := Option.some.inj hs
    subst e
    exact Or.inr (Or.inr (Or.inr (Or.inl ⟨h3, rfl⟩)))
  rw [if_neg h3] at hs
  by_cases h4 : p = 4
  · rw [if_pos h4] at hs
    have e := Option.some.inj hs
    subst e
    exact Or.inr (Or.inr (Or.inr (Or.inr (Or.inl ⟨h4, rfl⟩))))
  rw [if_neg h4] at hs
  by_cases h5 : p = 5
  · rw [if_pos h5] at hs
    have e := Option.some.inj hs
    subst e
    exact Or.inr (Or.inr (Or.inr (Or.inr (Or.inr (Or.inl ⟨h5, rfl⟩)))))
  rw [if_neg h5] at hs
  by_cases h6 : p = 6
  · rw [if_pos h6] at hs
    have e := Option.some.inj hs
    subst e
    exact Or.inr (Or.inr (Or.inr (Or.inr (Or.inr (Or.inr (Or.inl ⟨h6, rfl⟩))))))
  rw [if_neg h6] at hs
  by_cases h7 : p = 7
  · rw [if_pos h7] at hs
    have e := Option.some.inj hs
    subst e
    exact Or.inr (Or.inr (Or.inr (Or.inr (Or.inr (Or.inr (Or.inr (Or.inl ⟨h7, rfl⟩)))))))
  rw [if_neg h7] at hs
  by_cases h8 : p = 8
  · rw [if_pos h8] at hs
    have e := Option.some.inj hs
    subst e
    exact Or.inr (Or.inr (Or.inr (Or.inr (Or.inr (Or.inr (Or.inr (Or.inr (Or.inl ⟨h8, rfl⟩))))))))
  rw [if_neg h8] at hs
  by_cases h9 : p = 9
  · rw [if_pos h9] at hs
    have e := Option.some.inj hs
    subst e
    exact Or.inr (Or.inr (Or.inr (Or.inr (Or.inr (Or.inr (Or.inr (Or.inr (Or.inr (Or.inl ⟨h9, rfl⟩)))))))))
  rw [if_neg h9] at hs
  by_cases h10 : p = 10
  · rw [if_pos h10] at hs
    have e := Option.some.inj hs
    subst e
    exact Or.inr (Or.inr (Or.inr (Or.inr (Or.inr (Or.inr (Or.inr (Or.inr (Or.inr (Or.inr (Or.inl ⟨h10, rfl⟩))))))))))
  rw [if_neg h10] at hs
  by_cases h11 : p = 11
  · rw [if_pos h11] at hs
    have e := Option.some.inj hs
    subst e
    exact Or.inr (Or.inr (Or.inr (Or.inr (Or.inr (Or.inr (Or.inr (Or.inr (Or.inr (Or.inr (Or.inr (Or.inl ⟨h11, rfl⟩)))))))))))
  rw [if_neg h11] at hs
  by_cases h12 : p = 12
  · rw [if_pos h12] at hs
    have e := Option.some.inj hs
    subst e
    exact Or.inr (Or.inr (Or.inr (Or.inr (Or.inr (Or.inr (Or.inr (Or.inr (Or.inr (Or.inr (Or.inr (Or.inr (Or.inl ⟨h12, rfl⟩))))))))))))
  rw [if_neg h12] at hs
  by_cases h13 : p = 13
  · rw [if_pos h13] at hs
    have e := Option.some.inj hs
    subst e
    exact Or.inr (Or.inr (Or.inr (Or.inr (Or.inr (Or.inr (Or.inr (Or.inr (Or.inr (Or.inr (Or.inr (Or.inr (Or.inr (⟨h13, rfl⟩)))))))))))))
  rw [if_neg h13] at hs
  cases hs
theorem form_of {c : List (List Int)} (h : okCall PyKrdf.shape c) : Form c := by
  obtain ⟨p, a, xs, e, hs⟩ := h
  subst e
  rcases shape_cases hs with h | h | h | h | h | h | h | h | h | h | h | h | h | h
  all_goals
    obtain ⟨e, hz⟩ := h
    have h1 := (congrArg Prod.fst hz).symm
    have h2 := (congrArg Prod.snd hz).symm
    subst e
    first
      | (have e0 := len0 h1; have e1 := len0 h2; subst e0 e1; constructor)
      | (obtain ⟨a0, e0⟩ := len1 h1; have e1 := len0 h2; subst e0 e1; constructor)
      | (obtain ⟨a0, e0⟩ := len1 h1; obtain ⟨x0, e1⟩ := len1 h2; subst e0 e1; constructor)
      | (obtain ⟨a0, b0, e0⟩ := len2 h1; have e1 := len0 h2; subst e0 e1; constructor)
      | (obtain ⟨a0, b0, c0, e0⟩ := len3 h1; have e1 := len0 h2; subst e0 e1; constructor)
      | (obtain ⟨a0, b0, c0, d0, e0⟩ := len4 h1; have e1 := len0 h2; subst e0 e1; constructor)
theorem whole_id (c : List (List Int)) : PyKrdf.whole c = c := by
  unfold PyKrdf.whole
  split <;> rfl
theorem wholes_id (cs : List (List (List Int))) : cs.map PyKrdf.whole = cs := by
  have : PyKrdf.whole = id := funext whole_id
  rw [this, List.map_id]
theorem put1_pos {c : List (List Int)} (h : Form c) : 1 ≤ (put1 c).length := by
  cases h <;> simp [put1] <;> omega
/-- what the loop knows at i -/
structure Loop (l : List Int) (i : Nat) (s : Abs) (out : List Int) (cs : List (List (List Int))) : Prop where
  rest : l.drop i = put cs
  le : i ≤ l.length
  ok : ∀ c ∈ cs, Form c
  due : PyKrdf.answers l = out ++ PyFlat.told (PyFlat.played KrdfNeutral.step s cs)
theorem loop_start {l : List Int} (h : PyKrdf.answers_asked l = true) : ∃ cs, Loop l 0 KrdfNeutral.start [] cs := by
  unfold PyKrdf.answers_asked at h
  cases e : PyFlat.calls PyKrdf.shape l.length l with
  | none => rw [e] at h; cases h
  | some cs =>
    have q := PyFlat.put_calls _ _ _ e
    refine ⟨cs, q.1, Nat.zero_le _, fun c hc => form_of (q.2 c hc), ?_⟩
    unfold PyKrdf.answers PyKrdf.calls
    rw [e]
    show PyFlat.told (PyFlat.played KrdfNeutral.step KrdfNeutral.start (cs.map PyKrdf.whole)) = _
    rw [wholes_id]; rfl
theorem asked_short {l : List Int} (h : PyKrdf.answers_asked l = true) : (PyKrdf.answers l).length ≤ 10000000 := by
  unfold PyKrdf.answers_asked at h
  cases e : PyFlat.calls PyKrdf.shape l.length l with
  | none => rw [e] at h; cases h
  | some cs =>
    rw [e] at h
    simp only [Bool.and_eq_true] at h
    have := h.2
    unfold PyFlat.short at this
    exact of_decide_eq_true this
theorem loop_end {l : List Int} {i : Nat} {s : Abs} {out : List Int} {cs : List (List (List Int))} (h : Loop l i s out cs) (hi : l.length ≤ i) : PyKrdf.answers l = out := by
  have e : l.drop i = [] := List.drop_eq_nil_of_le hi
  have q := h.rest
  rw [e] at q
  have : cs = [] := by
    cases cs with
    | nil => rfl
    | cons c r =>
      have := put1_pos (h.ok c (List.Mem.head _))
      have z : (put (c :: r)).length = 0 := by rw [← q]; rfl
      unfold put at z
      rw [List.length_append] at z
      omega
  subst this
  have d := h.due
  rw [show PyFlat.told (PyFlat.played KrdfNeutral.step s []) = [] from rfl, List.append_nil] at d
  exact d
theorem loop_next {l : List Int} {i : Nat} {s : Abs} {out : List Int} {cs : List (List (List Int))} (h : Loop l i s out cs) (hi : i < l.length) :
    ∃ c r, cs = c :: r ∧ Form c ∧ l.drop i = put1 c ++ put r ∧ i + (put1 c).length ≤ l.length ∧
      Loop l (i + (put1 c).length) (KrdfNeutral.step s c).1 (out ++ [((KrdfNeutral.step s c).2.length : Int)] ++ (KrdfNeutral.step s c).2) r := by
  cases cs with
  | nil =>
    have q := h.rest
    have : (l.drop i).length = 0 := by rw [q]; rfl
    rw [List.length_drop] at this
    omega
  | cons c r =>
    have f := h.ok c (List.Mem.head _)
    have q : l.drop i = put1 c ++ put r := h.rest
    have ql : (l.drop i).length = (put1 c).length + (put r).length := by rw [q, List.length_append]
    rw [List.length_drop] at ql
    refine ⟨c, r, rfl, f, q, by omega, ⟨?_, by omega, fun d hd => h.ok d (List.Mem.tail _ hd), ?_⟩⟩
    · rw [← List.drop_drop, q, List.drop_left]
    · rw [h.due]
      rw [List.append_assoc, List.append_assoc]
      rfl
end TG

set_option Elab.async false
namespace TG
open Krdf
/-! The best rule, as one walk over the rows of both groups -/
def goodC (k : Nat) (c : Cells) (r : List Bool) : Bool := decide (0 < cYesP k c r + cNoP k c r) && decide (cYesP k c r + cNoP k c r < cYes k c + cNo k c)
def sameO (a b : Option Rat) : Bool := match a, b with
  | some x, some y => x == y
  | _, _ => false
/-- how many of the kinds 1 to 6 are alike -/
def cnt (k : Nat) (c0 c1 : Cells) (a b : List Bool) : Nat := ((List.range 7).filter fun q => q != 0 && sameO (rateC k c0 a q) (rateC k c1 b q)).length
abbrev Best := Option (Nat × List (List Bool))
def better (m : Best) (n : Nat) (r : List (List Bool)) : Best := match m with
  | none => some (n, r)
  | some y => if y.1 < n then some (n, r) else some y
theorem foldl_filter {α β : Type} (p : α → Bool) (f : β → α → β) : ∀ (l : List α) (m : β), (l.filter p).foldl f m = l.foldl (fun m x => if p x then f m x else m) m
  | [], _ => rfl
  | x :: r, m => by
    rw [List.filter_cons, List.foldl_cons]
    cases h : p x with
    | true => simp only [if_true]; rw [List.foldl_cons]; exact foldl_filter p f r _
    | false => simp only [Bool.false_eq_true, if_false]; exact foldl_filter p f r _
theorem foldl_flatMap {α β γ : Type} (g : α → List β) (f : γ → β → γ) : ∀ (l : List α) (m : γ), (l.flatMap g).foldl f m = l.foldl (fun m x => (g x).foldl f m) m
  | [], _ => rfl
  | x :: r, m => by
    rw [List.flatMap_cons, List.foldl_append, List.foldl_cons]
    exact foldl_flatMap g f r _
theorem foldl_same {α β : Type} (f : β → α → β) (h : ∀ m x, f m x = m) : ∀ (l : List α) (m : β), l.foldl f m = m
  | [], _ => rfl
  | x :: r, m => by rw [List.foldl_cons, h]; exact foldl_same f h r m
def bestC (k : Nat) (c0 c1 : Cells) : Best := (rows k).foldl (fun m a => if goodC k c0 a then (rows k).foldl (fun m b => if goodC k c1 b then better m (cnt k c0 c1 a b) [a, b] else m) m else m) none
theorem foldl_congr {α β : Type} {f g : β → α → β} (h : ∀ m x, f m x = g m x) : ∀ (l : List α) (m : β), l.foldl f m = l.foldl g m := fun l m => by
  have : f = g := funext fun m => funext fun x => h m x
  rw [this]
theorem alike_u (t : Table) (a b : List Bool) (q : Nat) : ({ t with rules := [a, b] } : Table).alike q = sameO (rateC t.k (t.cells.getD 0 []) a q) (rateC t.k (t.cells.getD 1 []) b q) := by
  unfold Table.alike
  rw [rate_C, rate_C]
  rfl
theorem best_C (t : Table) : t.best = bestC t.k (t.cells.getD 0 []) (t.cells.getD 1 []) := by
  unfold Table.best bestC
  simp only []
  rw [foldl_filter, foldl_flatMap]
  refine foldl_congr (fun m a => ?_) _ _
  rw [List.foldl_map]
  cases g0 : goodC t.k (t.cells.getD 0 []) a with
  | true =>
    simp only [if_true]
    refine foldl_congr (fun m b => ?_) _ _
    have e : ([0, 1].all fun g => decide (0 < ({ t with rules := [a, b] } : Table).yesPicked g + ({ t with rules := [a, b] } : Table).noPicked g) && decide (({ t with rules := [a, b] } : Table).yesPicked g + ({ t with rules := [a, b] } : Table).noPicked g < ({ t with rules := [a, b] } : Table).yes g + ({ t with rules := [a, b] } : Table).no g))
        = (goodC t.k (t.cells.getD 0 []) a && (goodC t.k (t.cells.getD 1 []) b && true)) := rfl
    rw [e, g0, Bool.true_and, Bool.and_true]
    cases g1 : goodC t.k (t.cells.getD 1 []) b with
    | true =>
      simp only [if_true]
      have c : ((List.range kinds).filter fun q => q != 0 && ({ t with rules := [a, b] } : Table).alike q).length = cnt t.k (t.cells.getD 0 []) (t.cells.getD 1 []) a b := by
        unfold cnt
        congr 1
      rw [c]
      cases m <;> rfl
    | false => simp only [Bool.false_eq_true, if_false]
  | false =>
    simp only [Bool.false_eq_true, if_false]
    refine foldl_same _ (fun m b => ?_) _ _
    have e : ([0, 1].all fun g => decide (0 < ({ t with rules := [a, b] } : Table).yesPicked g + ({ t with rules := [a, b] } : Table).noPicked g) && decide (({ t with rules := [a, b] } : Table).yesPicked g + ({ t with rules := [a, b] } : Table).noPicked g < ({ t with rules := [a, b] } : Table).yes g + ({ t with rules := [a, b] } : Table).no g))
        = (goodC t.k (t.cells.getD 0 []) a && (goodC t.k (t.cells.getD 1 []) b && true)) := rfl
    rw [e, g0, Bool.false_and]
    rfl
theorem rows_len : ∀ (k : Nat) (r : List Bool), r ∈ rows k → r.length = k
  | 0, r, h => by
    simp [rows] at h
    subst h
    rfl
  | k + 1, r, h => by
    simp only [rows, List.mem_flatMap, List.mem_map] at h
    obtain ⟨b, _, l, hl, e⟩ := h
    subst e
    rw [List.length_cons, rows_len k l hl]
/-- a rule that is found has a row of k marks for each group -/
def BestOk (k : Nat) (m : Best) : Prop := ∀ n r, m = some (n, r) → ∃ a b, r = [a, b] ∧ a.length = k ∧ b.length = k ∧ n ≤ 6
theorem foldl_inv {α β : Type} (I : β → Prop) (f : β → α → β) : ∀ (l : List α) (m : β), I m → (∀ m x, x ∈ l → I m → I (f m x)) → I (l.foldl f m)
  | [], _, h, _ => h
  | x :: r, m, h, s => foldl_inv I f r _ (s m x (List.Mem.head _) h) fun m y hy => s m y (List.Mem.tail _ hy)
theorem cnt_le (k : Nat) (c0 c1 : Cells) (a b : List Bool) : cnt k c0 c1 a b ≤ 6 := by
  unfold cnt
  have e : ((List.range 7).filter fun q => q != 0 && sameO (rateC k c0 a q) (rateC k c1 b q)) = ([1, 2, 3, 4, 5, 6].filter fun q => q != 0 && sameO (rateC k c0 a q) (rateC k c1 b q)) := rfl
  rw [e]
  exact List.length_filter_le _ _
theorem best_ok (k : Nat) (c0 c1 : Cells) : BestOk k (bestC k c0 c1) := by
  unfold bestC
  refine foldl_inv (BestOk k) _ _ _ (fun n r h => by cases h) fun m a ha hm => ?_
  split
  · refine foldl_inv (BestOk k) _ _ _ hm fun m b hb hm => ?_
    split
    · unfold better
      have z : ∀ n r, some (cnt k c0 c1 a b, [a, b]) = some (n, r) → ∃ a b, r = [a, b] ∧ a.length = k ∧ b.length = k ∧ n ≤ 6 := fun n r h => by
        cases h
        exact ⟨a, b, rfl, rows_len k a ha, rows_len k b hb, cnt_le _ _ _ _ _⟩
      cases m with
      | none => exact z
      | some y =>
        dsimp only
        split
        · exact z
        · exact hm
    · exact hm
  · exact hm
theorem best_rules {t : Table} {n : Nat} {r : List (List Bool)} (h : t.best = some (n, r)) : ∃ a b, r = [a, b] ∧ a.length = t.k ∧ b.length = t.k ∧ n ≤ 6 := by
  rw [best_C] at h
  exact best_ok _ _ _ n r h
end TG

set_option Elab.async false
namespace TG
open Krdf
/-! Two lists, item by item -/
inductive All2 {α β : Type} (R : α → β → Prop) : List α → List β → Prop
  | nil : All2 R [] []
  | cons {a : α} {b : β} {l : List α} {m : List β} : R a b → All2 R l m → All2 R (a :: l) (b :: m)
theorem All2.mono {α β : Type} {R S : α → β → Prop} (f : ∀ a b, R a b → S a b) {l : List α} {m : List β} (h : All2 R l m) : All2 S l m := by
  induction h with
  | nil => exact .nil
  | cons r _ ih => exact .cons (f _ _ r) ih
theorem All2.app {α β : Type} {R : α → β → Prop} {l l' : List α} {m m' : List β} (h : All2 R l m) (h' : All2 R l' m') : All2 R (l ++ l') (m ++ m') := by
  induction h with
  | nil => exact h'
  | cons r _ ih => exact .cons r ih
theorem All2.snoc {α β : Type} {R : α → β → Prop} {l : List α} {m : List β} {a : α} {b : β} (h : All2 R l m) (r : R a b) : All2 R (l ++ [a]) (m ++ [b]) := h.app (.cons r .nil)
theorem All2.len {α β : Type} {R : α → β → Prop} {l : List α} {m : List β} (h : All2 R l m) : l.length = m.length := by
  induction h with
  | nil => rfl
  | cons _ _ ih => rw [List.length_cons, List.length_cons, ih]
theorem All2.at {α β : Type} {R : α → β → Prop} {l : List α} {m : List β} (h : All2 R l m) {i : Nat} {a : α} (e : l[i]? = some a) : ∃ b, m[i]? = some b ∧ R a b := by
  induction h generalizing i with
  | nil => rw [List.getElem?_nil] at e; cases e
  | cons r _ ih =>
    cases i with
    | zero =>
      rw [List.getElem?_cons_zero] at e
      cases e
      exact ⟨_, List.getElem?_cons_zero, r⟩
    | succ i =>
      rw [List.getElem?_cons_succ] at e
      obtain ⟨b, q, z⟩ := ih e
      exact ⟨b, by rw [List.getElem?_cons_succ]; exact q, z⟩
theorem All2.at2 {α β : Type} {R : α → β → Prop} {l : List α} {m : List β} (h : All2 R l m) {i : Nat} {b : β} (e : m[i]? = some b) : ∃ a, l[i]? = some a ∧ R a b := by
  induction h generalizing i with
  | nil => rw [List.getElem?_nil] at e; cases e
  | cons r _ ih =>
    cases i with
    | zero =>
      rw [List.getElem?_cons_zero] at e
      cases e
      exact ⟨_, List.getElem?_cons_zero, r⟩
    | succ i =>
      rw [List.getElem?_cons_succ] at e
      obtain ⟨b, q, z⟩ := ih e
      exact ⟨b, by rw [List.getElem?_cons_succ]; exact q, z⟩
theorem take_next {α : Type} {l : List α} {i : Nat} {x : α} (h : l[i]? = some x) : l.take (i + 1) = l.take i ++ [x] := by
  rw [List.take_add_one, h]
  rfl
/-! The rows -/
theorem rows_succ (n : Nat) : rows (n + 1) = (rows n).map (fun l => false :: l) ++ (rows n).map (fun l => true :: l) := by
  show [false, true].flatMap (fun b => (rows n).map fun l => b :: l) = _
  simp
theorem rows_count : ∀ n, (rows n).length = 2 ^ n
  | 0 => rfl
  | n + 1 => by rw [rows_succ, List.length_append, List.length_map, List.length_map, rows_count n, Nat.pow_succ]; omega
theorem rows_first : ∀ n, ∃ rest, rows n = List.replicate n false :: rest
  | 0 => ⟨[], rfl⟩
  | n + 1 => by
    obtain ⟨r, e⟩ := rows_first n
    exact ⟨r.map (fun l => false :: l) ++ (rows n).map (fun l => true :: l), by rw [rows_succ, e]; rfl⟩
theorem rows_16 {n : Nat} (h : n ≤ 4) : (rows n).length ≤ 16 := by
  rw [rows_count]
  exact Nat.le_trans (Nat.pow_le_pow_right (by decide) h) (by decide)
/-! The best rule, over the rows that part each group -/
def ratesC (k : Nat) (c : Cells) (r : List Bool) : List (Option Rat) := (List.range 6).map fun i => rateC k c r (i + 1)
def partC (k : Nat) (c : Cells) : List (List Bool × List (Option Rat)) := ((rows k).filter (goodC k c)).map fun r => (r, ratesC k c r)
def sameTo (os ps : List (Option Rat)) (i : Nat) : List Nat := (List.range i).filter fun q => sameO (os.getD q none) (ps.getD q none)
theorem sameTo_yes {os ps : List (Option Rat)} {i : Nat} (h : sameO (os.getD i none) (ps.getD i none) = true) : sameTo os ps (i + 1) = sameTo os ps i ++ [i] := by
  unfold sameTo
  rw [List.range_succ, List.filter_append]
  simp only [List.filter_cons, h, List.filter_nil, if_true]
theorem sameTo_not {os ps : List (Option Rat)} {i : Nat} (h : sameO (os.getD i none) (ps.getD i none) = false) : sameTo os ps (i + 1) = sameTo os ps i := by
  unfold sameTo
  rw [List.range_succ, List.filter_append]
  simp only [List.filter_cons, h, List.filter_nil, List.append_nil, Bool.false_eq_true, if_false]
theorem sameTo_len (os ps : List (Option Rat)) (i : Nat) : (sameTo os ps i).length ≤ i := by
  unfold sameTo
  have := List.length_filter_le (fun q => sameO (os.getD q none) (ps.getD q none)) (List.range i)
  rw [List.length_range] at this
  exact this
theorem rates_len (k : Nat) (c : Cells) (r : List Bool) : (ratesC k c r).length = 6 := by
  unfold ratesC
  rw [List.length_map, List.length_range]
theorem rates_at {k : Nat} {c : Cells} {r : List Bool} {i : Nat} (h : i < 6) : (ratesC k c r).getD i none = rateC k c r (i + 1) := by
  unfold ratesC
  simp [h]
theorem cnt_same (k : Nat) (c0 c1 : Cells) (a b : List Bool) : (sameTo (ratesC k c0 a) (ratesC k c1 b) 6).length = cnt k c0 c1 a b := by
  unfold sameTo cnt
  have e7 : List.range 7 = 0 :: (List.range 6).map Nat.succ := rfl
  rw [e7, List.filter_cons]
  have z : ((0 : Nat) != 0 && sameO (rateC k c0 a 0) (rateC k c1 b 0)) = false := rfl
  rw [z, if_neg Bool.false_ne_true, List.filter_map, List.length_map]
  congr 1
abbrev Part := List Bool × List (Option Rat)
def inStep (x : Part) (m : Best) (y : Part) : Best := better m (sameTo x.2 y.2 6).length [x.1, y.1]
def outStep (l : List Part) (m : Best) (x : Part) : Best := l.foldl (inStep x) m
theorem best_P (k : Nat) (c0 c1 : Cells) : bestC k c0 c1 = (partC k c0).foldl (outStep (partC k c1)) none := by
  unfold bestC partC
  rw [List.foldl_map, foldl_filter]
  refine foldl_congr (fun m a => ?_) _ _
  cases g0 : goodC k c0 a with
  | false => simp only [Bool.false_eq_true, if_false]
  | true =>
    simp only [if_true]
    unfold outStep
    rw [List.foldl_map, foldl_filter]
    refine foldl_congr (fun m b => ?_) _ _
    unfold inStep
    rw [cnt_same]
theorem part_len {k : Nat} (c : Cells) (h : k ≤ 4) : (partC k c).length ≤ 16 := by
  unfold partC
  rw [List.length_map]
  exact Nat.le_trans (List.length_filter_le _ _) (rows_16 h)
theorem part_mem {k : Nat} {c : Cells} {x : Part} (h : x ∈ partC k c) : x.1.length = k ∧ x.2.length = 6 := by
  unfold partC at h
  obtain ⟨r, hr, rfl⟩ := List.mem_map.mp h
  exact ⟨rows_len k r (List.mem_filter.mp hr).1, rates_len _ _ _⟩
theorem foldl_next {α β : Type} (f : β → α → β) {l : List α} {i : Nat} {x : α} (h : l[i]? = some x) (m : β) : (l.take (i + 1)).foldl f m = f ((l.take i).foldl f m) x := by
  rw [take_next h, List.foldl_append]
  rfl
theorem filter_next {α : Type} (p : α → Bool) {l : List α} {i : Nat} {x : α} (h : l[i]? = some x) : (l.take (i + 1)).filter p = if p x then (l.take i).filter p ++ [x] else (l.take i).filter p := by
  rw [take_next h, List.filter_append]
  cases e : p x <;> simp [e]
theorem map_next {α β : Type} (f : α → β) {l : List α} {i : Nat} {x : α} (h : l[i]? = some x) : (l.take (i + 1)).map f = (l.take i).map f ++ [f x] := by
  rw [take_next h, List.map_append]
  rfl
end TG

set_option Elab.async false
set_option maxRecDepth 100000
set_option maxHeartbeats 2000000
namespace TG
open PySem PySem.Spec PyProof.Rows L2
def top (i : Nat) : Stmt := PySem.Challenge.pw_twogroups_s01_answers.main.body.getD i (.Pass ⟨0, 0, 0, 0⟩)
/-- an if whose test is known -/
theorem ifT {c : Bool} {A B : Prop} (hc : c = true) (h : A) : if c = true then A else B := by
  rw [if_pos hc]
  exact h
theorem ifF {c : Bool} {A B : Prop} (hc : c = false) (h : B) : if c = true then A else B := by
  rw [hc, if_neg Bool.false_ne_true]
  exact h
theorem Same.tup {H H' : Hp} {K : PySem.W.Frag} {a : Addr} {xs : List V} (e : Same H H') (h : SqT K H a xs) : SqT K H' a xs := by
  rcases h with (h | ⟨o, h⟩) | h
  · exact .inl (.inl (e _ _ h))
  · exact .inl (.inr ⟨o, e _ _ h⟩)
  · exact .inr h
theorem Same.new {H : Hp} {p : Addr} {o : HO} (h : H p = Option.none) : Same H (upd H p o) := fun b q e => by
  rw [upd_ne (ne_of_none e h)]
  exact e
theorem new_at {H G : Hp} {p : Addr} {o : HO} (hp : H p = Option.none) (e : upd H p o = G) : Same H G ∧ G p = some o := by
  subst e
  exact ⟨Same.new hp, upd_same⟩
end TG

set_option Elab.async false
set_option maxRecDepth 100000
set_option maxHeartbeats 2000000
namespace TG
open PySem PySem.Spec PyProof.Rows L2
abbrev sShort : Stmt := top 3
abbrev nShort : List Str := ["upper", "lower", "shared", "rest", "left_over"]
theorem scShort : FnScope nShort ["upper", "lower"] (defScope sShort) := ⟨rfl, rfl, rfl, by decide +kernel, rfl, by decide +kernel, by decide +kernel⟩
def fracV (r : Rat) : List V := [.int r.num, .int (r.den : Int)]
def spShort : Sp := fun vs H Q _ => ∃ (u l : Int), vs = [.int u, .int l] ∧ 1 ≤ l ∧ l < 1073741824 ∧
  ∀ H' p, Same H H' → H p = Option.none → H' p = some (.tup (fracV (mkRat u l.toNat))) → Q (.ref p) H'
section
variable {P : Program} {w : World} {K : PySem.W.Frag} {mg : Str → Option Value} {base : Heap}
theorem ok_short {f : Addr} {fd : FuncData} (F : Fun K "shortened" "shortened" sShort f fd) (mAbs : mg "abs" = Option.none) : FnOk P w K mg base CX0 1 f fd ["upper", "lower"] spShort := by
  refine F.ok scShort (fun vs H Q E h => ?_) (fun cdv A outer s H vs Q E hr h => ?_)
  · obtain ⟨u, l, rfl, _⟩ := h
    rfl
  · refine ⟨_, pss_cons (ps_set (i := 2) scShort.nd rfl (Or.inl rfl) (pv 1))
      (pss_cons (ps_set (i := 3) scShort.nd rfl (Or.inl rfl) (pe_callB call_abs (by rfl) mAbs (by decide +kernel) (pa_cons (pv 0) pa_nil)))
      (pss_cons (ps_while PassesOwn.never (pt_cmpR op_gt (pv 3) pe_int (nomark _))
        (pss_cons (ps_set (i := 4) scShort.nd rfl (Or.inl rfl) (pe_op op_modN (pv 2) (pv 3)))
        (pss_cons (ps_set (i := 2) scShort.nd rfl (Or.inl rfl) (pv 3))
        (pss_one (ps_set (i := 3) scShort.nd rfl (Or.inl rfl) (pv 4))))))
      (pss_one (ps_ret (pe_tup (pa_cons (pe_op op_fdivN (pv 0) (pv 2)) (pa_cons (pe_op op_fdivN (pv 1) (pv 2)) pa_nil))))))), ?_⟩
    obtain ⟨u, l, rfl, h1, h2, k⟩ := h
    refine ⟨_, rfl, _, rfl, _, rfl, ?_⟩
    refine while_by (fun σ H' => H' = H ∧ ∃ (a b : Int) (x : Option V), σ = [some (.int u), some (.int l), some (.int a), some (.int b), x] ∧ 0 < a ∧ 0 ≤ b ∧ Nat.gcd a.toNat b.toNat = Nat.gcd l.toNat u.natAbs)
      (fun σ _ => match (σ[3]?).getD Option.none with | some (V.int b) => b.toNat | _ => 0) ?_ ?_ ?_
    · refine ⟨rfl, l, if u < 0 then -u else u, Option.none, rfl, by omega, by split <;> omega, ?_⟩
      congr 1
      split <;> omega
    · rintro σ H' ⟨rfl, a, b, x, rfl, ha, hb, hg⟩
      refine ⟨_, rfl, _, _, rfl, rfl, _, rfl, ?_⟩
      by_cases c : 0 < b
      · refine ifT (decide_eq_true c) ?_
        refine ⟨_, rfl, _, rfl, _, _, rfl, rfl, by omega, ?_⟩
        refine ⟨_, rfl, _, rfl, ?_⟩
        refine ⟨⟨rfl, b, a.fmod b, some (.int (a.fmod b)), rfl, c, (fmod_bounds c).1, ?_⟩, ?_⟩
        · rw [gcd_turn ha c, hg]
        · show (a.fmod b).toNat < b.toNat
          have := fmod_bounds (a := a) c
          omega
      · refine ifF (decide_eq_false c) ?_
        have hb0 : b = 0 := by omega
        subst hb0
        have hg' : a.toNat = Nat.gcd l.toNat u.natAbs := by
          rw [← hg]
          exact (Nat.gcd_zero_right _).symm
        have ea : a = (Nat.gcd l.toNat u.natAbs : Int) := by omega
        have hle := Nat.gcd_le_left u.natAbs (show 0 < l.toNat by omega)
        have hd : CDivN u a ∧ CDivN l a := ⟨⟨by omega, by omega⟩, ⟨by omega, by omega⟩⟩
        refine ⟨_, rfl, _, rfl, _, _, rfl, rfl, hd.1, _, rfl, _, rfl, _, _, rfl, rfl, hd.2, (by show 2 ≤ sizeLine; decide), fun p hp => ?_⟩
        refine k _ p (Same.new hp) hp ?_
        rw [upd_same, ea]
        show some (HO.tup [V.int (u.fdiv _), V.int (l.fdiv _)]) = _
        rw [short_num h1, short_den h1]
        rfl
    · rintro σ H Q Q' hq ⟨v, e, i, j, e1, e2, b, e3, q⟩
      exact ⟨v, e, i, j, e1, e2, b, e3, hq _ _ q⟩
end
end TG

set_option Elab.async false
set_option maxRecDepth 100000
set_option maxHeartbeats 2000000
namespace TG
open PySem PySem.Spec PyProof.Rows L2
abbrev sDiff : Stmt := top 4
abbrev nDiff : List Str := ["first", "second", "upper"]
theorem scDiff : FnScope nDiff ["first", "second"] (defScope sDiff) := ⟨rfl, rfl, rfl, by decide +kernel, rfl, by decide +kernel, by decide +kernel⟩
def spDiff (K : PySem.W.Frag) : Sp := fun vs H Q _ => ∃ (a b : Addr) (x y : Rat), vs = [.ref a, .ref b] ∧ SqT K H a (fracV x) ∧ SqT K H b (fracV y) ∧ x.den ≤ 792 ∧ y.den ≤ 792 ∧
  ∀ H' p, Same H H' → H p = Option.none → H' p = some (.tup (fracV (x - y))) → Q (.ref p) H'
section
variable {P : Program} {w : World} {K : PySem.W.Frag} {mg : Str → Option Value} {base : Heap}
theorem ok_diff {f fS : Addr} {fd fdS : FuncData} (F : Fun K "difference" "difference" sDiff f fd) (FS : FnOk P w K mg base CX0 1 fS fdS ["upper", "lower"] spShort) (bS : Binds K fdS ["upper", "lower"] []) (kS : PySem.W.keepIn K (.ref fS) = true)
    (gS : mg "shortened" = some (.ref fS)) : FnOk P w K mg base CX0 2 f fd ["first", "second"] (spDiff K) := by
  refine F.ok scDiff (fun vs H Q E h => ?_) (fun cdv A outer s H vs Q E hr h => ?_)
  · obtain ⟨a, b, x, y, rfl, _⟩ := h
    rfl
  · refine ⟨_, pss_cons (ps_set (i := 2) scDiff.nd rfl (Or.inl rfl) (pe_op op_sub (pe_op op_mul (pe_ix ix_tup (pv 0) pe_int (fun _ _ => rfl)) (pe_ix ix_tup (pv 1) pe_int (fun _ _ => rfl)))
        (pe_op op_mul (pe_ix ix_tup (pv 1) pe_int (fun _ _ => rfl)) (pe_ix ix_tup (pv 0) pe_int (fun _ _ => rfl)))))
      (pss_one (ps_ret (pe_call FS hr rfl gS kS bS .nil pass0 (pa_cons (pv 2) (pa_cons (pe_op op_mul (pe_ix ix_tup (pv 0) pe_int (fun _ _ => rfl)) (pe_ix ix_tup (pv 1) pe_int (fun _ _ => rfl))) pa_nil))))), ?_⟩
    obtain ⟨a, b, x, y, rfl, ha, hb, hx, hy, k⟩ := h
    have dx := den_pos x
    have dy := den_pos y
    refine ⟨_, rfl, a, _, _, _, rfl, rfl, ha, rfl, _, rfl, b, _, _, _, rfl, rfl, hb, rfl, _, _, rfl, rfl, .inr ⟨by omega, by omega⟩, ?_⟩
    refine ⟨_, rfl, b, _, _, _, rfl, rfl, hb, rfl, _, rfl, a, _, _, _, rfl, rfl, ha, rfl, _, _, rfl, rfl, .inr ⟨by omega, by omega⟩, _, _, rfl, rfl, ?_⟩
    refine ⟨_, rfl, _, rfl, a, _, _, _, rfl, rfl, ha, rfl, _, rfl, b, _, _, _, rfl, rfl, hb, rfl, _, _, rfl, rfl, .inr ⟨by omega, by omega⟩, ?_⟩
    have m1 : (x.den : Int) * (y.den : Int) ≤ 792 * 792 := by
      have := Nat.mul_le_mul hx hy
      rw [← Int.natCast_mul]
      omega
    have m0 : 1 ≤ (x.den : Int) * (y.den : Int) := by
      have := Nat.mul_pos x.den_pos y.den_pos
      rw [← Int.natCast_mul]
      omega
    refine ⟨_, _, rfl, m0, by omega, fun H' p hs hp hq => k H' p hs hp ?_⟩
    rw [hq, sub_mk]
end
end TG

set_option Elab.async false
set_option maxRecDepth 100000
set_option maxHeartbeats 2000000
namespace TG
open PySem PySem.Spec PyProof.Rows L2
abbrev sSum : Stmt := top 5
abbrev nSum : List Str := ["numbers", "row", "score"]
theorem scSum : FnScope nSum ["numbers", "row"] (defScope sSum) := ⟨rfl, rfl, rfl, by decide +kernel, rfl, by decide +kernel, by decide +kernel⟩
def spSum (K : PySem.W.Frag) : Sp := fun vs H Q _ => ∃ (a b : Addr) (xs : List Int) (r : List Bool), vs = [.ref a, .ref b] ∧ SqL K H a (xs.map V.int) ∧ SqL K H b ((zb r).map V.int) ∧ r.length ≤ 4 ∧ xs.length = r.length ∧
  ∀ H', Same H H' → Q (.int (picked xs r r.length).sum) H'
section
variable {P : Program} {w : World} {K : PySem.W.Frag} {mg : Str → Option Value} {base : Heap}
theorem ok_sum {f : Addr} {fd : FuncData} (F : Fun K "chosen_sum" "chosen_sum" sSum f fd) (mS : mg "sum" = Option.none) (mR : mg "range" = Option.none) (mL : mg "len" = Option.none) : FnOk P w K mg base CX0 1 f fd ["numbers", "row"] (spSum K) := by
  refine F.ok scSum (fun vs H Q E h => ?_) (fun cdv A outer s H vs Q E hr h => ?_)
  · obtain ⟨a, b, x, y, rfl, _⟩ := h
    rfl
  · refine ⟨_, pss_one (ps_ret (pe_callB (cr_sum rfl) (by rfl) mS (by decide +kernel) (pa_cons
      (pe_lc (own := [("score", 2)]) (g := gName 2) (tt := tTest (tOp rEq (tOp (rIxL K) (tVar 1) (tVar 2)) (tC (.int 1)))) (te := tOp (rIxL K) (tVar 0) (tVar 2)) (by rfl) scSum.nd (pi_range1 (by rfl) mR (pa_cons (pe_callB call_len_seq (by rfl) mL PySem.boot_len (pa_cons (pv 1) pa_nil)) pa_nil))
        (blkOk_by (own := [("score", 2)]) (N := nSum) (sc := defScope sSum) (by decide +kernel)) (fun _ _ _ _ _ => pg_name (i := 2) scSum.nd rfl (Or.inl rfl))
        (fun _ _ _ _ _ => pts_one (pt_cmpR op_eq (pe_ix ix_list (pv 1) (pv 2) (fun _ _ => rfl)) pe_int (nomark _))) (fun _ _ _ _ _ => pe_ix ix_list (pv 0) (pv 2) (fun _ _ => rfl))) pa_nil))), ?_⟩
    obtain ⟨a, b, xs, r, rfl, ha, hb, hr4, hxr, k⟩ := h
    refine ⟨_, rfl, b, _, rfl, .inl hb, _, rfl, ?_⟩
    have hlen : (((zb r).map V.int).length : Int) = (r.length : Int) := by rw [List.length_map, zb_len]
    rw [hlen]
    refine ⟨by omega, by omega, fun D hD => ?_⟩
    refine lc_range (lo := 0) (n := _) (fun i H' => Same H H' ∧ H' D = some (.lst ((picked xs r i).map V.int))) ⟨Same.new hD, upd_same⟩ ?_ ?_
    · rintro i H' hi ⟨hs, hd⟩
      have hi : i < r.length := by omega
      have i0 : (0 : Int) + (i : Int) = (i : Int) := by omega
      rw [i0]
      have eb : ((zb r).map V.int)[i]? = some (.int (if r.getD i false then 1 else 0)) := by rw [List.getElem?_map, zb_get hi]; rfl
      have ea : (xs.map V.int)[i]? = some (.int (xs.getD i 0)) := by
        rw [List.getElem?_map, List.getD_eq_getElem?_getD, List.getElem?_eq_getElem (by omega)]; rfl
      refine ⟨rfl, ?_⟩
      refine ⟨_, rfl, _, rfl, b, _, _, _, rfl, rfl, hs.seq hb, atI_nat eb, rfl, _, rfl, ?_⟩
      have hp := picked_len xs r i
      cases c : r.getD i false with
      | true =>
        refine ifT (by rfl) ?_
        refine ⟨_, rfl, _, rfl, a, _, _, _, rfl, rfl, hs.seq ha, atI_nat ea, _, hd, ?_, ?_, ?_⟩
        · rw [List.length_map]
          exact small1000 (by omega)
        · intro q o e
          rw [upd_ne (ne_of_none e hD)]
          exact hs _ _ e
        · rw [upd_same, picked_yes c, List.map_append]
          rfl
      | false =>
        refine ifF (by rfl) ?_
        rw [picked_not c]
        exact ⟨hs, hd⟩
    · rintro H' ⟨hs, hd⟩
      exact ⟨D, _, rfl, SqL.of hd, k H' hs⟩
end
end TG

set_option Elab.async false
set_option maxRecDepth 100000
set_option maxHeartbeats 2000000
namespace TG
open PySem PySem.Spec PyProof.Rows L2
abbrev sRateOf : Stmt := top 7
abbrev nRateOf : List Str := ["so", "not_so", "row", "kind", "all_so", "all_not_so", "everyone", "rightly_chosen", "wrongly_chosen", "chosen", "rightly_left", "pairs", "pair"]
theorem scRateOf : FnScope nRateOf ["so", "not_so", "row", "kind"] (defScope sRateOf) := ⟨rfl, rfl, rfl, by decide +kernel, rfl, by decide +kernel, by decide +kernel⟩
/-- what a rate is answered as: None, or a new pair -/
def Told (H : Hp) (o : Option Rat) (Q : VK) : Prop := ∀ H', Same H H' → match o with
  | Option.none => Q .non H'
  | some x => ∀ p, H p = Option.none → H' p = some (.tup (fracV x)) → Q (.ref p) H'
/-- a rate in the heap -/
def FrAt (H : Hp) (v : V) : Option Rat → Prop
  | Option.none => v = .non
  | some x => ∃ p, v = .ref p ∧ H p = some (.tup (fracV x))
theorem FrAt.same {H H' : Hp} {v : V} {o : Option Rat} (h : FrAt H v o) (s : Same H H') : FrAt H' v o := by
  cases o with
  | none => exact h
  | some x => obtain ⟨p, e, q⟩ := h; exact ⟨p, e, s _ _ q⟩
theorem told_fr {H : Hp} {o : Option Rat} {Q : VK} (k : ∀ H' v, Same H H' → FrAt H' v o → Q v H') : Told H o Q := fun H' s => by
  cases o with
  | none => exact k H' .non s rfl
  | some x => exact fun p _ hq => k H' (.ref p) s ⟨p, rfl, hq⟩
def spRateOf (K : PySem.W.Frag) : Sp := fun vs H Q _ => ∃ (a b d : Addr) (k : Nat) (c : Cells) (r : List Bool) (q : Nat), vs = [.ref a, .ref b, .ref d, .int (q : Int)] ∧
  SqL K H a ((zs c).map V.int) ∧ SqL K H b ((zn c).map V.int) ∧ SqL K H d ((zb r).map V.int) ∧ CellsOk k c ∧ r.length = k ∧ k ≤ 4 ∧ q < 7 ∧ Told H (rateC k c r q) Q
theorem pairs_pick {H : Hp} {t : Nat → Addr} {z : List (Int × Int)} {q : Nat} {x : Int × Int} (hz : z[q]? = some x) (hl : z.length = 7)
    (h : ∀ i, i < 7 → ∀ y, z[i]? = some y → H (t i) = some (.tup [.int y.1, .int y.2])) (hq : q < 7) :
    atI [V.ref (t 0), V.ref (t 1), V.ref (t 2), V.ref (t 3), V.ref (t 4), V.ref (t 5), V.ref (t 6)] (q : Int) = some (.ref (t q)) ∧ H (t q) = some (.tup [.int x.1, .int x.2]) := by
  refine ⟨atI_nat ?_, h q hq x hz⟩
  match q, hq with
  | 0, _ => rfl
  | 1, _ => rfl
  | 2, _ => rfl
  | 3, _ => rfl
  | 4, _ => rfl
  | 5, _ => rfl
  | 6, _ => rfl
section
variable {P : Program} {w : World} {K : PySem.W.Frag} {mg : Str → Option Value} {base : Heap}
theorem ok_rateOf {f fS fC : Addr} {fd fdS fdC : FuncData} (F : Fun K "rate_of" "rate_of" sRateOf f fd) (mS : mg "sum" = Option.none)
    (FS : FnOk P w K mg base CX0 1 fS fdS ["upper", "lower"] spShort) (bS : Binds K fdS ["upper", "lower"] []) (kS : PySem.W.keepIn K (.ref fS) = true) (gS : mg "shortened" = some (.ref fS))
    (FC : FnOk P w K mg base CX0 1 fC fdC ["numbers", "row"] (spSum K)) (bC : Binds K fdC ["numbers", "row"] []) (kC : PySem.W.keepIn K (.ref fC) = true) (gC : mg "chosen_sum" = some (.ref fC)) :
    FnOk P w K mg base CX0 2 f fd ["so", "not_so", "row", "kind"] (spRateOf K) := by
  refine F.ok scRateOf (fun vs H Q E h => ?_) (fun cdv A outer s H vs Q E hr h => ?_)
  · obtain ⟨a, b, d, k, c, r, q, rfl, _⟩ := h
    rfl
  · have nd := scRateOf.nd
    refine ⟨_, pss_cons (ps_set (i := 4) nd rfl (Or.inl rfl) (pe_callB (cr_sum rfl) (by rfl) mS (by decide +kernel) (pa_cons (pv 0) pa_nil)))
      (pss_cons (ps_set (i := 5) nd rfl (Or.inl rfl) (pe_callB (cr_sum rfl) (by rfl) mS (by decide +kernel) (pa_cons (pv 1) pa_nil)))
      (pss_cons (ps_set (i := 6) nd rfl (Or.inl rfl) (pe_op op_add (pv 4) (pv 5)))
      (pss_cons (ps_set (i := 7) nd rfl (Or.inl rfl) (pe_call FC hr rfl gC kC bC .nil pass0 (pa_cons (pv 0) (pa_cons (pv 2) pa_nil))))
      (pss_cons (ps_set (i := 8) nd rfl (Or.inl rfl) (pe_call FC hr rfl gC kC bC .nil pass0 (pa_cons (pv 1) (pa_cons (pv 2) pa_nil))))
      (pss_cons (ps_set (i := 9) nd rfl (Or.inl rfl) (pe_op op_add (pv 7) (pv 8)))
      (pss_cons (ps_set (i := 10) nd rfl (Or.inl rfl) (pe_op op_sub (pv 5) (pv 8)))
      (pss_cons (ps_set (i := 11) nd rfl (Or.inl rfl) (pe_tup
        (pa_cons (pe_tup (pa_cons (pv 4) (pa_cons (pv 6) pa_nil)))
        (pa_cons (pe_tup (pa_cons (pv 9) (pa_cons (pv 6) pa_nil)))
        (pa_cons (pe_tup (pa_cons (pv 7) (pa_cons (pv 4) pa_nil)))
        (pa_cons (pe_tup (pa_cons (pv 8) (pa_cons (pv 5) pa_nil)))
        (pa_cons (pe_tup (pa_cons (pv 7) (pa_cons (pv 9) pa_nil)))
        (pa_cons (pe_tup (pa_cons (pv 10) (pa_cons (pe_op op_sub (pv 6) (pv 9)) pa_nil)))
        (pa_cons (pe_tup (pa_cons (pe_op op_add (pv 7) (pv 10)) (pa_cons (pv 6) pa_nil))) pa_nil)))))))))
      (pss_cons (ps_set (i := 12) nd rfl (Or.inl rfl) (pe_ix ix_tup (pv 11) (pv 3) (fun _ _ => rfl)))
      (pss_cons (ps_if (pt_cmpR op_eq (pe_ix ix_tup (pv 12) pe_int (fun _ _ => rfl)) pe_int (nomark _)) (pss_one (ps_ret pe_non)) pss_nil)
      (pss_one (ps_ret (pe_call FS hr rfl gS kS bS .nil pass0 (pa_cons (pe_ix ix_tup (pv 12) pe_int (fun _ _ => rfl)) (pa_cons (pe_ix ix_tup (pv 12) pe_int (fun _ _ => rfl)) pa_nil)))))))))))))), ?_⟩
    obtain ⟨a, b, d, k, c, r, q, rfl, ha, hb, hd, hc, hrk, hk, hq, hQ⟩ := h
    have lc : c.length = k := hc.1
    refine ⟨_, rfl, a, _, rfl, ha, _, rfl, b, _, rfl, hb, _, rfl, _, rfl, _, _, rfl, rfl, _, rfl, _, rfl, ?_⟩
    refine ⟨a, d, zs c, r, rfl, ha, hd, by omega, by rw [zs_len]; omega, fun H1 s1 => ?_⟩
    refine ⟨_, rfl, _, rfl, b, d, zn c, r, rfl, s1.seq hb, s1.seq hd, by omega, by rw [zn_len]; omega, fun H2 s2 => ?_⟩
    have s12 : Same H H2 := s1.trans s2
    rw [hrk, picked_zs, picked_zn, zs_sum lc, zn_sum lc]
    refine ⟨_, rfl, _, rfl, _, _, rfl, rfl, _, rfl, _, rfl, _, _, rfl, rfl, ?_⟩
    refine ⟨_, rfl, _, rfl, (by show 2 ≤ sizeLine; decide), fun t0 h0 => ?_⟩
    generalize e0 : upd H2 t0 _ = G0
    have a0 := new_at h0 e0
    refine ⟨_, rfl, _, rfl, (by show 2 ≤ sizeLine; decide), fun t1 h1 => ?_⟩
    generalize e1 : upd G0 t1 _ = G1
    have a1 := new_at h1 e1
    refine ⟨_, rfl, _, rfl, (by show 2 ≤ sizeLine; decide), fun t2 h2 => ?_⟩
    generalize e2 : upd G1 t2 _ = G2
    have a2 := new_at h2 e2
    refine ⟨_, rfl, _, rfl, (by show 2 ≤ sizeLine; decide), fun t3 h3 => ?_⟩
    generalize e3 : upd G2 t3 _ = G3
    have a3 := new_at h3 e3
    refine ⟨_, rfl, _, rfl, (by show 2 ≤ sizeLine; decide), fun t4 h4 => ?_⟩
    generalize e4 : upd G3 t4 _ = G4
    have a4 := new_at h4 e4
    refine ⟨_, rfl, _, rfl, _, rfl, _, _, rfl, rfl, (by show 2 ≤ sizeLine; decide), fun t5 h5 => ?_⟩
    generalize e5 : upd G4 t5 _ = G5
    have a5 := new_at h5 e5
    refine ⟨_, rfl, _, rfl, _, _, rfl, rfl, _, rfl, (by show 2 ≤ sizeLine; decide), fun t6 h6 => ?_⟩
    generalize e6 : upd G5 t6 _ = G6
    have a6 := new_at h6 e6
    refine ⟨(by show 7 ≤ sizeLine; decide), fun p hp => ?_⟩
    generalize e7 : upd G6 p _ = G7
    have a7 := new_at hp e7
    have e := pairs_at k c r q hq
    have b6 : Same G6 G7 := a7.1
    have b5 : Same G5 G7 := a6.1.trans b6
    have b4 : Same G4 G7 := a5.1.trans b5
    have b3 : Same G3 G7 := a4.1.trans b4
    have b2 : Same G2 G7 := a3.1.trans b3
    have b1 : Same G1 G7 := a2.1.trans b2
    have b0 : Same G0 G7 := a1.1.trans b1
    have sG : Same H G7 := (s12.trans a0.1).trans b0
    have pk := pairs_pick (H := G7) (t := fun i => match i with | 0 => t0 | 1 => t1 | 2 => t2 | 3 => t3 | 4 => t4 | 5 => t5 | _ => t6) e rfl (fun i hi y hy => by
      match i, hi with
      | 0, _ => cases hy; exact b0 _ _ a0.2
      | 1, _ => cases hy; exact b1 _ _ a1.2
      | 2, _ => cases hy; exact b2 _ _ a2.2
      | 3, _ => cases hy; exact b3 _ _ a3.2
      | 4, _ => cases hy; exact b4 _ _ a4.2
      | 5, _ => cases hy; exact b5 _ _ a5.2
      | 6, _ => cases hy; exact b6 _ _ a6.2) hq
    generalize (match q with | 0 => t0 | 1 => t1 | 2 => t2 | 3 => t3 | 4 => t4 | 5 => t5 | _ => t6) = tq at pk
    refine ⟨_, rfl, _, rfl, p, _, _, _, rfl, rfl, SqT.of a7.2, pk.1, ?_⟩
    refine ⟨_, rfl, tq, _, _, _, rfl, rfl, SqT.of pk.2, rfl, rfl, _, rfl, ?_⟩
    by_cases z : (pairN k c r q).2 = 0
    · refine ifT (by rw [z]; rfl) ?_
      have := hQ G7 sG
      rw [rateC_none z] at this
      exact this
    · refine ifF (decide_eq_false (fun h => z (by injection h; omega))) ?_
      refine ⟨_, rfl, tq, _, _, _, rfl, rfl, SqT.of pk.2, rfl, _, rfl, tq, _, _, _, rfl, rfl, SqT.of pk.2, rfl, ?_⟩
      have le := pair_le hc hk r q
      refine ⟨_, _, rfl, by omega, by omega, fun H' p' hs hp' hq' => ?_⟩
      have := hQ H' (sG.trans hs)
      rw [rateC_some z] at this
      exact this p' (sG.free hp') (by rw [hq', Int.toNat_natCast])
end
end TG

set_option Elab.async false
set_option maxRecDepth 100000
set_option maxHeartbeats 2000000
namespace TG
open PySem PySem.Spec PyProof.Rows L2
open Krdf (Table)
/-! The table in the heap -/
structure Tad where
  dx : Addr
  a : Addr
  b : Addr
  c : Addr
  s : Nat → Addr
  n : Nat → Addr
  r : Nat → Addr
def tabF (k : Nat) (A : Tad) : List (Str × V) := [("scores", .int (k : Int)), ("so", .ref A.a), ("not_so", .ref A.b), ("rows", .ref A.c)]
def Tad.fp (A : Tad) (p : Addr) : List Addr := [p, A.a, A.b, A.c, A.s 0, A.s 1, A.n 0, A.n 1, A.r 0, A.r 1]
/-- the table's objects: three lists of two lists each -/
structure Raw (C : Addr) (H : Hp) (p : Addr) (A : Tad) (k : Nat) (S N R : Nat → List V) : Prop where
  ins : H p = some (.ins C A.dx (tabF k A))
  ha : H A.a = some (.lst [.ref (A.s 0), .ref (A.s 1)])
  hb : H A.b = some (.lst [.ref (A.n 0), .ref (A.n 1)])
  hc : H A.c = some (.lst [.ref (A.r 0), .ref (A.r 1)])
  hs : ∀ g, g < 2 → H (A.s g) = some (.lst (S g))
  hn : ∀ g, g < 2 → H (A.n g) = some (.lst (N g))
  hr : ∀ g, g < 2 → H (A.r g) = some (.lst (R g))
  nd : (A.fp p).Nodup
theorem Raw.same {C : Addr} {H H' : Hp} {p : Addr} {A : Tad} {k : Nat} {S N R : Nat → List V} (T : Raw C H p A k S N R) (s : ∀ b o, H b = some o → b ∈ A.fp p → H' b = some o) : Raw C H' p A k S N R := by
  have m : ∀ g, g < 2 → A.s g ∈ A.fp p ∧ A.n g ∈ A.fp p ∧ A.r g ∈ A.fp p := fun g h => by
    match g, h with
    | 0, _ => simp [Tad.fp]
    | 1, _ => simp [Tad.fp]
  exact ⟨s _ _ T.ins (by simp [Tad.fp]), s _ _ T.ha (by simp [Tad.fp]), s _ _ T.hb (by simp [Tad.fp]), s _ _ T.hc (by simp [Tad.fp]),
    fun g h => s _ _ (T.hs g h) (m g h).1, fun g h => s _ _ (T.hn g h) (m g h).2.1, fun g h => s _ _ (T.hr g h) (m g h).2.2, T.nd⟩
theorem lt_two {i : Nat} (h : i < 2) : i = 0 ∨ i = 1 := by omega
theorem Raw.setS {C : Addr} {H : Hp} {p : Addr} {A : Tad} {k : Nat} {S N R : Nat → List V} (T : Raw C H p A k S N R) {g : Nat} (hg : g < 2) (l : List V) : Raw C (upd H (A.s g) (.lst l)) p A k (fun i => if i = g then l else S i) N R := by
  have nd := T.nd
  simp only [Tad.fp, List.nodup_cons, List.mem_cons, List.not_mem_nil, not_or, or_false] at nd
  obtain ⟨n1, n2, n3, n4, n5, n6, n7, n8, n9, -⟩ := nd
  obtain ⟨hins, ha, hb, hc, hs, hn, hr, hnd⟩ := T
  have h0 := hs 0 (by decide)
  have h1 := hs 1 (by decide)
  have m0 := hn 0 (by decide)
  have m1 := hn 1 (by decide)
  have k0 := hr 0 (by decide)
  have k1 := hr 1 (by decide)
  rcases lt_two hg with e | e <;> subst e
  all_goals
    refine ⟨?_, ?_, ?_, ?_, fun i hi => ?_, fun i hi => ?_, fun i hi => ?_, hnd⟩
  all_goals first | (rcases lt_two hi with e | e <;> subst e) | skip
  all_goals (clear hs hn hr hnd; simp only [upd]; grind)
theorem Raw.setN {C : Addr} {H : Hp} {p : Addr} {A : Tad} {k : Nat} {S N R : Nat → List V} (T : Raw C H p A k S N R) {g : Nat} (hg : g < 2) (l : List V) : Raw C (upd H (A.n g) (.lst l)) p A k S (fun i => if i = g then l else N i) R := by
  have nd := T.nd
  simp only [Tad.fp, List.nodup_cons, List.mem_cons, List.not_mem_nil, not_or, or_false] at nd
  obtain ⟨n1, n2, n3, n4, n5, n6, n7, n8, n9, -⟩ := nd
  obtain ⟨hins, ha, hb, hc, hs, hn, hr, hnd⟩ := T
  have h0 := hs 0 (by decide)
  have h1 := hs 1 (by decide)
  have m0 := hn 0 (by decide)
  have m1 := hn 1 (by decide)
  have k0 := hr 0 (by decide)
  have k1 := hr 1 (by decide)
  rcases lt_two hg with e | e <;> subst e
  all_goals
    refine ⟨?_, ?_, ?_, ?_, fun i hi => ?_, fun i hi => ?_, fun i hi => ?_, hnd⟩
  all_goals first | (rcases lt_two hi with e | e <;> subst e) | skip
  all_goals (clear hs hn hr hnd; simp only [upd]; grind)

def Tad.withR (A : Tad) (g : Nat) (l : Addr) : Tad := { A with r := fun i => if i = g then l else A.r i }
theorem Raw.setR {C : Addr} {H : Hp} {p l : Addr} {A : Tad} {k : Nat} {S N R : Nat → List V} (T : Raw C H p A k S N R) {g : Nat} (hg : g < 2) (row : List V) (hl : H l = Option.none) :
    Raw C (upd (upd H l (.lst row)) A.c (.lst ([V.ref (A.r 0), V.ref (A.r 1)].set g (.ref l)))) p (A.withR g l) k S N (fun i => if i = g then row else R i) := by
  have nd := T.nd
  simp only [Tad.fp, List.nodup_cons, List.mem_cons, List.not_mem_nil, not_or, or_false] at nd
  obtain ⟨n1, n2, n3, n4, n5, n6, n7, n8, n9, -⟩ := nd
  obtain ⟨hins, ha, hb, hc, hs, hn, hr, hnd⟩ := T
  have h0 := hs 0 (by decide)
  have h1 := hs 1 (by decide)
  have m0 := hn 0 (by decide)
  have m1 := hn 1 (by decide)
  have k0 := hr 0 (by decide)
  have k1 := hr 1 (by decide)
  have fr : ∀ {b : Addr} {o : HO}, H b = some o → l ≠ b := fun e q => by rw [← q, hl] at e; cases e
  have f1 := fr hins
  have f2 := fr ha
  have f3 := fr hb
  have f4 := fr hc
  have f5 := fr h0
  have f6 := fr h1
  have f7 := fr m0
  have f8 := fr m1
  have f9 := fr k0
  have f10 := fr k1
  have ex : tabF k (A.withR g l) = tabF k A := rfl
  rcases lt_two hg with e | e <;> subst e
  all_goals
    refine ⟨?_, ?_, ?_, ?_, fun i hi => ?_, fun i hi => ?_, fun i hi => ?_, ?_⟩
  all_goals first | (rcases lt_two hi with e | e <;> subst e) | skip
  all_goals (clear hs hn hr hnd fr; (first | rw [ex] | skip); simp only [upd, Tad.withR, Tad.fp, List.nodup_cons, List.mem_cons, List.not_mem_nil, not_or, or_false, List.set]; grind)
/-- the table t at p, its objects at A -/
structure TabAt (C : Addr) (H : Hp) (p : Addr) (A : Tad) (t : Table) : Prop where
  wf : Wf t
  raw : Raw C H p A t.k (fun g => (zs (t.cells.getD g [])).map V.int) (fun g => (zn (t.cells.getD g [])).map V.int) (fun g => (zb (t.rules.getD g [])).map V.int)
theorem TabAt.same {C : Addr} {H H' : Hp} {p : Addr} {A : Tad} {t : Table} (T : TabAt C H p A t) (s : Same H H') : TabAt C H' p A t := ⟨T.wf, T.raw.same fun b o e _ => s b o e⟩
theorem TabAt.ins {C : Addr} {H : Hp} {p : Addr} {A : Tad} {t : Table} (T : TabAt C H p A t) : H p = some (.ins C A.dx (tabF t.k A)) := T.raw.ins
theorem lkHit {k : Str} {v : V} {r : List (Str × V)} : List.lookup k ((k, v) :: r) = some v := by
  rw [List.lookup_cons_self]
theorem lkMiss {k g : Str} {v : V} {r : List (Str × V)} (h : (k == g) = false) : List.lookup k ((g, v) :: r) = List.lookup k r := by
  rw [List.lookup_cons, h]
theorem tf_scores (k : Nat) (A : Tad) : (tabF k A).lookup ("scores" : Str) = some (.int (k : Int)) := lkHit
theorem tf_so (k : Nat) (A : Tad) : (tabF k A).lookup ("so" : Str) = some (.ref A.a) := (lkMiss (by decide +kernel)).trans lkHit
theorem tf_not (k : Nat) (A : Tad) : (tabF k A).lookup ("not_so" : Str) = some (.ref A.b) := (lkMiss (by decide +kernel)).trans ((lkMiss (by decide +kernel)).trans lkHit)
theorem tf_rows (k : Nat) (A : Tad) : (tabF k A).lookup ("rows" : Str) = some (.ref A.c) := (lkMiss (by decide +kernel)).trans ((lkMiss (by decide +kernel)).trans ((lkMiss (by decide +kernel)).trans lkHit))
/-- a name that is none of the attributes -/
theorem tf_none (k : Nat) (A : Tad) {m : Str} (h : (["scores", "so", "not_so", "rows"] : List Str).all (fun g => !(m == g)) = true) : (tabF k A).lookup m = none := by
  simp only [List.all_cons, List.all_nil, Bool.and_true, Bool.and_eq_true, Bool.not_eq_true'] at h
  exact (lkMiss h.1).trans ((lkMiss h.2.1).trans ((lkMiss h.2.2.1).trans ((lkMiss h.2.2.2).trans rfl)))
theorem at2 {f : Nat → Addr} {g : Nat} (h : g < 2) : atI [V.ref (f 0), V.ref (f 1)] (g : Int) = some (.ref (f g)) := by
  match g, h with
  | 0, _ => rfl
  | 1, _ => rfl
/-- the class's facts -/
structure TxtT (K : PySem.W.Frag) (mg : Str → Option Value) (C : Addr) : Prop where
  cl : Cls K C
  n1 : NoAttr K C "scores"
  n2 : NoAttr K C "so"
  n3 : NoAttr K C "not_so"
  n4 : NoAttr K C "rows"
  gG : ∃ t, mg "GROUPS" = some (.int 2 t)
  gK : ∃ t, mg "KINDS" = some (.int 7 t)
abbrev sTable : Stmt := top 10
abbrev sTinit : Stmt := inClass sTable 0
abbrev sHasG : Stmt := inClass sTable 1
abbrev sHasC : Stmt := inClass sTable 2
abbrev sFits : Stmt := inClass sTable 3
abbrev sSetC : Stmt := inClass sTable 4
abbrev sSetR : Stmt := inClass sTable 5
abbrev sChoP : Stmt := inClass sTable 6
abbrev sRate : Stmt := inClass sTable 7
abbrev sBoth : Stmt := inClass sTable 8
abbrev sAlik : Stmt := inClass sTable 9
abbrev sFlip : Stmt := inClass sTable 10
abbrev sParts : Stmt := inClass sTable 11
abbrev sRuleR : Stmt := inClass sTable 12
abbrev sPartR : Stmt := inClass sTable 13
abbrev sBestR : Stmt := inClass sTable 14
theorem scHasG : FnScope ["self", "group"] ["self", "group"] (defScope sHasG) := ⟨rfl, rfl, rfl, by decide +kernel, rfl, by decide +kernel, by decide +kernel⟩
def spHasG : Sp := fun vs H Q _ => ∃ (x : V) (g : Int), vs = [x, .int g] ∧ Q (.bl (decide (g < 2))) H
section
variable {P : Program} {w : World} {K : PySem.W.Frag} {mg : Str → Option Value} {base : Heap} {C : Addr}
theorem ok_hasG {f : Addr} {fd : FuncData} (F : Fun K "has_group" "Table.has_group" sHasG f fd) (T : TxtT K mg C) : FnOk P w K mg base CX0 1 f fd ["self", "group"] spHasG := by
  refine F.ok scHasG (fun vs H Q E h => ?_) (fun cdv A outer s H vs Q E hr h => ?_)
  · obtain ⟨x, g, rfl, _⟩ := h
    rfl
  · obtain ⟨tk, gG⟩ := T.gG
    refine ⟨_, pss_one (ps_ret (pe_cmpR op_lt (pv 1) (pe_glob (v := V.int 2) rfl gG ⟨_, rfl⟩) (nomark _))), ?_⟩
    obtain ⟨x, g, rfl, k⟩ := h
    exact ⟨_, rfl, _, _, rfl, rfl, k⟩
theorem scHasC : FnScope ["self", "group", "score"] ["self", "group", "score"] (defScope sHasC) := ⟨rfl, rfl, rfl, by decide +kernel, rfl, by decide +kernel, by decide +kernel⟩
def spHasC (C : Addr) : Sp := fun vs H Q _ => ∃ (p : Addr) (A : Tad) (t : Table) (g s : Int), vs = [.ref p, .int g, .int s] ∧ TabAt C H p A t ∧ Q (.bl (decide (g < 2) && decide (s < (t.k : Int)))) H
theorem ok_hasC {f fG : Addr} {fd fdG : FuncData} (F : Fun K "has_cell" "Table.has_cell" sHasC f fd) (T : TxtT K mg C)
    (FG : FnOk P w K mg base CX0 1 fG fdG ["self", "group"] spHasG) (bG : Binds K fdG ["self", "group"] []) (mG : Meth K C "has_group" fG) : FnOk P w K mg base CX0 2 f fd ["self", "group", "score"] (spHasC C) := by
  refine F.ok scHasC (fun vs H Q E h => ?_) (fun cdv A outer s H vs Q E hr h => ?_)
  · obtain ⟨p, A, t, g, s, rfl, _⟩ := h
    rfl
  · refine ⟨_, pss_one (ps_ret (pe_and (pe_meth (pv 0) T.cl mG FG hr bG .nil pass0 (pa_cons (pv 1) pa_nil)) (pe_one (pe_cmpR op_lt (pv 2) (pe_fld (pv 0) rfl) (nomark _))))), ?_⟩
    obtain ⟨p, A, t, g, s, rfl, h, k⟩ := h
    refine ⟨_, rfl, p, _, _, rfl, h.ins, tf_none _ _ (by decide +kernel), _, rfl, _, _, rfl, _, rfl, ?_⟩
    by_cases c : g < 2
    · refine ifT (decide_eq_true c) ?_
      refine ⟨_, rfl, _, rfl, p, C, _, _, _, rfl, h.ins, T.cl, T.n1, tf_scores _ _, _, _, rfl, rfl, ?_⟩
      rw [decide_eq_true c] at k
      exact k
    · refine ifF (decide_eq_false c) ?_
      rw [decide_eq_false c] at k
      exact k
end
end TG

set_option Elab.async false
set_option maxRecDepth 100000
set_option maxHeartbeats 2000000
namespace TG
open PySem PySem.Spec PyProof.Rows L2
open Krdf (Table)
abbrev nFits : List Str := ["self", "row", "mark"]
theorem scFits : FnScope nFits ["self", "row"] (defScope sFits) := ⟨rfl, rfl, rfl, by decide +kernel, rfl, by decide +kernel, by decide +kernel⟩
def spFits (K : PySem.W.Frag) (C : Addr) : Sp := fun vs H Q _ => ∃ (p a : Addr) (A : Tad) (t : Table) (l : List Int), vs = [.ref p, .ref a] ∧ TabAt C H p A t ∧ SqL K H a (l.map V.int) ∧
  ∀ H', Same H H' → Q (.bl (decide (l.length = t.k) && l.all fun v => decide (v ≤ 1))) H'
theorem ix_nat {n j : Nat} (hj : j < n) : ixN n (j : Int) = some j := by
  unfold ixN
  rw [if_pos (Int.natCast_nonneg j), if_pos (by omega), Int.toNat_natCast]
theorem take_snoc {α : Type} {l : List α} {i : Nat} {x : α} (h : l[i]? = some x) : l.take (i + 1) = l.take i ++ [x] := by
  rw [List.take_add_one, h]
  rfl
section
variable {P : Program} {w : World} {K : PySem.W.Frag} {mg : Str → Option Value} {base : Heap} {C : Addr}
theorem ok_fits {f : Addr} {fd : FuncData} (F : Fun K "fits" "Table.fits" sFits f fd) (T : TxtT K mg C) (mL : mg "len" = Option.none) (mA : mg "all" = Option.none) : FnOk P w K mg base CX0 1 f fd ["self", "row"] (spFits K C) := by
  refine F.ok scFits (fun vs H Q E h => ?_) (fun cdv A outer s H vs Q E hr h => ?_)
  · obtain ⟨p, a, A, t, l, rfl, _⟩ := h
    rfl
  · refine ⟨_, pss_one (ps_ret (pe_and (pe_cmpR op_eq (pe_callB call_len_seq (by rfl) mL PySem.boot_len (pa_cons (pv 1) pa_nil)) (pe_fld (pv 0) rfl) (nomark _))
      (pe_one (pe_callB (cr_all rfl) (by rfl) mA (by decide +kernel) (pa_cons (pe_lc (own := [("mark", 2)]) (g := gName 2) (tt := tYes) (by rfl) scFits.nd (pi_list (pv 1))
        (blkOk_by (own := [("mark", 2)]) (N := nFits) (sc := defScope sFits) (by decide +kernel)) (fun _ _ _ _ _ => pg_name (i := 2) scFits.nd rfl (Or.inl rfl)) (fun _ _ _ _ _ => pts_nil)
        (fun _ _ _ _ _ => pe_cmpR op_le (pv 2) pe_int (nomark _))) pa_nil))))), ?_⟩
    obtain ⟨p, a, A, t, l, rfl, h, ha, k⟩ := h
    refine ⟨_, rfl, a, _, rfl, .inl ha, _, rfl, p, C, _, _, _, rfl, h.ins, T.cl, T.n1, tf_scores _ _, rfl, _, rfl, ?_⟩
    by_cases c : l.length = t.k
    · refine ifT (decide_eq_true (by rw [List.length_map, c])) ?_
      refine ⟨_, rfl, a, rfl, ⟨_, ha⟩, fun D hD => ?_⟩
      have hsz : ∀ i, i < l.length → i < sizeLine := fun i hi => small1000 (by have := h.wf.k4; omega)
      refine lc_list (K := K) (a := a) (xs := l.map V.int) (fun i H' => Same H H' ∧ H' D = some (.lst (((l.take i).map fun v => decide (v ≤ 1)).map V.bl))) ⟨Same.new hD, upd_same⟩ (fun i H' _ q => q.1.seq ha) ?_ ?_
      · rintro i x H' hi ⟨hs, hd⟩
        rw [List.getElem?_map] at hi
        obtain ⟨z, hz, rfl⟩ := Option.map_eq_some_iff.mp hi
        refine ⟨rfl, ?_⟩
        dsimp only [tYes]
        rw [if_pos rfl]
        refine ⟨_, rfl, _, _, rfl, rfl, _, hd, ?_, ?_, ?_⟩
        · have hlt := (List.getElem?_eq_some_iff.mp hz).1
          simp only [List.length_map, List.length_take]
          exact hsz _ (by omega)
        · intro q o e
          rw [upd_ne (ne_of_none e hD)]
          exact hs _ _ e
        · rw [upd_same, take_snoc hz]
          simp
      · rintro H' ⟨hs, hd⟩
        rw [List.length_map, List.take_length] at hd
        refine ⟨D, _, rfl, SqL.of hd, ?_⟩
        have := k H' hs
        rw [decide_eq_true c, Bool.true_and] at this
        rw [List.all_map]
        exact this
    · refine ifF (decide_eq_false (fun q => c (by rw [List.length_map] at q; injection q; omega))) ?_
      have := k H (Same.refl H)
      rw [decide_eq_false c, Bool.false_and] at this
      exact this
/-! set_cell, set_row -/
abbrev nSetC : List Str := ["self", "group", "score", "so", "not_so"]
theorem scSetC : FnScope nSetC nSetC (defScope sSetC) := ⟨rfl, rfl, rfl, by decide +kernel, rfl, by decide +kernel, by decide +kernel⟩
/-- all but these addresses is as it was -/
def But (H H' : Hp) (S : List Addr) : Prop := ∀ b o, H b = some o → b ∉ S → H' b = some o
def setCells (t : Table) (g s y n : Nat) : Table := { t with cells := t.cells.set g ((t.cells.getD g []).set s (y, n)) }
def spSetC (C : Addr) : Sp := fun vs H Q _ => ∃ (p : Addr) (A : Tad) (t : Table) (g s y n : Nat), vs = [.ref p, .int (g : Int), .int (s : Int), .int (y : Int), .int (n : Int)] ∧ TabAt C H p A t ∧ g < 2 ∧ s < t.k ∧ y ≤ 99 ∧ n ≤ 99 ∧
  ∀ H', TabAt C H' p A (setCells t g s y n) → But H H' (A.fp p) → Q .non H'
theorem mem_fp (A : Tad) (p : Addr) {g : Nat} (h : g < 2) : A.s g ∈ A.fp p ∧ A.n g ∈ A.fp p ∧ A.r g ∈ A.fp p := by
  rcases lt_two h with e | e <;> subst e <;> simp [Tad.fp]
theorem getD_set_self {α : Type} {l : List α} {i : Nat} {a d : α} (h : i < l.length) : (l.set i a).getD i d = a := by
  rw [List.getD_eq_getElem?_getD, List.getElem?_set_self h]
  rfl
theorem getD_set_ne {α : Type} {l : List α} {i j : Nat} {a d : α} (h : i ≠ j) : (l.set i a).getD j d = l.getD j d := by
  rw [List.getD_eq_getElem?_getD, List.getElem?_set_ne h, List.getD_eq_getElem?_getD]
theorem Raw.congr {C : Addr} {H : Hp} {p : Addr} {A : Tad} {k : Nat} {S N R S' N' R' : Nat → List V} (T : Raw C H p A k S N R) (hs : ∀ g, g < 2 → S g = S' g) (hn : ∀ g, g < 2 → N g = N' g) (hr : ∀ g, g < 2 → R g = R' g) : Raw C H p A k S' N' R' :=
  ⟨T.ins, T.ha, T.hb, T.hc, fun g h => (T.hs g h).trans (by rw [hs g h]), fun g h => (T.hn g h).trans (by rw [hn g h]), fun g h => (T.hr g h).trans (by rw [hr g h]), T.nd⟩
theorem ok_setC {f : Addr} {fd : FuncData} (F : Fun K "set_cell" "Table.set_cell" sSetC f fd) (T : TxtT K mg C) : FnOk P w K mg base CX0 1 f fd nSetC (spSetC C) := by
  refine F.ok scSetC (fun vs H Q E h => ?_) (fun cdv A outer s H vs Q E hr h => ?_)
  · obtain ⟨p, A, t, g, s, y, n, rfl, _⟩ := h
    rfl
  · refine ⟨_, pss_cons (ps_asg (pv 3) (pg_sub (pe_ix ix_list (pe_fld (pv 0) rfl) (pv 1) (fun _ _ => rfl)) (pv 2) set_list))
      (pss_one (ps_asg (pv 4) (pg_sub (pe_ix ix_list (pe_fld (pv 0) rfl) (pv 1) (fun _ _ => rfl)) (pv 2) set_list))), ?_⟩
    obtain ⟨p, A, t, g, s, y, n, rfl, h, hg, hs, hy, hn, k⟩ := h
    have W := h.wf
    have R := h.raw
    have lk : (t.cells.getD g []).length = t.k := (W.cells hg).1
    have R1 := R.setS hg ((((zs (t.cells.getD g [])).map V.int)).set s (.int (y : Int)))
    have R2 := R1.setN hg ((((zn (t.cells.getD g [])).map V.int)).set s (.int (n : Int)))
    refine ⟨_, rfl, _, rfl, p, C, _, _, _, rfl, R.ins, T.cl, T.n2, tf_so _ _, _, rfl, A.a, _, _, _, rfl, rfl, SqL.of R.ha, at2 hg, _, rfl, _, _, _, s, rfl, rfl, R.hs g hg, ix_nat ?_, ?_⟩
    · rw [List.length_map, zs_len]; omega
    refine ⟨_, rfl, _, rfl, p, C, _, _, _, rfl, R1.ins, T.cl, T.n3, tf_not _ _, _, rfl, A.b, _, _, _, rfl, rfl, SqL.of R1.hb, at2 hg, _, rfl, _, _, _, s, rfl, rfl, R1.hn g hg, ix_nat ?_, ?_⟩
    · rw [List.length_map, zn_len]; omega
    refine k _ ⟨wf_count W hg hy hn, R2.congr (fun i hi => ?_) (fun i hi => ?_) (fun i hi => rfl)⟩ (fun b o e hb => ?_)
    · by_cases e : i = g
      · subst e
        rw [if_pos rfl]
        show _ = ((zs ((t.cells.set i _).getD i [])).map V.int)
        rw [getD_set_self (by rw [W.c2]; exact hi)]
        simp [zs]
      · rw [if_neg e]
        show _ = ((zs ((t.cells.set g _).getD i [])).map V.int)
        rw [getD_set_ne (Ne.symm e)]
    · by_cases e : i = g
      · subst e
        rw [if_pos rfl]
        show _ = ((zn ((t.cells.set i _).getD i [])).map V.int)
        rw [getD_set_self (by rw [W.c2]; exact hi)]
        simp [zn]
      · rw [if_neg e]
        show _ = ((zn ((t.cells.set g _).getD i [])).map V.int)
        rw [getD_set_ne (Ne.symm e)]
    · have m := mem_fp A p hg
      rw [upd_ne (fun q => hb (by rw [q]; exact m.2.1)), upd_ne (fun q => hb (by rw [q]; exact m.1))]
      exact e
end
end TG

set_option Elab.async false
set_option maxRecDepth 100000
set_option maxHeartbeats 2000000
namespace TG
open PySem PySem.Spec PyProof.Rows L2
open Krdf (Table)
abbrev nSetR : List Str := ["self", "group", "row"]
theorem scSetR : FnScope nSetR nSetR (defScope sSetR) := ⟨rfl, rfl, rfl, by decide +kernel, rfl, by decide +kernel, by decide +kernel⟩
def setRow (t : Table) (g : Nat) (r : List Bool) : Table := { t with rules := t.rules.set g r }
/-- what a call that changes the table leaves: the table anew, all else as it was, its new objects were free -/
def Changed (C : Addr) (H : Hp) (p : Addr) (A : Tad) (t : Table) (R : Hp → Prop) : Prop :=
  ∀ H' A', TabAt C H' p A' t → But H H' (A.fp p) → (∀ b ∈ A'.fp p, b ∈ A.fp p ∨ H b = Option.none) → R H'
def spSetR (K : PySem.W.Frag) (C : Addr) : Sp := fun vs H Q _ => ∃ (p a : Addr) (A : Tad) (t : Table) (g : Nat) (r : List Bool), vs = [.ref p, .int (g : Int), .ref a] ∧ TabAt C H p A t ∧ g < 2 ∧ SqL K H a ((zb r).map V.int) ∧ r.length = t.k ∧
  Changed C H p A (setRow t g r) (Q .non)
theorem fp_free {C : Addr} {H : Hp} {p l : Addr} {A : Tad} {t : Table} (T : TabAt C H p A t) (h : H l = Option.none) : l ∉ A.fp p := by
  have R := T.raw
  have fr : ∀ {b : Addr} {o : HO}, H b = some o → l ≠ b := fun e q => by rw [← q, h] at e; cases e
  have f1 := fr R.ins
  have f2 := fr R.ha
  have f3 := fr R.hb
  have f4 := fr R.hc
  have f5 := fr (R.hs 0 (by decide))
  have f6 := fr (R.hs 1 (by decide))
  have f7 := fr (R.hn 0 (by decide))
  have f8 := fr (R.hn 1 (by decide))
  have f9 := fr (R.hr 0 (by decide))
  have f10 := fr (R.hr 1 (by decide))
  simp only [Tad.fp, List.mem_cons, List.not_mem_nil, not_or, or_false]
  exact ⟨f1, f2, f3, f4, f5, f6, f7, f8, f9, f10⟩
theorem setRow_at {t : Table} (W : Wf t) {g i : Nat} (hi : i < 2) (r : List Bool) : (if i = g then (zb r).map V.int else (zb (t.rules.getD i [])).map V.int) = (zb ((setRow t g r).rules.getD i [])).map V.int := by
  unfold setRow
  by_cases e : i = g
  · subst e
    rw [if_pos rfl, getD_set_self (by rw [W.r2]; exact hi)]
  · rw [if_neg e, getD_set_ne (Ne.symm e)]
section
variable {P : Program} {w : World} {K : PySem.W.Frag} {mg : Str → Option Value} {base : Heap} {C : Addr}
theorem ok_setR {f : Addr} {fd : FuncData} (F : Fun K "set_row" "Table.set_row" sSetR f fd) (T : TxtT K mg C) (mL : mg "list" = Option.none) : FnOk P w K mg base CX0 1 f fd nSetR (spSetR K C) := by
  refine F.ok scSetR (fun vs H Q E h => ?_) (fun cdv A outer s H vs Q E hr h => ?_)
  · obtain ⟨p, a, A, t, g, r, rfl, _⟩ := h
    rfl
  · refine ⟨_, pss_one (ps_asg (pe_callTy call_list_of (by rfl) mL (by decide +kernel) (pa_cons (pv 2) pa_nil)) (pg_sub (pe_fld (pv 0) rfl) (pv 1) set_list)), ?_⟩
    obtain ⟨p, a, A, t, g, r, rfl, h, hg, ha, hrk, k⟩ := h
    have W := h.wf
    refine ⟨_, rfl, a, _, rfl, .inl ha, fun l hl => ?_⟩
    have s1 : Same H (upd H l (.lst ((zb r).map V.int))) := Same.new hl
    have h1 := h.same s1
    refine ⟨_, rfl, p, C, _, _, _, rfl, h1.ins, T.cl, T.n4, tf_rows _ _, _, rfl, A.c, _, _, g, rfl, rfl, h1.raw.hc, ix_nat hg, ?_⟩
    have R2 := h.raw.setR hg ((zb r).map V.int) hl
    refine k _ (A.withR g l) ⟨wf_rule W hrk, R2.congr (fun i hi => rfl) (fun i hi => rfl) (fun i hi => setRow_at W hi r)⟩ (fun b o e hb => ?_) (fun b hb => ?_)
    · rw [upd_ne (fun q => hb (by rw [q]; simp [Tad.fp])), upd_ne (ne_of_none e hl)]
      exact e
    · rcases lt_two hg with e | e <;> subst e
      all_goals
        simp only [Tad.fp, Tad.withR, List.mem_cons, List.not_mem_nil, or_false] at hb ⊢
        grind
/-! chosen_people, rate -/
abbrev nChoP : List Str := ["self", "group", "row"]
theorem scChoP : FnScope nChoP ["self", "group"] (defScope sChoP) := ⟨rfl, rfl, rfl, by decide +kernel, rfl, by decide +kernel, by decide +kernel⟩
def spChoP (C : Addr) : Sp := fun vs H Q _ => ∃ (p : Addr) (A : Tad) (t : Table) (g : Nat), vs = [.ref p, .int (g : Int)] ∧ TabAt C H p A t ∧ g < 2 ∧
  ∀ H', Same H H' → Q (.int ((t.yesPicked g + t.noPicked g : Nat) : Int)) H'
theorem ok_choP {f fC : Addr} {fd fdC : FuncData} (F : Fun K "chosen_people" "Table.chosen_people" sChoP f fd) (T : TxtT K mg C)
    (FC : FnOk P w K mg base CX0 1 fC fdC ["numbers", "row"] (spSum K)) (bC : Binds K fdC ["numbers", "row"] []) (kC : PySem.W.keepIn K (.ref fC) = true) (gC : mg "chosen_sum" = some (.ref fC)) :
    FnOk P w K mg base CX0 2 f fd ["self", "group"] (spChoP C) := by
  refine F.ok scChoP (fun vs H Q E h => ?_) (fun cdv A outer s H vs Q E hr h => ?_)
  · obtain ⟨p, A, t, g, rfl, _⟩ := h
    rfl
  · refine ⟨_, pss_cons (ps_set (i := 2) scChoP.nd rfl (Or.inl rfl) (pe_ix ix_list (pe_fld (pv 0) rfl) (pv 1) (fun _ _ => rfl)))
      (pss_one (ps_ret (pe_op op_add (pe_call FC hr rfl gC kC bC .nil pass0 (pa_cons (pe_ix ix_list (pe_fld (pv 0) rfl) (pv 1) (fun _ _ => rfl)) (pa_cons (pv 2) pa_nil)))
        (pe_call FC hr rfl gC kC bC .nil pass0 (pa_cons (pe_ix ix_list (pe_fld (pv 0) rfl) (pv 1) (fun _ _ => rfl)) (pa_cons (pv 2) pa_nil)))))), ?_⟩
    obtain ⟨p, A, t, g, rfl, h, hg, k⟩ := h
    have W := h.wf
    have lk : (t.cells.getD g []).length = t.k := (W.cells hg).1
    have rk := W.row hg
    have k4 := W.k4
    refine ⟨_, rfl, p, C, _, _, _, rfl, h.ins, T.cl, T.n4, tf_rows _ _, _, rfl, A.c, _, _, _, rfl, rfl, SqL.of h.raw.hc, at2 hg, ?_⟩
    refine ⟨_, rfl, p, C, _, _, _, rfl, h.ins, T.cl, T.n2, tf_so _ _, _, rfl, A.a, _, _, _, rfl, rfl, SqL.of h.raw.ha, at2 hg, _, rfl, ?_⟩
    refine ⟨A.s g, A.r g, zs (t.cells.getD g []), t.rules.getD g [], rfl, SqL.of (h.raw.hs g hg), SqL.of (h.raw.hr g hg), by omega, by rw [zs_len]; omega, fun H1 s1 => ?_⟩
    have h1 := h.same s1
    refine ⟨_, rfl, p, C, _, _, _, rfl, h1.ins, T.cl, T.n3, tf_not _ _, _, rfl, A.b, _, _, _, rfl, rfl, SqL.of h1.raw.hb, at2 hg, _, rfl, ?_⟩
    refine ⟨A.n g, A.r g, zn (t.cells.getD g []), t.rules.getD g [], rfl, SqL.of (h1.raw.hn g hg), SqL.of (h1.raw.hr g hg), by omega, by rw [zn_len]; omega, fun H2 s2 => ?_⟩
    rw [rk, picked_zs, picked_zn]
    exact ⟨_, _, rfl, rfl, k H2 (s1.trans s2)⟩
abbrev nRate : List Str := ["self", "kind", "group"]
theorem scRate : FnScope nRate nRate (defScope sRate) := ⟨rfl, rfl, rfl, by decide +kernel, rfl, by decide +kernel, by decide +kernel⟩
def spRate (C : Addr) : Sp := fun vs H Q _ => ∃ (p : Addr) (A : Tad) (t : Table) (q g : Nat), vs = [.ref p, .int (q : Int), .int (g : Int)] ∧ TabAt C H p A t ∧ g < 2 ∧ q < 7 ∧ Told H (t.rate q g) Q
theorem ok_rate {f fR : Addr} {fd fdR : FuncData} (F : Fun K "rate" "Table.rate" sRate f fd) (T : TxtT K mg C)
    (FR : FnOk P w K mg base CX0 2 fR fdR ["so", "not_so", "row", "kind"] (spRateOf K)) (bR : Binds K fdR ["so", "not_so", "row", "kind"] []) (kR : PySem.W.keepIn K (.ref fR) = true) (gR : mg "rate_of" = some (.ref fR)) :
    FnOk P w K mg base CX0 3 f fd nRate (spRate C) := by
  refine F.ok scRate (fun vs H Q E h => ?_) (fun cdv A outer s H vs Q E hr h => ?_)
  · obtain ⟨p, A, t, q, g, rfl, _⟩ := h
    rfl
  · refine ⟨_, pss_one (ps_ret (pe_call FR hr rfl gR kR bR .nil pass0 (pa_cons (pe_ix ix_list (pe_fld (pv 0) rfl) (pv 2) (fun _ _ => rfl)) (pa_cons (pe_ix ix_list (pe_fld (pv 0) rfl) (pv 2) (fun _ _ => rfl)) (pa_cons (pe_ix ix_list (pe_fld (pv 0) rfl) (pv 2) (fun _ _ => rfl)) (pa_cons (pv 1) pa_nil)))))), ?_⟩
    obtain ⟨p, A, t, q, g, rfl, h, hg, hq, k⟩ := h
    have W := h.wf
    refine ⟨_, rfl, p, C, _, _, _, rfl, h.ins, T.cl, T.n2, tf_so _ _, _, rfl, A.a, _, _, _, rfl, rfl, SqL.of h.raw.ha, at2 hg, ?_⟩
    refine ⟨_, rfl, p, C, _, _, _, rfl, h.ins, T.cl, T.n3, tf_not _ _, _, rfl, A.b, _, _, _, rfl, rfl, SqL.of h.raw.hb, at2 hg, ?_⟩
    refine ⟨_, rfl, p, C, _, _, _, rfl, h.ins, T.cl, T.n4, tf_rows _ _, _, rfl, A.c, _, _, _, rfl, rfl, SqL.of h.raw.hc, at2 hg, _, rfl, ?_⟩
    rw [rate_C] at k
    exact ⟨_, _, _, t.k, t.cells.getD g [], t.rules.getD g [], q, rfl, SqL.of (h.raw.hs g hg), SqL.of (h.raw.hn g hg), SqL.of (h.raw.hr g hg), W.cells hg, W.row hg, W.k4, hq, k⟩
/-! has_both, is_alike -/
theorem scBoth : FnScope ["self", "kind"] ["self", "kind"] (defScope sBoth) := ⟨rfl, rfl, rfl, by decide +kernel, rfl, by decide +kernel, by decide +kernel⟩
def both (t : Table) (q : Nat) : Bool := (t.rate q 0).isSome && (t.rate q 1).isSome
def spBoth (C : Addr) : Sp := fun vs H Q _ => ∃ (p : Addr) (A : Tad) (t : Table) (q : Nat), vs = [.ref p, .int (q : Int)] ∧ TabAt C H p A t ∧ q < 7 ∧ ∀ H', Same H H' → Q (.bl (both t q)) H'
theorem ok_both {f fR : Addr} {fd fdR : FuncData} (F : Fun K "has_both" "Table.has_both" sBoth f fd) (T : TxtT K mg C)
    (FR : FnOk P w K mg base CX0 3 fR fdR nRate (spRate C)) (bR : Binds K fdR nRate []) (mR : Meth K C "rate" fR) : FnOk P w K mg base CX0 4 f fd ["self", "kind"] (spBoth C) := by
  refine F.ok scBoth (fun vs H Q E h => ?_) (fun cdv A outer s H vs Q E hr h => ?_)
  · obtain ⟨p, A, t, q, rfl, _⟩ := h
    rfl
  · refine ⟨_, pss_one (ps_ret (pe_and (pe_cmp (pc_notN (pe_meth (pv 0) T.cl mR FR hr bR .nil pass0 (pa_cons (pv 1) (pa_cons pe_int pa_nil)))) rfl)
      (pe_one (pe_cmp (pc_notN (pe_meth (pv 0) T.cl mR FR hr bR .nil pass0 (pa_cons (pv 1) (pa_cons pe_int pa_nil)))) rfl)))), ?_⟩
    obtain ⟨p, A, t, q, rfl, h, hq, k⟩ := h
    refine ⟨_, rfl, p, _, _, rfl, h.ins, tf_none _ _ (by decide +kernel), _, rfl, ?_⟩
    refine ⟨p, A, t, q, 0, rfl, h, by decide, hq, fun H1 s1 => ?_⟩
    unfold both at k
    cases e0 : t.rate q 0 with
    | none =>
      refine ⟨false, rfl, ifF rfl ?_⟩
      rw [e0] at k
      exact k H1 s1
    | some x =>
      intro p1 f1 g1
      refine ⟨true, rfl, ifT rfl ?_⟩
      have h1 := h.same s1
      refine ⟨_, rfl, p, _, _, rfl, h1.ins, tf_none _ _ (by decide +kernel), _, rfl, ?_⟩
      refine ⟨p, A, t, q, 1, rfl, h1, by decide, hq, fun H2 s2 => ?_⟩
      rw [e0] at k
      cases e1 : t.rate q 1 with
      | none =>
        rw [e1] at k
        exact k H2 (s1.trans s2)
      | some y =>
        rw [e1] at k
        intro p2 f2 g2
        exact k H2 (s1.trans s2)
end
end TG

set_option Elab.async false
set_option maxRecDepth 100000
set_option maxHeartbeats 2000000
namespace TG
open PySem PySem.Spec PyProof.Rows L2
open Krdf (Table)
theorem scAlik : FnScope ["self", "kind"] ["self", "kind"] (defScope sAlik) := ⟨rfl, rfl, rfl, by decide +kernel, rfl, by decide +kernel, by decide +kernel⟩
def spAlik (C : Addr) : Sp := fun vs H Q _ => ∃ (p : Addr) (A : Tad) (t : Table) (q : Nat), vs = [.ref p, .int (q : Int)] ∧ TabAt C H p A t ∧ q < 7 ∧ ∀ H', Same H H' → Q (.bl (t.alike q)) H'
def fracD (r : Rat) : PyData := .tuple [.int r.num, .int (r.den : Int)]
theorem fracDp {K : PySem.W.Frag} {H : Hp} {p : Addr} {r : Rat} (h : H p = some (.tup (fracV r))) : Dp K H (.ref p) (fracD r) := .tup (SqT.of h) (.cons (.int _) (.cons (.int _) .nil))
theorem fracS (r : Rat) : SeqAt.shaped (fracD r) = true := rfl
theorem fracE (a b : Rat) : PyData.eqv (fracD a) (fracD b) = (a == b) := by
  have : PyData.eqv (fracD a) (fracD b) = ((a.num == b.num) && (((a.den : Int) == (b.den : Int)) && true)) := by
    simp only [fracD, PyData.eqv, PyData.eqvAll]
  rw [this, Bool.and_true]
  by_cases e : a = b
  · subst e
    simp
  · have h : ¬ (a.num = b.num ∧ (a.den : Int) = (b.den : Int)) := fun q => e ((rat_eq_iff a b).mpr q)
    have e1 : (a == b) = false := by simpa using e
    rw [e1]
    by_cases n : a.num = b.num
    · have d : ¬ (a.den : Int) = (b.den : Int) := fun q => h ⟨n, q⟩
      have : ((a.den : Int) == (b.den : Int)) = false := by simpa using d
      rw [this, Bool.and_false]
    · have : (a.num == b.num) = false := by simpa using n
      rw [this, Bool.false_and]
abbrev sIsSame : Stmt := top 8
theorem scIsSame : FnScope ["first", "second"] ["first", "second"] (defScope sIsSame) := ⟨rfl, rfl, rfl, by decide +kernel, rfl, by decide +kernel, by decide +kernel⟩
def spSame : Sp := fun vs H Q _ => ∃ (x y : V) (a b : Option Rat), vs = [x, y] ∧ FrAt H x a ∧ FrAt H y b ∧ Q (.bl (sameO a b)) H
section
variable {P : Program} {w : World} {K : PySem.W.Frag} {mg : Str → Option Value} {base : Heap} {C : Addr}
theorem ok_same {f : Addr} {fd : FuncData} (F : Fun K "is_same" "is_same" sIsSame f fd) : FnOk P w K mg base CX0 1 f fd ["first", "second"] spSame := by
  refine F.ok scIsSame (fun vs H Q E h => ?_) (fun cdv A outer s H vs Q E hr h => ?_)
  · obtain ⟨x, y, a, b, rfl, _⟩ := h
    rfl
  · refine ⟨_, pss_one (ps_ret (pe_and (pe_cmp (pc_notN (pv 0)) rfl) (pe_one (pe_cmpR (op_eqD hr.units) (pv 0) (pv 1) (nomark _))))), ?_⟩
    obtain ⟨x, y, a, b, rfl, ha, hb, k⟩ := h
    cases a with
    | none =>
      cases (show x = .non from ha)
      exact ⟨_, rfl, false, rfl, ifF rfl k⟩
    | some a =>
      obtain ⟨p, rfl, hp⟩ := ha
      refine ⟨_, rfl, true, rfl, ifT rfl ?_⟩
      cases b with
      | none =>
        cases (show y = .non from hb)
        exact ⟨_, rfl, _, rfl, _, _, fracDp hp, .non, fracS _, rfl, k⟩
      | some b =>
        obtain ⟨q, rfl, hq⟩ := hb
        refine ⟨_, rfl, _, rfl, _, _, fracDp hp, fracDp hq, fracS _, fracS _, ?_⟩
        rw [fracE]
        exact k
theorem ok_alik {f fR fS : Addr} {fd fdR fdS : FuncData} (F : Fun K "is_alike" "Table.is_alike" sAlik f fd) (T : TxtT K mg C)
    (FR : FnOk P w K mg base CX0 3 fR fdR nRate (spRate C)) (bR : Binds K fdR nRate []) (mR : Meth K C "rate" fR)
    (FS : FnOk P w K mg base CX0 1 fS fdS ["first", "second"] spSame) (bS : Binds K fdS ["first", "second"] []) (kS : PySem.W.keepIn K (.ref fS) = true) (gS : mg "is_same" = some (.ref fS)) : FnOk P w K mg base CX0 5 f fd ["self", "kind"] (spAlik C) := by
  refine F.ok scAlik (fun vs H Q E h => ?_) (fun cdv A outer s H vs Q E hr h => ?_)
  · obtain ⟨p, A, t, q, rfl, _⟩ := h
    rfl
  · have hr3 : Room 3 _ := hr.mono (by decide)
    have hr1 : Room 1 _ := hr.mono (by decide)
    refine ⟨_, pss_one (ps_ret (pe_call FS hr1 rfl gS kS bS .nil pass0 (pa_cons (pe_meth (pv 0) T.cl mR FR hr3 bR .nil pass0 (pa_cons (pv 1) (pa_cons pe_int pa_nil)))
        (pa_cons (pe_meth (pv 0) T.cl mR FR hr3 bR .nil pass0 (pa_cons (pv 1) (pa_cons pe_int pa_nil))) pa_nil)))), ?_⟩
    obtain ⟨p, A, t, q, rfl, h, hq, k⟩ := h
    refine ⟨_, rfl, p, _, _, rfl, h.ins, tf_none _ _ (by decide +kernel), _, rfl, p, A, t, q, 0, rfl, h, by decide, hq, told_fr fun H1 v1 s1 f1 => ?_⟩
    have h1 := h.same s1
    refine ⟨_, rfl, p, _, _, rfl, h1.ins, tf_none _ _ (by decide +kernel), _, rfl, p, A, t, q, 1, rfl, h1, by decide, hq, told_fr fun H2 v2 s2 f2 => ?_⟩
    exact ⟨v1, v2, _, _, rfl, f1.same s2, f2, k H2 (s1.trans s2)⟩
/-! Table.__init__ -/
theorem scTinit : FnScope ["self", "scores"] ["self", "scores"] (defScope sTinit) := ⟨rfl, rfl, rfl, by decide +kernel, rfl, by decide +kernel, by decide +kernel⟩
def spTinit (C : Addr) : Sp := fun vs H Q _ => ∃ (p dx : Addr) (k : Nat), vs = [.ref p, .int (k : Int)] ∧ H p = some (.ins C dx []) ∧ 1 ≤ k ∧ k ≤ 4 ∧
  ∀ H' A, TabAt C H' p A (Krdf.empty k) → But H H' [p] → (∀ b ∈ A.fp p, b = p ∨ H b = Option.none) → Q .non H'
theorem But.refl (H : Hp) (S : List Addr) : But H H S := fun _ _ e _ => e
theorem But.trans {H H1 H2 : Hp} {S : List Addr} (a : But H H1 S) (b : But H1 H2 S) : But H H2 S := fun c o e n => b c o (a c o e n) n
theorem But.new {H G : Hp} {S : List Addr} {p : Addr} {o : HO} (hp : H p = Option.none) (e : upd H p o = G) : But H G S := fun c q h n => by
  subst e
  rw [upd_ne (ne_of_none h hp)]
  exact h
theorem But.put {H G : Hp} {p : Addr} {o : HO} {S : List Addr} (m : p ∈ S) (e : upd H p o = G) : But H G S := fun c q h n => by
  subst e
  rw [upd_ne (fun z => n (by rw [z]; exact m))]
  exact h
theorem rep_eq (k : Nat) : (List.replicate ((k : Int)).toNat [V.int 0]).flatten = List.replicate k (V.int 0) := by
  rw [Int.toNat_natCast]
  induction k with
  | zero => rfl
  | succ k ih => rw [List.replicate_succ, List.flatten_cons, ih]; rfl
theorem grid {D : Ends} {G : Hp} {p dx : Addr} {fs : List (Str × V)} {k : Nat} {fn : Str} (T : Cls K C) (nA : NoAttr K C fn) (hp : G p = some (.ins C dx fs)) (hf : fs.length < 1000) (k4 : k ≤ 4)
    (h : ∀ (G' : Hp) (a s0 s1 : Addr), But G G' [p] → G' p = some (.ins C dx (putF fn (.ref a) fs)) → G' a = some (.lst [.ref s0, .ref s1]) → G' s0 = some (.lst (List.replicate k (.int 0))) → G' s1 = some (.lst (List.replicate k (.int 0))) →
      G a = Option.none → G s0 = Option.none → G s1 = Option.none → a ≠ s0 → a ≠ s1 → s0 ≠ s1 → D.nx [some (.ref p), some (.int (k : Int))] G') :
    sFld K (tVar 0) (tLst (tCons (tOp rRep (tLst (tCons (tC (V.int 0)) tNil)) (tVar 1)) (tCons (tOp rRep (tLst (tCons (tC (V.int 0)) tNil)) (tVar 1)) tNil))) fn D [some (.ref p), some (.int (k : Int))] G := by
  have sz : ([V.int 0] : List V).length * ((k : Int)).toNat ≤ sizeLine := by
    show 1 * ((k : Int)).toNat ≤ 2 ^ 24
    omega
  refine ⟨(by show 1 ≤ sizeLine; decide), fun x1 f1 => ?_⟩
  generalize e1 : upd G x1 _ = G1
  have a1 := new_at f1 e1
  refine ⟨_, rfl, x1, _, _, rfl, rfl, a1.2, by omega, by omega, sz, fun s0 f2 => ?_⟩
  rw [rep_eq]
  generalize e2 : upd G1 s0 _ = G2
  have a2 := new_at f2 e2
  refine ⟨(by show 1 ≤ sizeLine; decide), fun x2 f3 => ?_⟩
  generalize e3 : upd G2 x2 _ = G3
  have a3 := new_at f3 e3
  refine ⟨_, rfl, x2, _, _, rfl, rfl, a3.2, by omega, by omega, sz, fun s1 f4 => ?_⟩
  rw [rep_eq]
  generalize e4 : upd G3 s1 _ = G4
  have a4 := new_at f4 e4
  refine ⟨(by show 2 ≤ sizeLine; decide), fun a f5 => ?_⟩
  generalize e5 : upd G4 a _ = G5
  have a5 := new_at f5 e5
  have s5 : Same G G5 := (((a1.1.trans a2.1).trans a3.1).trans a4.1).trans a5.1
  have h0 : G4 s0 = some (.lst (List.replicate k (.int 0))) := a4.1 _ _ (a3.1 _ _ a2.2)
  have p5 := s5 _ _ hp
  refine ⟨_, rfl, p, C, dx, fs, rfl, p5, T, nA, hf, ?_⟩
  have na : a ≠ p := fun q => by rw [q] at f5; rw [((a1.1.trans a2.1).trans a3.1).trans a4.1 _ _ hp] at f5; cases f5
  have n0 : s0 ≠ p := fun q => by rw [q] at f2; rw [a1.1 _ _ hp] at f2; cases f2
  have n1 : s1 ≠ p := fun q => by rw [q] at f4; rw [((a1.1.trans a2.1).trans a3.1) _ _ hp] at f4; cases f4
  refine h _ a s0 s1 (fun b o e n => ?_) upd_same ?_ ?_ ?_ ((((a1.1.trans a2.1).trans a3.1).trans a4.1).free f5) (a1.1.free f2) (((a1.1.trans a2.1).trans a3.1).free f4) ?_ ?_ ?_
  · rw [upd_ne (fun z => n (by rw [z]; exact List.mem_singleton_self p))]
    exact s5 _ _ e
  · rw [upd_ne na]; exact a5.2
  · rw [upd_ne n0]; exact a5.1 _ _ h0
  · rw [upd_ne n1]; exact a5.1 _ _ a4.2
  · exact fun q => by rw [q, h0] at f5; cases f5
  · exact fun q => by rw [q, a4.2] at f5; cases f5
  · exact fun q => by rw [← q, a3.1 _ _ a2.2] at f4; cases f4
theorem ok_tinit {f : Addr} {fd : FuncData} (F : Fun K "__init__" "Table.__init__" sTinit f fd) (T : TxtT K mg C) : FnOk P w K mg base CX0 1 f fd ["self", "scores"] (spTinit C) := by
  refine F.ok scTinit (fun vs H Q E h => ?_) (fun cdv A outer s H vs Q E hr h => ?_)
  · obtain ⟨p, dx, k, rfl, _⟩ := h
    rfl
  · refine ⟨_, pss_cons (ps_fld (pv 0) (pv 1) rfl)
      (pss_cons (ps_fld (pv 0) (pe_lst (pa_cons (pe_op op_rep (pe_lst (pa_cons pe_int pa_nil)) (pv 1)) (pa_cons (pe_op op_rep (pe_lst (pa_cons pe_int pa_nil)) (pv 1)) pa_nil))) rfl)
      (pss_cons (ps_fld (pv 0) (pe_lst (pa_cons (pe_op op_rep (pe_lst (pa_cons pe_int pa_nil)) (pv 1)) (pa_cons (pe_op op_rep (pe_lst (pa_cons pe_int pa_nil)) (pv 1)) pa_nil))) rfl)
      (pss_one (ps_fld (pv 0) (pe_lst (pa_cons (pe_op op_rep (pe_lst (pa_cons pe_int pa_nil)) (pv 1)) (pa_cons (pe_op op_rep (pe_lst (pa_cons pe_int pa_nil)) (pv 1)) pa_nil))) rfl)))), ?_⟩
    obtain ⟨p, dx, k, rfl, hp, k1, k4, kk⟩ := h
    refine ⟨_, rfl, _, rfl, p, C, dx, [], rfl, hp, T.cl, T.n1, (by show 0 < 1000; decide), ?_⟩
    generalize g0 : upd H p _ = G0
    have b0 : But H G0 [p] := But.put (List.mem_singleton_self p) g0
    have p0 : G0 p = some (.ins C dx [("scores", .int (k : Int))]) := by rw [← g0]; exact upd_same
    refine grid T.cl T.n2 p0 (by show 1 < 1000; decide) k4 fun G1 a s0 s1 b1 p1 ha hs0 hs1 fa fs0 fs1 d1 d2 d3 => ?_
    refine grid T.cl T.n3 p1 (by show 2 < 1000; decide) k4 fun G2 b n0 n1 b2 p2 hb hn0 hn1 fb fn0 fn1 d4 d5 d6 => ?_
    refine grid T.cl T.n4 p2 (by show 3 < 1000; decide) k4 fun G3 c r0 r1 b3 p3 hc hr0 hr1 fc fr0 fr1 d7 d8 d9 => ?_
    have ne : ∀ {X : Hp} {u v : Addr} {o : HO}, X u = some o → X v = Option.none → u ≠ v := fun e z q => by rw [q, z] at e; cases e
    have p_a := ne p0 fa
    have p_s0 := ne p0 fs0
    have p_s1 := ne p0 fs1
    have p_b := ne p1 fb
    have a_b := ne ha fb
    have s0_b := ne hs0 fb
    have s1_b := ne hs1 fb
    have p_n0 := ne p1 fn0
    have a_n0 := ne ha fn0
    have s0_n0 := ne hs0 fn0
    have s1_n0 := ne hs1 fn0
    have p_n1 := ne p1 fn1
    have a_n1 := ne ha fn1
    have s0_n1 := ne hs0 fn1
    have s1_n1 := ne hs1 fn1
    have ha2 := b2 _ _ ha (fun q => p_a (List.mem_singleton.mp q).symm)
    have ha3 := b3 _ _ ha2 (fun q => p_a (List.mem_singleton.mp q).symm)
    have hs02 := b2 _ _ hs0 (fun q => p_s0 (List.mem_singleton.mp q).symm)
    have hs03 := b3 _ _ hs02 (fun q => p_s0 (List.mem_singleton.mp q).symm)
    have hs12 := b2 _ _ hs1 (fun q => p_s1 (List.mem_singleton.mp q).symm)
    have hs13 := b3 _ _ hs12 (fun q => p_s1 (List.mem_singleton.mp q).symm)
    have hb3 := b3 _ _ hb (fun q => p_b (List.mem_singleton.mp q).symm)
    have hn03 := b3 _ _ hn0 (fun q => p_n0 (List.mem_singleton.mp q).symm)
    have hn13 := b3 _ _ hn1 (fun q => p_n1 (List.mem_singleton.mp q).symm)
    have p_c := ne p2 fc
    have a_c := ne ha2 fc
    have s0_c := ne hs02 fc
    have s1_c := ne hs12 fc
    have b_c := ne hb fc
    have n0_c := ne hn0 fc
    have n1_c := ne hn1 fc
    have p_r0 := ne p2 fr0
    have a_r0 := ne ha2 fr0
    have s0_r0 := ne hs02 fr0
    have s1_r0 := ne hs12 fr0
    have b_r0 := ne hb fr0
    have n0_r0 := ne hn0 fr0
    have n1_r0 := ne hn1 fr0
    have p_r1 := ne p2 fr1
    have a_r1 := ne ha2 fr1
    have s0_r1 := ne hs02 fr1
    have s1_r1 := ne hs12 fr1
    have b_r1 := ne hb fr1
    have n0_r1 := ne hn0 fr1
    have n1_r1 := ne hn1 fr1
    have zz : ∀ g, g < 2 → ((Krdf.empty k).cells.getD g []) = List.replicate k (0, 0) := fun g hg => by
      rcases lt_two hg with e | e <;> subst e <;> rfl
    have zr : ∀ g, g < 2 → ((Krdf.empty k).rules.getD g []) = List.replicate k false := fun g hg => by
      rcases lt_two hg with e | e <;> subst e <;> rfl
    have f0 : ∀ {v : Addr}, p ≠ v → G0 v = Option.none → H v = Option.none := fun {v} n z => by
      rw [← g0, upd_ne (Ne.symm n)] at z
      exact z
    have f1 : ∀ {v : Addr}, p ≠ v → G1 v = Option.none → H v = Option.none := fun {v} n z => f0 n (by
      cases q : G0 v with
      | none => rfl
      | some o => rw [b1 _ _ q (fun m => n (List.mem_singleton.mp m).symm)] at z; cases z)
    have f2 : ∀ {v : Addr}, p ≠ v → G2 v = Option.none → H v = Option.none := fun {v} n z => f1 n (by
      cases q : G1 v with
      | none => rfl
      | some o => rw [b2 _ _ q (fun m => n (List.mem_singleton.mp m).symm)] at z; cases z)
    refine kk G3 ⟨dx, a, b, c, fun g => match g with | 0 => s0 | _ => s1, fun g => match g with | 0 => n0 | _ => n1, fun g => match g with | 0 => r0 | _ => r1⟩ ⟨wf_empty k1 k4, ?_⟩ (((b0.trans b1).trans b2).trans b3) ?_
    · refine ⟨p3, ha3, hb3, hc, fun g hg => ?_, fun g hg => ?_, fun g hg => ?_, ?_⟩
      · rw [zz g hg]
        have e : (zs (List.replicate k (0, 0))).map V.int = List.replicate k (.int 0) := by simp [zs]
        rw [e]
        rcases lt_two hg with q | q <;> subst q
        · exact hs03
        · exact hs13
      · rw [zz g hg]
        have e : (zn (List.replicate k (0, 0))).map V.int = List.replicate k (.int 0) := by simp [zn]
        rw [e]
        rcases lt_two hg with q | q <;> subst q
        · exact hn03
        · exact hn13
      · rw [zr g hg]
        have e : (zb (List.replicate k false)).map V.int = List.replicate k (.int 0) := by simp [zb]
        rw [e]
        rcases lt_two hg with q | q <;> subst q
        · exact hr0
        · exact hr1
      · simp only [Tad.fp, List.nodup_cons, List.mem_cons, List.not_mem_nil, not_or, or_false, not_false_eq_true, List.nodup_nil, and_true]
        clear ne f0 f1 f2 zz zr kk
        grind
    · intro v hv
      simp only [Tad.fp, List.mem_cons, List.not_mem_nil, or_false] at hv
      rcases hv with e | e | e | e | e | e | e | e | e | e <;> subst e
      · exact .inl rfl
      · exact .inr (f0 p_a fa)
      · exact .inr (f1 p_b fb)
      · exact .inr (f2 p_c fc)
      · exact .inr (f0 p_s0 fs0)
      · exact .inr (f0 p_s1 fs1)
      · exact .inr (f1 p_n0 fn0)
      · exact .inr (f1 p_n1 fn1)
      · exact .inr (f2 p_r0 fr0)
      · exact .inr (f2 p_r1 fr1)
end
end TG

set_option Elab.async false
set_option maxRecDepth 100000
set_option maxHeartbeats 2000000
namespace TG
open PySem PySem.Spec PyProof.Rows L2
open Krdf (Table act)
/-! What a call leaves and answers -/
def actT (t : Table) (c : Krdf.Call) : Table := match (act (some t) c).1 with
  | some u => u
  | Option.none => t
def ansT (t : Table) (c : Krdf.Call) : List Int := KrdfNeutral.told (act (some t) c).2
def Answers (C : Addr) (H : Hp) (p : Addr) (A : Tad) (t : Table) (ans : List Int) (Q : VK) : Prop :=
  ∀ H' A' r, TabAt C H' p A' t → But H H' (A.fp p) → (∀ b ∈ A'.fp p, b ∈ A.fp p ∨ H b = Option.none) → (r ∈ A.fp p ∨ H r = Option.none) → r ∉ A'.fp p → H' r = some (.lst (ans.map V.int)) → Q (.ref r) H'
theorem But.of {H H' : Hp} {S : List Addr} (s : Same H H') : But H H' S := fun b o e _ => s b o e
theorem Answers.out {C : Addr} {H H1 : Hp} {p l : Addr} {A : Tad} {t : Table} {ans : List Int} {xs : List V} {Q : VK} (h : Answers C H p A t ans Q) (T : TabAt C H p A t) (s : Same H H1) (hl : H1 l = Option.none) (e : xs = ans.map V.int) : Q (.ref l) (upd H1 l (.lst xs)) := by
  have s2 : Same H (upd H1 l (.lst xs)) := s.trans (Same.new hl)
  refine h _ A l (T.same s2) (But.of s2) (fun b hb => .inl hb) (.inr (s.free hl)) (fp_free T (s.free hl)) ?_
  rw [upd_same, e]
theorem Answers.out2 {C : Addr} {H H1 : Hp} {p l : Addr} {A A1 : Tad} {t : Table} {ans : List Int} {xs : List V} {Q : VK} (h : Answers C H p A t ans Q) (T : TabAt C H1 p A1 t) (b : But H H1 (A.fp p)) (n : ∀ b ∈ A1.fp p, b ∈ A.fp p ∨ H b = Option.none)
    (hl : H1 l = Option.none) (e : xs = ans.map V.int) : Q (.ref l) (upd H1 l (.lst xs)) := by
  have hf : l ∈ A.fp p ∨ H l = Option.none := by
    by_cases m : l ∈ A.fp p
    · exact .inl m
    · cases q : H l with
      | none => exact .inr rfl
      | some o => rw [b _ _ q m] at hl; cases hl
  refine h _ A1 l (T.same (Same.new hl)) (fun c o e m => ?_) n hf (fp_free T hl) ?_
  · rw [upd_ne (ne_of_none (b c o e m) hl)]
    exact b c o e m
  · rw [upd_same, e]
theorem Answers.same {C : Addr} {H H1 : Hp} {p : Addr} {A : Tad} {t : Table} {ans : List Int} {Q : VK} (h : Answers C H p A t ans Q) (s : Same H H1) : Answers C H1 p A t ans Q :=
  fun H' A' r T b n fr nr hr => h H' A' r T (fun c o e m => b c o (s c o e) m) (fun c hc => (n c hc).imp id s.free) (fr.imp id s.free) nr hr
structure TxtC (mg : Str → Option Value) : Prop where
  g1 : ∃ t, mg "NO_SUCH" = some (.int (-2) t)
  g2 : ∃ t, mg "NOT_BEGUN" = some (.int (-11) t)
  g3 : ∃ t, mg "NOT_RIGHT" = some (.int (-22) t)
  g4 : ∃ t, mg "NOT_THERE" = some (.int (-33) t)
  g5 : ∃ t, mg "MOST_SCORES" = some (.int 4 t)
  g6 : ∃ t, mg "MOST_PEOPLE" = some (.int 99 t)
abbrev sCount : Stmt := top 33
abbrev nCount : List Str := ["table", "group", "score", "so", "not_so"]
theorem scCount : FnScope nCount nCount (defScope sCount) := ⟨rfl, rfl, rfl, by decide +kernel, rfl, by decide +kernel, by decide +kernel⟩
def spCount (C : Addr) : Sp := fun vs H Q _ => ∃ (p : Addr) (A : Tad) (t : Table) (g s y n : Nat), vs = [.ref p, .int (g : Int), .int (s : Int), .int (y : Int), .int (n : Int)] ∧ TabAt C H p A t ∧
  Answers C H p A (actT t (.count g s y n)) (ansT t (.count g s y n)) Q
section
variable {P : Program} {w : World} {K : PySem.W.Frag} {mg : Str → Option Value} {base : Heap} {C : Addr}
theorem ok_count {f fH fS : Addr} {fd fdH fdS : FuncData} (F : Fun K "count" "count" sCount f fd) (T : TxtT K mg C) (X : TxtC mg)
    (FH : FnOk P w K mg base CX0 2 fH fdH ["self", "group", "score"] (spHasC C)) (bH : Binds K fdH ["self", "group", "score"] []) (mH : Meth K C "has_cell" fH)
    (FS : FnOk P w K mg base CX0 1 fS fdS nSetC (spSetC C)) (bS : Binds K fdS nSetC []) (mS : Meth K C "set_cell" fS) : FnOk P w K mg base CX0 3 f fd nCount (spCount C) := by
  refine F.ok scCount (fun vs H Q E h => ?_) (fun cdv A outer s H vs Q E hr h => ?_)
  · obtain ⟨p, A, t, g, s, y, n, rfl, _⟩ := h
    rfl
  · obtain ⟨_, g1⟩ := X.g1
    obtain ⟨_, g3⟩ := X.g3
    obtain ⟨_, g6⟩ := X.g6
    have hr1 : Room 1 _ := hr.mono (by decide)
    refine ⟨_, pss_cons (ps_if (pt_not (pt_val (pe_meth (pv 0) T.cl mH FH hr bH .nil pass0 (pa_cons (pv 1) (pa_cons (pv 2) pa_nil))))) (pss_one (ps_ret (pe_lst (pa_cons (pe_glob (v := V.int (-2)) rfl g1 ⟨_, rfl⟩) pa_nil)))) pss_nil)
      (pss_cons (ps_if (PW.pt (pw_or (pt_cmpR op_gt (pv 3) (pe_glob (v := V.int 99) rfl g6 ⟨_, rfl⟩) (nomark _)) (pw_or1 (pt_cmpR op_gt (pv 4) (pe_glob (v := V.int 99) rfl g6 ⟨_, rfl⟩) (nomark _))))) (pss_one (ps_ret (pe_lst (pa_cons (pe_glob (v := V.int (-22)) rfl g3 ⟨_, rfl⟩) pa_nil)))) pss_nil)
      (pss_cons (ps_expr (pe_meth (pv 0) T.cl mS FS hr1 bS .nil pass0 (pa_cons (pv 1) (pa_cons (pv 2) (pa_cons (pv 3) (pa_cons (pv 4) pa_nil))))))
      (pss_one (ps_ret (pe_lst (pa_cons (pe_op op_add (pv 3) (pv 4)) pa_nil)))))), ?_⟩
    obtain ⟨p, A, t, g, s, y, n, rfl, h, k⟩ := h
    refine ⟨_, rfl, p, _, _, rfl, h.ins, tf_none _ _ (by decide +kernel), _, rfl, _, rfl, p, A, t, g, s, rfl, h, _, rfl, ?_⟩
    have two : ((g : Int) < 2) = (g < 2) := by simp; omega
    by_cases c : g < 2 ∧ s < t.k
    · have cT : (decide ((g : Int) < 2) && decide ((s : Int) < (t.k : Int))) = true := by simp; omega
      have nb : (decide (1 < g) || decide (t.k ≤ s)) = false := by simp; omega
      refine ifF (by rw [cT]; rfl) ?_
      by_cases d : y ≤ 99 ∧ n ≤ 99
      · have dF : (decide (Krdf.mostCount < y) || decide (Krdf.mostCount < n)) = false := by
          rw [Bool.or_eq_false_iff, decide_eq_false_iff_not, decide_eq_false_iff_not]
          show ¬ 99 < y ∧ ¬ 99 < n
          omega
        have ea : act (some t) (.count g s y n) = (some (setCells t g s y n), Krdf.nat (y + n)) := by
          show (if (decide (1 < g) || decide (t.k ≤ s)) = true then _ else if (decide (Krdf.mostCount < y) || decide (Krdf.mostCount < n)) = true then _ else _) = _
          rw [nb, dF]
          rfl
        have e1 : actT t (.count g s y n) = setCells t g s y n := by unfold actT; rw [ea]
        have e2 : ansT t (.count g s y n) = [((y + n : Nat) : Int)] := by unfold ansT; rw [ea]; rfl
        rw [e1, e2] at k
        refine ⟨_, rfl, _, _, rfl, rfl, _, rfl, ifF (decide_eq_false (p := (99 : Int) < (y : Int)) (by omega)) ?_⟩
        refine ⟨_, rfl, _, _, rfl, rfl, _, rfl, ifF (decide_eq_false (p := (99 : Int) < (n : Int)) (by omega)) ?_⟩
        refine ⟨_, rfl, p, _, _, rfl, h.ins, tf_none _ _ (by decide +kernel), _, rfl, _, rfl, _, rfl, _, rfl, p, A, t, g, s, y, n, rfl, h, c.1, c.2, d.1, d.2, fun H1 T1 b1 => ?_⟩
        refine ⟨_, rfl, _, rfl, _, _, rfl, rfl, (by show 1 ≤ sizeLine; decide), fun l hl => ?_⟩
        exact k.out2 T1 b1 (fun b hb => .inl hb) hl (by simp)
      · have dT : (decide (Krdf.mostCount < y) || decide (Krdf.mostCount < n)) = true := by
          rw [Bool.or_eq_true, decide_eq_true_eq, decide_eq_true_eq]
          show 99 < y ∨ 99 < n
          omega
        have ea : act (some t) (.count g s y n) = (some t, Krdf.say (-22)) := by
          show (if (decide (1 < g) || decide (t.k ≤ s)) = true then _ else if (decide (Krdf.mostCount < y) || decide (Krdf.mostCount < n)) = true then _ else _) = _
          rw [nb, dT]
          rfl
        have e1 : actT t (.count g s y n) = t := by unfold actT; rw [ea]
        have e2 : ansT t (.count g s y n) = [-22] := by unfold ansT; rw [ea]; rfl
        rw [e1, e2] at k
        have fin : ∀ l, H l = Option.none → Q (.ref l) (upd H l (.lst [.int (-22)])) := fun l hl => k.out h (Same.refl H) hl rfl
        by_cases dy : 99 < y
        · refine ⟨_, rfl, _, _, rfl, rfl, _, rfl, ifT (decide_eq_true (p := (99 : Int) < (y : Int)) (by omega)) ?_⟩
          refine ifT rfl ?_
          exact ⟨(by show 1 ≤ sizeLine; decide), fin⟩
        · refine ⟨_, rfl, _, _, rfl, rfl, _, rfl, ifF (decide_eq_false (p := (99 : Int) < (y : Int)) (by omega)) ?_⟩
          refine ⟨_, rfl, _, _, rfl, rfl, _, rfl, ifT (decide_eq_true (p := (99 : Int) < (n : Int)) (by omega)) ?_⟩
          exact ⟨(by show 1 ≤ sizeLine; decide), fin⟩
    · have cF : (decide ((g : Int) < 2) && decide ((s : Int) < (t.k : Int))) = false := by
        rw [Bool.and_eq_false_iff, decide_eq_false_iff_not, decide_eq_false_iff_not]; omega
      have nb : (decide (1 < g) || decide (t.k ≤ s)) = true := by simp; omega
      have ea : act (some t) (.count g s y n) = (some t, Krdf.say (-2)) := by
        show (if (decide (1 < g) || decide (t.k ≤ s)) = true then _ else _) = _
        rw [nb]
        rfl
      have e1 : actT t (.count g s y n) = t := by unfold actT; rw [ea]
      have e2 : ansT t (.count g s y n) = [-2] := by unfold ansT; rw [ea]; rfl
      rw [e1, e2] at k
      refine ifT (by rw [cF]; rfl) ?_
      exact ⟨(by show 1 ≤ sizeLine; decide), fun l hl => k.out h (Same.refl H) hl rfl⟩
abbrev sTold : Stmt := top 32
theorem scTold : FnScope ["fraction"] ["fraction"] (defScope sTold) := ⟨rfl, rfl, rfl, by decide +kernel, rfl, by decide +kernel, by decide +kernel⟩
def spTold : Sp := fun vs H Q _ => ∃ (v : V) (o : Option Rat), vs = [v] ∧ FrAt H v o ∧ ∀ l, H l = Option.none → Q (.ref l) (upd H l (.lst ((KrdfNeutral.told (Krdf.told o)).map V.int)))
theorem ok_told {f : Addr} {fd : FuncData} (F : Fun K "told_fraction" "told_fraction" sTold f fd) (X : TxtC mg) : FnOk P w K mg base CX0 1 f fd ["fraction"] spTold := by
  refine F.ok scTold (fun vs H Q E h => ?_) (fun cdv A outer s H vs Q E hr h => ?_)
  · obtain ⟨v, o, rfl, _⟩ := h
    rfl
  · obtain ⟨_, g4⟩ := X.g4
    refine ⟨_, pss_cons (ps_if (pt_cmpR op_isN (pv 0) pe_non (nomark _)) (pss_one (ps_ret (pe_lst (pa_cons (pe_glob (v := V.int (-33)) rfl g4 ⟨_, rfl⟩) pa_nil)))) pss_nil)
      (pss_one (ps_ret (pe_lst (pa_cons pe_int (pa_cons (pe_ix ix_tup (pv 0) pe_int (fun _ _ => rfl)) (pa_cons (pe_ix ix_tup (pv 0) pe_int (fun _ _ => rfl)) pa_nil)))))), ?_⟩
    obtain ⟨v, o, rfl, hv, k⟩ := h
    cases o with
    | none =>
      cases (show v = .non from hv)
      refine ⟨_, rfl, rfl, _, rfl, ifT rfl ?_⟩
      exact ⟨(by show 1 ≤ sizeLine; decide), fun l hl => k l hl⟩
    | some x =>
      obtain ⟨p, rfl, hp⟩ := hv
      refine ⟨_, rfl, rfl, _, rfl, ifF rfl ?_⟩
      exact ⟨_, rfl, p, _, _, _, rfl, rfl, SqT.of hp, rfl, _, rfl, p, _, _, _, rfl, rfl, SqT.of hp, rfl, (by show 3 ≤ sizeLine; decide), fun l hl => k l hl⟩
end
end TG

set_option Elab.async false
set_option maxRecDepth 100000
set_option maxHeartbeats 2000000
namespace TG
open PySem PySem.Spec PyProof.Rows L2
open Krdf (Table act)
abbrev sRule : Stmt := top 34
abbrev nRule : List Str := ["table", "group", "row"]
theorem scRule : FnScope nRule nRule (defScope sRule) := ⟨rfl, rfl, rfl, by decide +kernel, rfl, by decide +kernel, by decide +kernel⟩
def spRule (K : PySem.W.Frag) (C : Addr) : Sp := fun vs H Q _ => ∃ (p a : Addr) (A : Tad) (t : Table) (g : Nat) (l : List Int), vs = [.ref p, .int (g : Int), .ref a] ∧ TabAt C H p A t ∧ SqL K H a (l.map V.int) ∧ (∀ x ∈ l, 0 ≤ x) ∧
  Answers C H p A (actT t (.rule g (l.map Int.toNat))) (ansT t (.rule g (l.map Int.toNat))) Q
theorem zb_of {l : List Int} (h0 : ∀ x ∈ l, 0 ≤ x) (h1 : l.all (fun v => decide (v ≤ 1)) = true) : zb ((l.map Int.toNat).map fun v => v == 1) = l := by
  rw [List.all_eq_true] at h1
  unfold zb
  rw [List.map_map, List.map_map]
  conv => rhs; rw [← List.map_id l]
  refine List.map_congr_left fun x hx => ?_
  have a := h0 x hx
  have b := of_decide_eq_true (h1 x hx)
  have : x = 0 ∨ x = 1 := by omega
  rcases this with e | e <;> subst e <;> rfl
theorem all_nat {l : List Int} (h0 : ∀ x ∈ l, 0 ≤ x) : ((l.map Int.toNat).all fun v => decide (v ≤ 1)) = l.all fun v => decide (v ≤ 1) := by
  rw [List.all_map]
  induction l with
  | nil => rfl
  | cons x r ih =>
    have a := h0 x (List.Mem.head _)
    rw [List.all_cons, List.all_cons, ih fun y hy => h0 y (List.Mem.tail _ hy)]
    congr 1
    show decide (x.toNat ≤ 1) = decide (x ≤ 1)
    by_cases c : x ≤ 1
    · rw [decide_eq_true c, decide_eq_true (by omega)]
    · rw [decide_eq_false c, decide_eq_false (by omega)]
theorem act_rule_g {t : Table} {g : Nat} {l : List Nat} (h : 1 < g) : act (some t) (.rule g l) = (some t, Krdf.say (-2)) := by
  show (if decide (1 < g) = true then _ else _) = _
  rw [if_pos (decide_eq_true h)]
theorem act_rule_l {t : Table} {g : Nat} {l : List Nat} (h : ¬ 1 < g) (hl : (decide (l.length = t.k) && l.all fun v => decide (v ≤ 1)) = false) : act (some t) (.rule g l) = (some t, Krdf.say (-22)) := by
  show (if decide (1 < g) = true then _ else if (decide (l.length ≠ t.k) || !(l.all fun v => decide (v ≤ 1))) = true then _ else _) = _
  rw [if_neg (by simpa using h), if_pos]
  rw [Bool.and_eq_false_iff] at hl
  rw [Bool.or_eq_true]
  rcases hl with e | e
  · left
    exact decide_eq_true (of_decide_eq_false e)
  · right
    rw [e]; rfl
theorem act_rule {t : Table} {g : Nat} {l : List Nat} (h : ¬ 1 < g) (hl : (decide (l.length = t.k) && l.all fun v => decide (v ≤ 1)) = true) :
    act (some t) (.rule g l) = (some (setRow t g (l.map fun v => v == 1)), Krdf.nat ((setRow t g (l.map fun v => v == 1)).yesPicked g + (setRow t g (l.map fun v => v == 1)).noPicked g)) := by
  show (if decide (1 < g) = true then _ else if (decide (l.length ≠ t.k) || !(l.all fun v => decide (v ≤ 1))) = true then _ else _) = _
  rw [Bool.and_eq_true] at hl
  rw [if_neg (by simpa using h), if_neg]
  · rfl
  · rw [hl.2]
    simpa using hl.1
section
variable {P : Program} {w : World} {K : PySem.W.Frag} {mg : Str → Option Value} {base : Heap} {C : Addr}
theorem ok_rule {f fG fF fS fP : Addr} {fd fdG fdF fdS fdP : FuncData} (F : Fun K "rule" "rule" sRule f fd) (T : TxtT K mg C) (X : TxtC mg)
    (FG : FnOk P w K mg base CX0 1 fG fdG ["self", "group"] spHasG) (bG : Binds K fdG ["self", "group"] []) (mG : Meth K C "has_group" fG)
    (FF : FnOk P w K mg base CX0 1 fF fdF ["self", "row"] (spFits K C)) (bF : Binds K fdF ["self", "row"] []) (mF : Meth K C "fits" fF)
    (FS : FnOk P w K mg base CX0 1 fS fdS nSetR (spSetR K C)) (bS : Binds K fdS nSetR []) (mS : Meth K C "set_row" fS)
    (FP : FnOk P w K mg base CX0 2 fP fdP ["self", "group"] (spChoP C)) (bP : Binds K fdP ["self", "group"] []) (mP : Meth K C "chosen_people" fP) : FnOk P w K mg base CX0 3 f fd nRule (spRule K C) := by
  refine F.ok scRule (fun vs H Q E h => ?_) (fun cdv A outer s H vs Q E hr h => ?_)
  · obtain ⟨p, a, A, t, g, l, rfl, _⟩ := h
    rfl
  · obtain ⟨_, g1⟩ := X.g1
    obtain ⟨_, g3⟩ := X.g3
    have hr1 : Room 1 _ := hr.mono (by decide)
    refine ⟨_, pss_cons (ps_if (pt_not (pt_val (pe_meth (pv 0) T.cl mG FG hr1 bG .nil pass0 (pa_cons (pv 1) pa_nil)))) (pss_one (ps_ret (pe_lst (pa_cons (pe_glob (v := V.int (-2)) rfl g1 ⟨_, rfl⟩) pa_nil)))) pss_nil)
      (pss_cons (ps_if (pt_not (pt_val (pe_meth (pv 0) T.cl mF FF hr1 bF .nil pass0 (pa_cons (pv 2) pa_nil)))) (pss_one (ps_ret (pe_lst (pa_cons (pe_glob (v := V.int (-22)) rfl g3 ⟨_, rfl⟩) pa_nil)))) pss_nil)
      (pss_cons (ps_expr (pe_meth (pv 0) T.cl mS FS hr1 bS .nil pass0 (pa_cons (pv 1) (pa_cons (pv 2) pa_nil))))
      (pss_one (ps_ret (pe_lst (pa_cons (pe_meth (pv 0) T.cl mP FP hr bP .nil pass0 (pa_cons (pv 1) pa_nil)) pa_nil)))))), ?_⟩
    obtain ⟨p, a, A, t, g, l, rfl, h, ha, h0, k⟩ := h
    refine ⟨_, rfl, p, _, _, rfl, h.ins, tf_none _ _ (by decide +kernel), _, rfl, _, _, rfl, _, rfl, ?_⟩
    by_cases c : 1 < g
    · unfold actT ansT at k
      rw [act_rule_g c] at k
      refine ifT (by rw [decide_eq_false (by omega)]; rfl) ?_
      exact ⟨(by show 1 ≤ sizeLine; decide), fun r hr' => k.out h (Same.refl H) hr' rfl⟩
    · have hg : g < 2 := by omega
      refine ifF (by rw [decide_eq_true (by omega)]; rfl) ?_
      refine ⟨_, rfl, p, _, _, rfl, h.ins, tf_none _ _ (by decide +kernel), _, rfl, p, a, A, t, l, rfl, h, ha, fun H1 s1 => ⟨_, rfl, ?_⟩⟩
      have h1 := h.same s1
      cases d : (decide (l.length = t.k) && l.all fun v => decide (v ≤ 1)) with
      | false =>
        unfold actT ansT at k
        rw [act_rule_l c (by rw [List.length_map, all_nat h0]; exact d)] at k
        refine ifT rfl ?_
        exact ⟨(by show 1 ≤ sizeLine; decide), fun r hr' => k.out h s1 hr' rfl⟩
      | true =>
        unfold actT ansT at k
        rw [act_rule c (by rw [List.length_map, all_nat h0]; exact d)] at k
        rw [Bool.and_eq_true] at d
        have ez := zb_of h0 d.2
        generalize hrr : ((l.map Int.toNat).map fun v => v == 1) = r at ez k
        have hrk : r.length = t.k := by rw [← hrr, List.length_map, List.length_map]; exact of_decide_eq_true d.1
        refine ifF rfl ?_
        refine ⟨_, rfl, p, _, _, rfl, h1.ins, tf_none _ _ (by decide +kernel), _, rfl, _, rfl, p, a, A, t, g, r, rfl, h1, hg, by rw [ez]; exact s1.seq ha, hrk, fun H2 A2 T2 b2 n2 => ?_⟩
        refine ⟨_, rfl, p, _, _, rfl, T2.ins, tf_none _ _ (by decide +kernel), _, rfl, p, A2, _, g, rfl, T2, hg, fun H3 s3 => ?_⟩
        refine ⟨(by show 1 ≤ sizeLine; decide), fun o ho => ?_⟩
        refine k.out2 (T2.same s3) (fun b o e m => s3 _ _ (b2 _ _ (s1 _ _ e) m)) (fun b hb => ?_) ho rfl
        rcases n2 b hb with m | m
        · exact .inl m
        · exact .inr (s1.free m)
/-! rate, alike, gap -/
abbrev sCRate : Stmt := top 35
abbrev nCRate : List Str := ["table", "kind", "group"]
theorem scCRate : FnScope nCRate ["table", "kind", "group"] (defScope sCRate) := ⟨rfl, rfl, rfl, by decide +kernel, rfl, by decide +kernel, by decide +kernel⟩
def spCRate (C : Addr) : Sp := fun vs H Q _ => ∃ (p : Addr) (A : Tad) (t : Table) (q g : Nat), vs = [.ref p, .int (q : Int), .int (g : Int)] ∧ TabAt C H p A t ∧
  Answers C H p A (actT t (.rate q g)) (ansT t (.rate q g)) Q
theorem told_some {x : Rat} : KrdfNeutral.told (Krdf.told (some x)) = [0, x.num, (x.den : Int)] := rfl
theorem told_none : KrdfNeutral.told (Krdf.told Option.none) = [-33] := rfl
theorem ok_crate {f fG fR fT : Addr} {fd fdG fdR fdT : FuncData} (F : Fun K "rate" "rate" sCRate f fd) (T : TxtT K mg C) (X : TxtC mg)
    (FG : FnOk P w K mg base CX0 1 fG fdG ["self", "group"] spHasG) (bG : Binds K fdG ["self", "group"] []) (mG : Meth K C "has_group" fG)
    (FR : FnOk P w K mg base CX0 3 fR fdR nRate (spRate C)) (bR : Binds K fdR nRate []) (mR : Meth K C "rate" fR)
    (FT : FnOk P w K mg base CX0 1 fT fdT ["fraction"] spTold) (bT : Binds K fdT ["fraction"] []) (kT : PySem.W.keepIn K (.ref fT) = true) (gT : mg "told_fraction" = some (.ref fT)) : FnOk P w K mg base CX0 4 f fd ["table", "kind", "group"] (spCRate C) := by
  refine F.ok scCRate (fun vs H Q E h => ?_) (fun cdv A outer s H vs Q E hr h => ?_)
  · obtain ⟨p, A, t, q, g, rfl, _⟩ := h
    rfl
  · obtain ⟨_, g1⟩ := X.g1
    obtain ⟨_, g3⟩ := X.g3
    obtain ⟨_, g4⟩ := X.g4
    obtain ⟨_, gK⟩ := T.gK
    have hr1 : Room 1 _ := hr.mono (by decide)
    refine ⟨_, pss_cons (ps_if (pt_not (pt_val (pe_meth (pv 0) T.cl mG FG hr1 bG .nil pass0 (pa_cons (pv 2) pa_nil)))) (pss_one (ps_ret (pe_lst (pa_cons (pe_glob (v := V.int (-2)) rfl g1 ⟨_, rfl⟩) pa_nil)))) pss_nil)
      (pss_cons (ps_if (pt_cmpR op_ge (pv 1) (pe_glob (v := V.int 7) rfl gK ⟨_, rfl⟩) (nomark _)) (pss_one (ps_ret (pe_lst (pa_cons (pe_glob (v := V.int (-22)) rfl g3 ⟨_, rfl⟩) pa_nil)))) pss_nil)
      (pss_one (ps_ret (pe_call FT hr1 rfl gT kT bT .nil pass0 (pa_cons (pe_meth (pv 0) T.cl mR FR hr bR .nil pass0 (pa_cons (pv 1) (pa_cons (pv 2) pa_nil))) pa_nil))))), ?_⟩
    obtain ⟨p, A, t, q, g, rfl, h, k⟩ := h
    have e1 : actT t (.rate q g) = t := rfl
    have e2 : ansT t (.rate q g) = KrdfNeutral.told (if decide (1 < g) = true then Krdf.say (-2) else if 7 ≤ q then Krdf.say (-22) else Krdf.told (t.rate q g)) := rfl
    rw [e1, e2] at k
    refine ⟨_, rfl, p, _, _, rfl, h.ins, tf_none _ _ (by decide +kernel), _, rfl, _, _, rfl, _, rfl, ?_⟩
    by_cases c : 1 < g
    · rw [if_pos (decide_eq_true c)] at k
      refine ifT (by rw [decide_eq_false (by omega)]; rfl) ?_
      exact ⟨(by show 1 ≤ sizeLine; decide), fun r hr' => k.out h (Same.refl H) hr' rfl⟩
    · have hg : g < 2 := by omega
      rw [if_neg (by simpa using c)] at k
      refine ifF (by rw [decide_eq_true (by omega)]; rfl) ?_
      refine ⟨_, rfl, _, _, rfl, rfl, _, rfl, ?_⟩
      by_cases d : 7 ≤ q
      · rw [if_pos d] at k
        refine ifT (decide_eq_true (p := (7 : Int) ≤ (q : Int)) (by omega)) ?_
        exact ⟨(by show 1 ≤ sizeLine; decide), fun r hr' => k.out h (Same.refl H) hr' rfl⟩
      · rw [if_neg d] at k
        refine ifF (decide_eq_false (p := (7 : Int) ≤ (q : Int)) (by omega)) ?_
        refine ⟨_, rfl, p, _, _, rfl, h.ins, tf_none _ _ (by decide +kernel), _, rfl, _, rfl, p, A, t, q, g, rfl, h, hg, by omega, told_fr fun H1 v s1 f1 => ?_⟩
        exact ⟨v, _, rfl, f1, fun r hr' => k.out h s1 hr' rfl⟩
end
end TG

set_option Elab.async false
set_option maxRecDepth 100000
set_option maxHeartbeats 2000000
namespace TG
open PySem PySem.Spec PyProof.Rows L2
open Krdf (Table act)
abbrev sCAlike : Stmt := top 36
theorem scCAlike : FnScope ["table", "kind"] ["table", "kind"] (defScope sCAlike) := ⟨rfl, rfl, rfl, by decide +kernel, rfl, by decide +kernel, by decide +kernel⟩
def spCAlike (C : Addr) : Sp := fun vs H Q _ => ∃ (p : Addr) (A : Tad) (t : Table) (q : Nat), vs = [.ref p, .int (q : Int)] ∧ TabAt C H p A t ∧
  Answers C H p A (actT t (.alike q)) (ansT t (.alike q)) Q
theorem act_alike_q {t : Table} {q : Nat} (h : 7 ≤ q) : act (some t) (.alike q) = (some t, Krdf.say (-22)) := by
  show (some t, if 7 ≤ q then _ else _) = _
  rw [if_pos h]
theorem act_alike_n {t : Table} {q : Nat} (h : ¬ 7 ≤ q) (b : both t q = false) : act (some t) (.alike q) = (some t, Krdf.say (-33)) := by
  show (some t, if 7 ≤ q then _ else _) = _
  rw [if_neg h]
  unfold both at b
  cases e0 : t.rate q 0 with
  | none => rfl
  | some x =>
    cases e1 : t.rate q 1 with
    | none => rfl
    | some y => rw [e0, e1] at b; cases b
theorem act_alike {t : Table} {q : Nat} (h : ¬ 7 ≤ q) (b : both t q = true) : act (some t) (.alike q) = (some t, Krdf.ask (t.alike q)) := by
  show (some t, if 7 ≤ q then _ else _) = _
  rw [if_neg h]
  unfold both at b
  cases e0 : t.rate q 0 with
  | none => rw [e0] at b; cases b
  | some x =>
    cases e1 : t.rate q 1 with
    | none => rw [e0, e1] at b; cases b
    | some y => rfl
theorem act_gap_q {t : Table} {q : Nat} (h : 7 ≤ q) : act (some t) (.gap q) = (some t, Krdf.say (-22)) := by
  show (some t, if 7 ≤ q then _ else _) = _
  rw [if_pos h]
theorem act_gap_n {t : Table} {q : Nat} (h : ¬ 7 ≤ q) (b : both t q = false) : act (some t) (.gap q) = (some t, Krdf.say (-33)) := by
  show (some t, if 7 ≤ q then _ else _) = _
  rw [if_neg h]
  unfold both at b
  cases e0 : t.rate q 0 with
  | none => rfl
  | some x =>
    cases e1 : t.rate q 1 with
    | none => rfl
    | some y => rw [e0, e1] at b; cases b
theorem act_gap {t : Table} {q : Nat} {x y : Rat} (h : ¬ 7 ≤ q) (e0 : t.rate q 0 = some x) (e1 : t.rate q 1 = some y) : act (some t) (.gap q) = (some t, Krdf.frac (x - y)) := by
  show (some t, if 7 ≤ q then _ else _) = _
  rw [if_neg h, e0, e1]
theorem both_of {t : Table} {q : Nat} (b : both t q = true) : ∃ x y, t.rate q 0 = some x ∧ t.rate q 1 = some y := by
  unfold both at b
  cases e0 : t.rate q 0 with
  | none => rw [e0] at b; cases b
  | some x =>
    cases e1 : t.rate q 1 with
    | none => rw [e0, e1] at b; cases b
    | some y => exact ⟨x, y, rfl, rfl⟩
section
variable {P : Program} {w : World} {K : PySem.W.Frag} {mg : Str → Option Value} {base : Heap} {C : Addr}
theorem ok_calike {f fB fA : Addr} {fd fdB fdA : FuncData} (F : Fun K "alike" "alike" sCAlike f fd) (T : TxtT K mg C) (X : TxtC mg)
    (FB : FnOk P w K mg base CX0 4 fB fdB ["self", "kind"] (spBoth C)) (bB : Binds K fdB ["self", "kind"] []) (mB : Meth K C "has_both" fB)
    (FA : FnOk P w K mg base CX0 5 fA fdA ["self", "kind"] (spAlik C)) (bA : Binds K fdA ["self", "kind"] []) (mA : Meth K C "is_alike" fA) : FnOk P w K mg base CX0 6 f fd ["table", "kind"] (spCAlike C) := by
  refine F.ok scCAlike (fun vs H Q E h => ?_) (fun cdv A outer s H vs Q E hr h => ?_)
  · obtain ⟨p, A, t, q, rfl, _⟩ := h
    rfl
  · obtain ⟨_, g3⟩ := X.g3
    obtain ⟨_, g4⟩ := X.g4
    obtain ⟨_, gK⟩ := T.gK
    have hr4 : Room 4 _ := hr.mono (by decide)
    refine ⟨_, pss_cons (ps_if (pt_cmpR op_ge (pv 1) (pe_glob (v := V.int 7) rfl gK ⟨_, rfl⟩) (nomark _)) (pss_one (ps_ret (pe_lst (pa_cons (pe_glob (v := V.int (-22)) rfl g3 ⟨_, rfl⟩) pa_nil)))) pss_nil)
      (pss_cons (ps_if (pt_not (pt_val (pe_meth (pv 0) T.cl mB FB hr4 bB .nil pass0 (pa_cons (pv 1) pa_nil)))) (pss_one (ps_ret (pe_lst (pa_cons (pe_glob (v := V.int (-33)) rfl g4 ⟨_, rfl⟩) pa_nil)))) pss_nil)
      (pss_one (ps_ret (pe_lst (pa_cons (pe_ifExp (pt_val (pe_meth (pv 0) T.cl mA FA hr bA .nil pass0 (pa_cons (pv 1) pa_nil))) pe_int pe_int) pa_nil))))), ?_⟩
    obtain ⟨p, A, t, q, rfl, h, k⟩ := h
    unfold actT ansT at k
    refine ⟨_, rfl, _, _, rfl, rfl, _, rfl, ?_⟩
    by_cases d : 7 ≤ q
    · rw [act_alike_q d] at k
      refine ifT (decide_eq_true (p := (7 : Int) ≤ (q : Int)) (by omega)) ?_
      exact ⟨(by show 1 ≤ sizeLine; decide), fun r hr' => k.out h (Same.refl H) hr' rfl⟩
    · refine ifF (decide_eq_false (p := (7 : Int) ≤ (q : Int)) (by omega)) ?_
      refine ⟨_, rfl, p, _, _, rfl, h.ins, tf_none _ _ (by decide +kernel), _, rfl, p, A, t, q, rfl, h, by omega, fun H1 s1 => ⟨_, rfl, ?_⟩⟩
      have h1 := h.same s1
      cases b : both t q with
      | false =>
        rw [act_alike_n d b] at k
        refine ifT rfl ?_
        exact ⟨(by show 1 ≤ sizeLine; decide), fun r hr' => k.out h s1 hr' rfl⟩
      | true =>
        rw [act_alike d b] at k
        refine ifF rfl ?_
        refine ⟨_, rfl, p, _, _, rfl, h1.ins, tf_none _ _ (by decide +kernel), _, rfl, p, A, t, q, rfl, h1, by omega, fun H2 s2 => ⟨_, rfl, ?_⟩⟩
        cases e : t.alike q with
        | true =>
          rw [e] at k
          refine ifT rfl ?_
          exact ⟨(by show 1 ≤ sizeLine; decide), fun r hr' => k.out h (s1.trans s2) hr' rfl⟩
        | false =>
          rw [e] at k
          refine ifF rfl ?_
          exact ⟨(by show 1 ≤ sizeLine; decide), fun r hr' => k.out h (s1.trans s2) hr' rfl⟩
abbrev sCGap : Stmt := top 37
abbrev nCGap : List Str := ["table", "kind"]
theorem scCGap : FnScope nCGap ["table", "kind"] (defScope sCGap) := ⟨rfl, rfl, rfl, by decide +kernel, rfl, by decide +kernel, by decide +kernel⟩
def spCGap (C : Addr) : Sp := fun vs H Q _ => ∃ (p : Addr) (A : Tad) (t : Table) (q : Nat), vs = [.ref p, .int (q : Int)] ∧ TabAt C H p A t ∧
  Answers C H p A (actT t (.gap q)) (ansT t (.gap q)) Q
theorem ok_cgap {f fB fR fD fT : Addr} {fd fdB fdR fdD fdT : FuncData} (F : Fun K "gap" "gap" sCGap f fd) (T : TxtT K mg C) (X : TxtC mg)
    (FB : FnOk P w K mg base CX0 4 fB fdB ["self", "kind"] (spBoth C)) (bB : Binds K fdB ["self", "kind"] []) (mB : Meth K C "has_both" fB)
    (FR : FnOk P w K mg base CX0 3 fR fdR nRate (spRate C)) (bR : Binds K fdR nRate []) (mR : Meth K C "rate" fR)
    (FD : FnOk P w K mg base CX0 2 fD fdD ["first", "second"] (spDiff K)) (bD : Binds K fdD ["first", "second"] []) (kD : PySem.W.keepIn K (.ref fD) = true) (gD : mg "difference" = some (.ref fD))
    (FT : FnOk P w K mg base CX0 1 fT fdT ["fraction"] spTold) (bT : Binds K fdT ["fraction"] []) (kT : PySem.W.keepIn K (.ref fT) = true) (gT : mg "told_fraction" = some (.ref fT)) : FnOk P w K mg base CX0 5 f fd ["table", "kind"] (spCGap C) := by
  refine F.ok scCGap (fun vs H Q E h => ?_) (fun cdv A outer s H vs Q E hr h => ?_)
  · obtain ⟨p, A, t, q, rfl, _⟩ := h
    rfl
  · obtain ⟨_, g3⟩ := X.g3
    obtain ⟨_, g4⟩ := X.g4
    obtain ⟨_, gK⟩ := T.gK
    have hr3 : Room 3 _ := hr.mono (by decide)
    have hr2 : Room 2 _ := hr.mono (by decide)
    have hr1 : Room 1 _ := hr.mono (by decide)
    refine ⟨_, pss_cons (ps_if (pt_cmpR op_ge (pv 1) (pe_glob (v := V.int 7) rfl gK ⟨_, rfl⟩) (nomark _)) (pss_one (ps_ret (pe_lst (pa_cons (pe_glob (v := V.int (-22)) rfl g3 ⟨_, rfl⟩) pa_nil)))) pss_nil)
      (pss_cons (ps_if (pt_not (pt_val (pe_meth (pv 0) T.cl mB FB hr bB .nil pass0 (pa_cons (pv 1) pa_nil)))) (pss_one (ps_ret (pe_lst (pa_cons (pe_glob (v := V.int (-33)) rfl g4 ⟨_, rfl⟩) pa_nil)))) pss_nil)
      (pss_one (ps_ret (pe_call FT hr1 rfl gT kT bT .nil pass0 (pa_cons (pe_call FD hr2 rfl gD kD bD .nil pass0 (pa_cons (pe_meth (pv 0) T.cl mR FR hr3 bR .nil pass0 (pa_cons (pv 1) (pa_cons pe_int pa_nil))) (pa_cons (pe_meth (pv 0) T.cl mR FR hr3 bR .nil pass0 (pa_cons (pv 1) (pa_cons pe_int pa_nil))) pa_nil))) pa_nil))))), ?_⟩
    obtain ⟨p, A, t, q, rfl, h, k⟩ := h
    have W := h.wf
    unfold actT ansT at k
    refine ⟨_, rfl, _, _, rfl, rfl, _, rfl, ?_⟩
    by_cases d : 7 ≤ q
    · rw [act_gap_q d] at k
      refine ifT (decide_eq_true (p := (7 : Int) ≤ (q : Int)) (by omega)) ?_
      exact ⟨(by show 1 ≤ sizeLine; decide), fun r hr' => k.out h (Same.refl H) hr' rfl⟩
    · refine ifF (decide_eq_false (p := (7 : Int) ≤ (q : Int)) (by omega)) ?_
      refine ⟨_, rfl, p, _, _, rfl, h.ins, tf_none _ _ (by decide +kernel), _, rfl, p, A, t, q, rfl, h, by omega, fun H1 s1 => ⟨_, rfl, ?_⟩⟩
      have h1 := h.same s1
      cases b : both t q with
      | false =>
        rw [act_gap_n d b] at k
        refine ifT rfl ?_
        exact ⟨(by show 1 ≤ sizeLine; decide), fun r hr' => k.out h s1 hr' rfl⟩
      | true =>
        obtain ⟨x, y, e0, e1⟩ := both_of b
        rw [act_gap d e0 e1] at k
        refine ifF rfl ?_
        refine ⟨_, rfl, p, _, _, rfl, h1.ins, tf_none _ _ (by decide +kernel), _, rfl, p, A, t, q, 0, rfl, h1, by decide, by omega, fun H2 s2 => ?_⟩
        rw [e0]
        intro p2 f2 q2
        have h2 := h1.same s2
        refine ⟨_, rfl, p, _, _, rfl, h2.ins, tf_none _ _ (by decide +kernel), _, rfl, p, A, t, q, 1, rfl, h2, by decide, by omega, fun H3 s3 => ?_⟩
        rw [e1]
        intro p3 f3 q3
        have dx : x.den ≤ 792 := by rw [rate_C] at e0; exact rate_den (W.cells (by decide)) W.k4 e0
        have dy : y.den ≤ 792 := by rw [rate_C] at e1; exact rate_den (W.cells (by decide)) W.k4 e1
        refine ⟨p2, p3, x, y, rfl, SqT.of (s3 _ _ q2), SqT.of q3, dx, dy, fun H4 p4 s4 f4 q4 => ?_⟩
        exact ⟨_, some (x - y), rfl, ⟨p4, rfl, q4⟩, fun r hr' => k.out h (((s1.trans s2).trans s3).trans s4) hr' rfl⟩
abbrev sCWhich : Stmt := top 38
abbrev nCWhich : List Str := ["table", "kinds", "kind"]
theorem scCWhich : FnScope nCWhich ["table"] (defScope sCWhich) := ⟨rfl, rfl, rfl, by decide +kernel, rfl, by decide +kernel, by decide +kernel⟩
def spCWhich (C : Addr) : Sp := fun vs H Q _ => ∃ (p : Addr) (A : Tad) (t : Table), vs = [.ref p] ∧ TabAt C H p A t ∧
  Answers C H p A (actT t .which) (ansT t .which) Q
def kindsTo (t : Table) (i : Nat) : List Int := ((List.range i).filter t.alike).map fun (q : Nat) => (q : Int)
theorem kinds_yes {t : Table} {i : Nat} (h : t.alike i = true) : kindsTo t (i + 1) = kindsTo t i ++ [(i : Int)] := by
  unfold kindsTo
  rw [List.range_succ, List.filter_append, List.map_append]
  simp [h]
theorem kinds_not {t : Table} {i : Nat} (h : t.alike i = false) : kindsTo t (i + 1) = kindsTo t i := by
  unfold kindsTo
  rw [List.range_succ, List.filter_append, List.map_append]
  simp [h]
theorem kinds_len (t : Table) (i : Nat) : (kindsTo t i).length ≤ i := by
  unfold kindsTo
  rw [List.length_map]
  have := List.length_filter_le t.alike (List.range i)
  rw [List.length_range] at this
  exact this
theorem ok_cwhich {f fA : Addr} {fd fdA : FuncData} (F : Fun K "which" "which" sCWhich f fd) (T : TxtT K mg C)
    (FA : FnOk P w K mg base CX0 5 fA fdA ["self", "kind"] (spAlik C)) (bA : Binds K fdA ["self", "kind"] []) (mA : Meth K C "is_alike" fA) (mR : mg "range" = Option.none) (mL : mg "len" = Option.none) : FnOk P w K mg base CX0 6 f fd ["table"] (spCWhich C) := by
  refine F.ok scCWhich (fun vs H Q E h => ?_) (fun cdv A outer s H vs Q E hr h => ?_)
  · obtain ⟨p, A, t, rfl, _⟩ := h
    rfl
  · obtain ⟨_, gK⟩ := T.gK
    refine ⟨_, pss_cons (ps_setLc (i := 1) (own := [("kind", 2)]) (g := gName 2) (tt := tB (tMeth C "is_alike" (spAlik C) [] E0 (tVar 0) (tCons (tVar 2) tNil))) (te := tVar 2) (by rfl) scCWhich.nd rfl rfl (sw_true rfl rfl rfl (by decide +kernel))
        (pi_range1 (by rfl) mR (pa_cons (pe_glob (v := V.int 7) rfl gK ⟨_, rfl⟩) pa_nil)) (blkOk_by (own := [("kind", 2)]) (N := nCWhich) (sc := defScope sCWhich) (by decide +kernel))
        (fun _ _ _ _ _ => pg_name (i := 2) scCWhich.nd rfl (Or.inl rfl)) (fun _ _ _ _ _ => pts_one (pt_val (pe_meth (pv 0) T.cl mA FA hr bA .nil pass0 (pa_cons (pv 2) pa_nil)))) (fun _ _ _ _ _ => pv 2))
      (pss_one (ps_ret (pe_op op_cat (pe_lst (pa_cons (pe_callB call_len_seq (by rfl) mL PySem.boot_len (pa_cons (pv 1) pa_nil)) pa_nil)) (pv 1)))), ?_⟩
    obtain ⟨p, A, t, rfl, h, k⟩ := h
    have ek : ansT t .which = ((kindsTo t 7).length : Int) :: kindsTo t 7 := by
      show KrdfNeutral.told (Krdf.list ((List.range 7).filter t.alike)) = _
      unfold kindsTo
      rw [List.length_map]
      rfl
    have e1 : actT t .which = t := rfl
    rw [e1, ek] at k
    refine ⟨_, rfl, by decide, by decide, fun D hD => ?_⟩
    refine lc_range (lo := 0) (n := 7) (fun i H' => Same H H' ∧ H' D = some (.lst ((kindsTo t i).map V.int))) ⟨Same.new hD, upd_same⟩ ?_ ?_
    · rintro i H' hi ⟨hs, hd⟩
      have h' := h.same hs
      have i0 : (0 : Int) + (i : Int) = (i : Int) := by omega
      rw [i0]
      have hlen := kinds_len t i
      refine ⟨rfl, ?_⟩
      refine ⟨_, rfl, p, _, _, rfl, h'.ins, tf_none _ _ (by decide +kernel), _, rfl, p, A, t, i, rfl, h', hi, fun H2 s2 => ⟨_, rfl, ?_⟩⟩
      cases e : t.alike i with
      | true =>
        refine ifT rfl ?_
        refine ⟨_, rfl, _, s2 _ _ hd, ?_, ?_, ?_⟩
        · rw [List.length_map]
          exact small1000 (by omega)
        · intro q o z
          rw [upd_ne (ne_of_none z hD)]
          exact s2 _ _ (hs _ _ z)
        · rw [upd_same, kinds_yes e, List.map_append]
          rfl
      | false =>
        refine ifF rfl ?_
        rw [kinds_not e]
        exact ⟨hs.trans s2, s2 _ _ hd⟩
    · rintro H' ⟨hs, hd⟩
      have hlen := kinds_len t 7
      refine ⟨_, rfl, D, _, rfl, .inl (SqL.of hd), (by show 1 ≤ sizeLine; decide), fun l hl => ?_⟩
      generalize e2 : upd H' l _ = H2
      have a2 := new_at hl e2
      refine ⟨_, rfl, l, D, _, _, rfl, rfl, a2.2, a2.1 _ _ hd, ?_, fun r hr' => ?_⟩
      · rw [List.length_map]
        show 1 + _ ≤ 2 ^ 24
        omega
      · refine k.out h (hs.trans a2.1) hr' ?_
        rw [List.length_map]
        rfl
end
end TG

set_option Elab.async false
set_option maxRecDepth 100000
set_option maxHeartbeats 2000000
namespace TG
open PySem PySem.Spec PyProof.Rows L2
open Krdf (Table act Abs)
open PyFlat (put1)
/-! The session in the heap -/
def sesF (v : V) : List (Str × V) := [("table", v)]
theorem sf_table (v : V) : (sesF v).lookup ("table" : Str) = some v := lkHit
theorem sf_none (v : V) {m : Str} (h : (m == "table") = false) : (sesF v).lookup m = none := (lkMiss h).trans rfl
def SessAt (CS C : Addr) (H : Hp) (x : Addr) (s : Abs) (F : List Addr) : Prop := match s with
  | Option.none => (∃ dx, H x = some (.ins CS dx (sesF .non))) ∧ F = []
  | some t => ∃ dx p A, H x = some (.ins CS dx (sesF (.ref p))) ∧ TabAt C H p A t ∧ F = A.fp p
/-- what is in the table's objects is a list or has the table's attributes -/
theorem fp_kind {C : Addr} {H : Hp} {p b : Addr} {A : Tad} {t : Table} (T : TabAt C H p A t) (h : b ∈ A.fp p) : (∃ l, H b = some (.lst l)) ∨ ∃ dx, H b = some (.ins C dx (tabF t.k A)) := by
  have R := T.raw
  simp only [Tad.fp, List.mem_cons, List.not_mem_nil, or_false] at h
  rcases h with e | e | e | e | e | e | e | e | e | e <;> subst e
  · exact .inr ⟨_, R.ins⟩
  · exact .inl ⟨_, R.ha⟩
  · exact .inl ⟨_, R.hb⟩
  · exact .inl ⟨_, R.hc⟩
  · exact .inl ⟨_, R.hs 0 (by decide)⟩
  · exact .inl ⟨_, R.hs 1 (by decide)⟩
  · exact .inl ⟨_, R.hn 0 (by decide)⟩
  · exact .inl ⟨_, R.hn 1 (by decide)⟩
  · exact .inl ⟨_, R.hr 0 (by decide)⟩
  · exact .inl ⟨_, R.hr 1 (by decide)⟩
theorem ses_fp {C CS : Addr} {H : Hp} {p x dx : Addr} {A : Tad} {t : Table} {v : V} (T : TabAt C H p A t) (h : H x = some (.ins CS dx (sesF v))) : x ∉ A.fp p := by
  intro m
  rcases fp_kind T m with ⟨l, e⟩ | ⟨d, e⟩
  · rw [h] at e; cases e
  · rw [h] at e
    have z := congrArg (fun o => match o with | some (HO.ins _ _ fs) => fs.length | _ => 0) e
    exact absurd (show (1 : Nat) = 4 from z) (by decide)
theorem SessAt.obj {CS C : Addr} {H : Hp} {x : Addr} {s : Abs} {F : List Addr} (h : SessAt CS C H x s F) : ∃ dx v, H x = some (.ins CS dx (sesF v)) := by
  cases s with
  | none => obtain ⟨⟨dx, e⟩, _⟩ := h; exact ⟨dx, _, e⟩
  | some t => obtain ⟨dx, p, A, e, _⟩ := h; exact ⟨dx, _, e⟩
theorem SessAt.same {CS C : Addr} {H H' : Hp} {x : Addr} {s : Abs} {F : List Addr} (h : SessAt CS C H x s F) (e : Same H H') : SessAt CS C H' x s F := by
  cases s with
  | none => obtain ⟨⟨dx, q⟩, f⟩ := h; exact ⟨⟨dx, e _ _ q⟩, f⟩
  | some t => obtain ⟨dx, p, A, q, T, f⟩ := h; exact ⟨dx, p, A, e _ _ q, T.same e, f⟩
/-- what a call on the session leaves and answers -/
def SAns (CS C : Addr) (H : Hp) (x : Addr) (F : List Addr) (s : Abs) (ans : List Int) (Q : VK) : Prop :=
  ∀ H' F' r, SessAt CS C H' x s F' → But H H' (x :: F) → (∀ b ∈ F', b ∈ F ∨ H b = Option.none) → (r ∈ F ∨ H r = Option.none) → r ∉ F' → H' r = some (.lst (ans.map V.int)) → Q (.ref r) H'
structure TxtS (K : PySem.W.Frag) (mg : Str → Option Value) (CS C : Addr) : Prop where
  cl : Cls K CS
  nT : NoAttr K CS "table"
  gT : mg "Table" = some (.ref C)
  gB : ∃ t, mg "BEGIN" = some (.int 0 t)
abbrev sSess : Stmt := top 47
abbrev sSinit : Stmt := inClass sSess 0
abbrev sSbeg : Stmt := inClass sSess 1
abbrev sSans : Stmt := inClass sSess 2
theorem scSinit : FnScope ["self"] ["self"] (defScope sSinit) := ⟨rfl, rfl, rfl, by decide +kernel, rfl, by decide +kernel, by decide +kernel⟩
def spSinit (CS C : Addr) : Sp := fun vs H Q _ => ∃ (x dx : Addr), vs = [.ref x] ∧ H x = some (.ins CS dx []) ∧ ∀ H', SessAt CS C H' x Option.none [] → But H H' [x] → Q .non H'
section
variable {P : Program} {w : World} {K : PySem.W.Frag} {mg : Str → Option Value} {base : Heap} {C CS : Addr}
theorem ok_sinit {f : Addr} {fd : FuncData} (F : Fun K "__init__" "Session.__init__" sSinit f fd) (S : TxtS K mg CS C) : FnOk P w K mg base CX0 1 f fd ["self"] (spSinit CS C) := by
  refine F.ok scSinit (fun vs H Q E h => ?_) (fun cdv A outer s H vs Q E hr h => ?_)
  · obtain ⟨x, dx, rfl, _⟩ := h
    rfl
  · refine ⟨_, pss_one (ps_fld (pv 0) pe_non rfl), ?_⟩
    obtain ⟨x, dx, rfl, hx, k⟩ := h
    refine ⟨_, rfl, x, CS, dx, [], rfl, hx, S.cl, S.nT, (by show 0 < 1000; decide), ?_⟩
    exact k _ ⟨⟨dx, upd_same⟩, rfl⟩ (But.put (List.mem_singleton_self x) rfl)
theorem scSbeg : FnScope ["self", "scores"] ["self", "scores"] (defScope sSbeg) := ⟨rfl, rfl, rfl, by decide +kernel, rfl, by decide +kernel, by decide +kernel⟩
def spSbeg (CS C : Addr) : Sp := fun vs H Q _ => ∃ (x : Addr) (s : Abs) (F : List Addr) (k : Nat), vs = [.ref x, .int (k : Int)] ∧ SessAt CS C H x s F ∧
  SAns CS C H x F (act s (.begin_ k)).1 (KrdfNeutral.told (act s (.begin_ k)).2) Q
theorem act_begin_no {s : Abs} {k : Nat} (h : k = 0 ∨ 4 < k) : act s (.begin_ k) = (s, Krdf.say (-22)) := by
  show (if (decide (k = 0) || decide (4 < k)) = true then _ else _) = _
  rw [if_pos]
  simpa using h
theorem act_begin {s : Abs} {k : Nat} (h : 1 ≤ k ∧ k ≤ 4) : act s (.begin_ k) = (some (Krdf.empty k), Krdf.say 0) := by
  show (if (decide (k = 0) || decide (4 < k)) = true then _ else _) = _
  rw [if_neg]
  simp
  omega
theorem SAns.out {H H1 : Hp} {x l : Addr} {F : List Addr} {s : Abs} {ans : List Int} {xs : List V} {Q : VK} (h : SAns CS C H x F s ans Q) (T : SessAt CS C H x s F) (e : Same H H1) (hl : H1 l = Option.none) (z : xs = ans.map V.int) : Q (.ref l) (upd H1 l (.lst xs)) := by
  have s2 : Same H (upd H1 l (.lst xs)) := e.trans (Same.new hl)
  have hf := e.free hl
  refine h _ F l (T.same s2) (But.of s2) (fun b hb => .inl hb) (.inr hf) ?_ ?_
  · cases s with
    | none => obtain ⟨_, f⟩ := T; rw [f]; exact List.not_mem_nil
    | some t => obtain ⟨_, p, A, _, T, f⟩ := T; rw [f]; exact fp_free T hf
  · rw [upd_same, z]
theorem ok_sbeg {f fI : Addr} {fd fdI : FuncData} (F : Fun K "begin" "Session.begin" sSbeg f fd) (S : TxtS K mg CS C) (X : TxtC mg) (M : Mk K C fI)
    (FI : FnOk P w K mg base CX0 1 fI fdI ["self", "scores"] (spTinit C)) (bI : Binds K fdI ["self", "scores"] []) : FnOk P w K mg base CX0 3 f fd ["self", "scores"] (spSbeg CS C) := by
  refine F.ok scSbeg (fun vs H Q E h => ?_) (fun cdv A outer s H vs Q E hr h => ?_)
  · obtain ⟨x, s, F, k, rfl, _⟩ := h
    rfl
  · obtain ⟨_, g3⟩ := X.g3
    obtain ⟨_, g5⟩ := X.g5
    refine ⟨_, pss_cons (ps_if (PW.pt (pw_or (pt_cmpR op_lt (pv 1) pe_int (nomark _)) (pw_or1 (pt_cmpR op_gt (pv 1) (pe_glob (v := V.int 4) rfl g5 ⟨_, rfl⟩) (nomark _))))) (pss_one (ps_ret (pe_lst (pa_cons (pe_glob (v := V.int (-22)) rfl g3 ⟨_, rfl⟩) pa_nil)))) pss_nil)
      (pss_cons (ps_fld (pv 0) (pe_make M FI hr rfl S.gT bI .nil pass0 (pa_cons (pv 1) pa_nil)) rfl)
      (pss_one (ps_ret (pe_lst (pa_cons pe_int pa_nil))))), ?_⟩
    obtain ⟨x, s, F, k, rfl, h, kk⟩ := h
    refine ⟨_, rfl, _, _, rfl, rfl, _, rfl, ?_⟩
    by_cases c0 : k = 0
    · rw [act_begin_no (.inl c0)] at kk
      refine ifT (decide_eq_true (p := (k : Int) < 1) (by omega)) ?_
      refine ifT rfl ?_
      exact ⟨(by show 1 ≤ sizeLine; decide), fun r hr' => kk.out h (Same.refl H) hr' rfl⟩
    · refine ifF (decide_eq_false (p := (k : Int) < 1) (by omega)) ?_
      refine ⟨_, rfl, _, _, rfl, rfl, _, rfl, ?_⟩
      by_cases c4 : 4 < k
      · rw [act_begin_no (.inr c4)] at kk
        refine ifT (decide_eq_true (p := (4 : Int) < (k : Int)) (by omega)) ?_
        exact ⟨(by show 1 ≤ sizeLine; decide), fun r hr' => kk.out h (Same.refl H) hr' rfl⟩
      · rw [act_begin ⟨by omega, by omega⟩] at kk
        refine ifF (decide_eq_false (p := (4 : Int) < (k : Int)) (by omega)) ?_
        obtain ⟨dx, v, hx⟩ := h.obj
        refine ⟨_, rfl, fun p dp np nd ne => ?_⟩
        generalize e1 : upd (upd H dp _) p _ = H1
        have hp1 : H1 p = some (.ins C dp []) := by rw [← e1]; exact upd_same
        have s1 : Same H H1 := fun b o e => by
          rw [← e1, upd_ne (ne_of_none e np), upd_ne (ne_of_none e nd)]
          exact e
        refine ⟨p, dp, k, rfl, hp1, by omega, by omega, fun H2 A2 T2 b2 n2 => ⟨rfl, ?_⟩⟩
        have xp : x ≠ p := ne_of_none hx np
        have hx2 : H2 x = some (.ins CS dx (sesF v)) := b2 _ _ (s1 _ _ hx) (fun m => xp (List.mem_singleton.mp m))
        refine ⟨_, rfl, x, CS, dx, _, rfl, hx2, S.cl, S.nT, (by show 1 < 1000; decide), ?_⟩
        have ep : putF "table" (.ref p) (sesF v) = sesF (.ref p) := rfl
        rw [ep]
        generalize e3 : upd H2 x _ = H3
        have hx3 : H3 x = some (.ins CS dx (sesF (.ref p))) := by rw [← e3]; exact upd_same
        have xf : x ∉ A2.fp p := ses_fp T2 hx2
        have T3 : TabAt C H3 p A2 (Krdf.empty k) := ⟨T2.wf, T2.raw.same fun b o e m => by
          rw [← e3, upd_ne (fun z => xf (by rw [← z]; exact m))]
          exact e⟩
        refine ⟨(by show 1 ≤ sizeLine; decide), fun r hr' => ?_⟩
        have hr2 : H2 r = Option.none := by
          by_cases z : r = x
          · rw [z, hx3] at hr'; cases hr'
          · rw [← e3, upd_ne z] at hr'; exact hr'
        have hrH : H r = Option.none := by
          cases q : H r with
          | none => rfl
          | some o =>
            have rp : r ≠ p := ne_of_none q np
            rw [b2 _ _ (s1 _ _ q) (fun m => rp (List.mem_singleton.mp m))] at hr2
            cases hr2
        have sN := Same.new (o := .lst [V.int 0]) hr'
        refine kk _ (A2.fp p) r ⟨dx, p, A2, sN _ _ hx3, T3.same sN, rfl⟩ (fun b o e m => ?_) (fun b hb => .inr ?_) (.inr hrH) (fp_free T3 hr') upd_same
        · refine sN _ _ ?_
          have bx : b ≠ x := fun z => m (by rw [z]; exact List.mem_cons_self)
          rw [← e3, upd_ne bx]
          exact b2 _ _ (s1 _ _ e) (fun z => ne_of_none e np (List.mem_singleton.mp z))
        · rcases n2 b hb with z | z
          · rw [z]; exact np
          · exact s1.free z
end
end TG

set_option Elab.async false
set_option maxRecDepth 100000
set_option maxHeartbeats 2000000
namespace TG
open PySem PySem.Spec PyProof.Rows L2
open Krdf (Table act Abs)
open PyFlat (put1 put)
theorem act_some (t : Table) (c : Krdf.Call) : (act (some t) c).1 = some (actT t c) := by
  unfold actT
  cases h : (act (some t) c).1 with
  | some u => rfl
  | none =>
    exfalso
    cases c with
    | begin_ k =>
      by_cases q : 1 ≤ k ∧ k ≤ 4
      · rw [act_begin q] at h; cases h
      · rw [act_begin_no (by omega)] at h; cases h
    | take_ =>
      have e : (act (some t) .take_).1 = match t.best with
        | Option.none => some t
        | some y => some { t with rules := y.2 } := by
        show (match t.best with
          | Option.none => (some t, Krdf.say (-33))
          | some y => (some { t with rules := y.2 }, Krdf.nat y.1)).1 = _
        cases t.best <;> rfl
      rw [e] at h
      cases q : t.best with
      | none => rw [q] at h; cases h
      | some y => rw [q] at h; cases h
    | count g s y n =>
      revert h
      show (if (decide (1 < g) || decide (t.k ≤ s)) = true then _ else if (decide (Krdf.mostCount < y) || decide (Krdf.mostCount < n)) = true then _ else _ : Abs × Krdf.Ans).1 = Option.none → False
      split
      · intro z; cases z
      · split <;> (intro z; cases z)
    | rule g l =>
      revert h
      show (if decide (1 < g) = true then _ else if (decide (l.length ≠ t.k) || !(l.all fun v => decide (v ≤ 1))) = true then _ else _ : Abs × Krdf.Ans).1 = Option.none → False
      split
      · intro z; cases z
      · split <;> (intro z; cases z)
    | above g s =>
      revert h
      show (if (decide (1 < g) || decide (t.k ≤ s)) = true then _ else _ : Abs × Krdf.Ans).1 = Option.none → False
      split <;> (intro z; cases z)
    | rate q g => cases h
    | alike q => cases h
    | gap q => cases h
    | which => cases h
    | best => cases h
    | cell g s => cases h
    | people g => cases h
    | ifpick g s q => cases h
    | state => cases h
/-- the call's number -/
def num (c : List (List Int)) : Int := (c.headD []).getD 0 0
theorem put1_head {c : List (List Int)} (f : Form c) : (put1 c)[0]? = some (num c) := by
  cases f <;> rfl
/-- answer_begun's promise -/
def spBegun (K : PySem.W.Frag) (C : Addr) : Sp := fun vs H Q _ => ∃ (p a : Addr) (A : Tad) (t : Table) (c : List (List Int)), vs = [.ref p, .ref a] ∧ TabAt C H p A t ∧ SqL K H a ((put1 c).map V.int) ∧ Form c ∧ (∀ z ∈ put1 c, 0 ≤ z) ∧ num c ≠ 0 ∧
  Answers C H p A (actT t (KrdfNeutral.call c)) (ansT t (KrdfNeutral.call c)) Q
def spSans (K : PySem.W.Frag) (CS C : Addr) : Sp := fun vs H Q _ => ∃ (x a : Addr) (s : Abs) (F : List Addr) (c : List (List Int)), vs = [.ref x, .ref a] ∧ SessAt CS C H x s F ∧ SqL K H a ((put1 c).map V.int) ∧ Form c ∧ (∀ z ∈ put1 c, 0 ≤ z) ∧
  SAns CS C H x F (KrdfNeutral.step s c).1 (KrdfNeutral.step s c).2 Q
theorem scSans : FnScope ["self", "call"] ["self", "call"] (defScope sSans) := ⟨rfl, rfl, rfl, by decide +kernel, rfl, by decide +kernel, by decide +kernel⟩
theorem form_begin {c : List (List Int)} (f : Form c) (h : num c = 0) : ∃ k, c = [[0, k]] := by
  cases f with
  | begin_ k => exact ⟨k, rfl⟩
  | _ => simp [num] at h
theorem step_none {c : List (List Int)} (f : Form c) (h : num c ≠ 0) : KrdfNeutral.step Option.none c = (Option.none, [-11]) := by
  cases f with
  | begin_ k => exact absurd rfl h
  | _ => rfl
section
variable {P : Program} {w : World} {K : PySem.W.Frag} {mg : Str → Option Value} {base : Heap} {C CS : Addr}
theorem ok_sans {f fB fA : Addr} {fd fdB fdA : FuncData} {n : Nat} (F : Fun K "answer" "Session.answer" sSans f fd) (S : TxtS K mg CS C) (X : TxtC mg)
    (FB : FnOk P w K mg base CX0 3 fB fdB ["self", "scores"] (spSbeg CS C)) (bB : Binds K fdB ["self", "scores"] []) (mB : Meth K CS "begin" fB)
    (FA : FnOk P w K mg base CX0 (n + 3) fA fdA ["table", "call"] (spBegun K C)) (bA : Binds K fdA ["table", "call"] []) (kA : PySem.W.keepIn K (.ref fA) = true) (gA : mg "answer_begun" = some (.ref fA)) :
    FnOk P w K mg base CX0 (n + 4) f fd ["self", "call"] (spSans K CS C) := by
  refine F.ok scSans (fun vs H Q E h => ?_) (fun cdv A outer s H vs Q E hr h => ?_)
  · obtain ⟨x, a, s, F, c, rfl, _⟩ := h
    rfl
  · obtain ⟨_, g0⟩ := S.gB
    obtain ⟨_, g2⟩ := X.g2
    have hr3 : Room 3 _ := hr.mono (by omega)
    refine ⟨_, pss_cons (ps_if (pt_cmpR op_eq (pe_ix ix_list (pv 1) pe_int (fun _ _ => rfl)) (pe_glob (v := V.int 0) rfl g0 ⟨_, rfl⟩) (nomark _)) (pss_one (ps_ret (pe_meth (pv 0) S.cl mB FB hr3 bB .nil pass0 (pa_cons (pe_ix ix_list (pv 1) pe_int (fun _ _ => rfl)) pa_nil)))) pss_nil)
      (pss_cons (ps_if (pt_cmpR op_isN (pe_fld (pv 0) rfl) pe_non (nomark _)) (pss_one (ps_ret (pe_lst (pa_cons (pe_glob (v := V.int (-11)) rfl g2 ⟨_, rfl⟩) pa_nil)))) pss_nil)
      (pss_one (ps_ret (pe_call FA hr rfl gA kA bA .nil pass0 (pa_cons (pe_fld (pv 0) rfl) (pa_cons (pv 1) pa_nil)))))), ?_⟩
    obtain ⟨x, a, s, F, c, rfl, h, ha, fo, pos, k⟩ := h
    have e0 : ((put1 c).map V.int)[0]? = some (.int (num c)) := by rw [List.getElem?_map, put1_head fo]; rfl
    refine ⟨_, rfl, a, _, _, _, rfl, rfl, ha, atI_nat (j := 0) e0, rfl, _, rfl, ?_⟩
    by_cases z : num c = 0
    · refine ifT (by rw [z]; rfl) ?_
      obtain ⟨kk, rfl⟩ := form_begin fo z
      have hk : 0 ≤ kk := pos kk (by simp [put1, PyFlat.putRows])
      obtain ⟨dx, v, hx⟩ := h.obj
      refine ⟨_, rfl, x, _, _, rfl, hx, sf_none _ (by decide +kernel), _, rfl, a, _, _, _, rfl, rfl, ha, atI_nat (j := 1) rfl, ?_⟩
      refine ⟨x, s, F, kk.toNat, by rw [Int.toNat_of_nonneg hk]; rfl, h, ?_⟩
      exact k
    · refine ifF (decide_eq_false (fun q => z (by injection q))) ?_
      cases s with
      | none =>
        obtain ⟨⟨dx, hx⟩, hF⟩ := id h
        rw [step_none fo z] at k
        refine ⟨_, rfl, x, CS, dx, _, _, rfl, hx, S.cl, S.nT, sf_table _, rfl, _, rfl, ifT rfl ?_⟩
        exact ⟨(by show 1 ≤ sizeLine; decide), fun r hr' => k.out h (Same.refl H) hr' rfl⟩
      | some t =>
        obtain ⟨dx, p, A, hx, T, hF⟩ := id h
        refine ⟨_, rfl, x, CS, dx, _, _, rfl, hx, S.cl, S.nT, sf_table _, rfl, _, rfl, ifF rfl ?_⟩
        refine ⟨_, rfl, x, CS, dx, _, _, rfl, hx, S.cl, S.nT, sf_table _, _, rfl, p, a, A, t, c, rfl, T, ha, fo, pos, z, fun H1 A1 r T1 b1 n1 fr nr hr1 => ?_⟩
        have xf : x ∉ A.fp p := ses_fp T hx
        have hx1 := b1 _ _ hx xf
        subst hF
        refine k H1 (A1.fp p) r ?_ (fun b o e m => b1 b o e (fun q => m (List.mem_cons_of_mem _ q))) n1 fr nr hr1
        have e : (KrdfNeutral.step (some t) c).1 = some (actT t (KrdfNeutral.call c)) := act_some t _
        rw [e]
        exact ⟨dx, p, A1, hx1, T1, rfl⟩
end
end TG

set_option Elab.async false
set_option maxRecDepth 100000
set_option maxHeartbeats 2000000
namespace TG
open PySem PySem.Spec PyProof.Rows L2
open Krdf (Table act)
/-! cell, people, state -/
abbrev sCell : Stmt := top 42
abbrev nCell : List Str := ["table", "group", "score"]
theorem scCell : FnScope nCell nCell (defScope sCell) := ⟨rfl, rfl, rfl, by decide +kernel, rfl, by decide +kernel, by decide +kernel⟩
def spCell (C : Addr) : Sp := fun vs H Q _ => ∃ (p : Addr) (A : Tad) (t : Table) (g s : Nat), vs = [.ref p, .int (g : Int), .int (s : Int)] ∧ TabAt C H p A t ∧
  Answers C H p A (actT t (.cell g s)) (ansT t (.cell g s)) Q
theorem has_no {g s k : Nat} (c : ¬ (g < 2 ∧ s < k)) : (decide ((g : Int) < 2) && decide ((s : Int) < (k : Int))) = false ∧ (decide (1 < g) || decide (k ≤ s)) = true := by
  refine ⟨?_, ?_⟩
  · rw [Bool.and_eq_false_iff, decide_eq_false_iff_not, decide_eq_false_iff_not]; omega
  · simp; omega
theorem has_yes {g s k : Nat} (c : g < 2 ∧ s < k) : (decide ((g : Int) < 2) && decide ((s : Int) < (k : Int))) = true ∧ (decide (1 < g) || decide (k ≤ s)) = false := by
  refine ⟨?_, ?_⟩
  · simp; omega
  · simp; omega
section
variable {P : Program} {w : World} {K : PySem.W.Frag} {mg : Str → Option Value} {base : Heap} {C : Addr}
theorem ok_cell {f fH : Addr} {fd fdH : FuncData} (F : Fun K "cell" "cell" sCell f fd) (T : TxtT K mg C) (X : TxtC mg)
    (FH : FnOk P w K mg base CX0 2 fH fdH ["self", "group", "score"] (spHasC C)) (bH : Binds K fdH ["self", "group", "score"] []) (mH : Meth K C "has_cell" fH) : FnOk P w K mg base CX0 3 f fd nCell (spCell C) := by
  refine F.ok scCell (fun vs H Q E h => ?_) (fun cdv A outer s H vs Q E hr h => ?_)
  · obtain ⟨p, A, t, g, s, rfl, _⟩ := h
    rfl
  · obtain ⟨_, g1⟩ := X.g1
    refine ⟨_, pss_cons (ps_if (pt_not (pt_val (pe_meth (pv 0) T.cl mH FH hr bH .nil pass0 (pa_cons (pv 1) (pa_cons (pv 2) pa_nil))))) (pss_one (ps_ret (pe_lst (pa_cons (pe_glob (v := V.int (-2)) rfl g1 ⟨_, rfl⟩) pa_nil)))) pss_nil)
      (pss_one (ps_ret (pe_lst (pa_cons (pe_ix ix_list (pe_ix ix_list (pe_fld (pv 0) rfl) (pv 1) (fun _ _ => rfl)) (pv 2) (fun _ _ => rfl)) (pa_cons (pe_ix ix_list (pe_ix ix_list (pe_fld (pv 0) rfl) (pv 1) (fun _ _ => rfl)) (pv 2) (fun _ _ => rfl)) pa_nil))))), ?_⟩
    obtain ⟨p, A, t, g, s, rfl, h, k⟩ := h
    have W := h.wf
    have e1 : actT t (.cell g s) = t := rfl
    have e2 : ansT t (.cell g s) = KrdfNeutral.told (if (decide (1 < g) || decide (t.k ≤ s)) = true then Krdf.say (-2) else { num := (t.cell g s).1, nums := [((t.cell g s).2 : Int)] }) := rfl
    rw [e1, e2] at k
    refine ⟨_, rfl, p, _, _, rfl, h.ins, tf_none _ _ (by decide +kernel), _, rfl, _, rfl, p, A, t, g, s, rfl, h, _, rfl, ?_⟩
    by_cases c : g < 2 ∧ s < t.k
    · obtain ⟨cT, nb⟩ := has_yes c
      rw [nb] at k
      refine ifF (by rw [cT]; rfl) ?_
      have hg := c.1
      have lk : (t.cells.getD g []).length = t.k := (W.cells hg).1
      have ea : ((zs (t.cells.getD g [])).map V.int)[s]? = some (.int ((t.cell g s).1 : Int)) := by rw [List.getElem?_map, zs_get (by omega)]; rfl
      have eb : ((zn (t.cells.getD g [])).map V.int)[s]? = some (.int ((t.cell g s).2 : Int)) := by rw [List.getElem?_map, zn_get (by omega)]; rfl
      refine ⟨_, rfl, p, C, _, _, _, rfl, h.ins, T.cl, T.n2, tf_so _ _, _, rfl, A.a, _, _, _, rfl, rfl, SqL.of h.raw.ha, at2 hg, _, rfl, A.s g, _, _, _, rfl, rfl, SqL.of (h.raw.hs g hg), atI_nat ea, ?_⟩
      refine ⟨_, rfl, p, C, _, _, _, rfl, h.ins, T.cl, T.n3, tf_not _ _, _, rfl, A.b, _, _, _, rfl, rfl, SqL.of h.raw.hb, at2 hg, _, rfl, A.n g, _, _, _, rfl, rfl, SqL.of (h.raw.hn g hg), atI_nat eb, ?_⟩
      exact ⟨(by show 2 ≤ sizeLine; decide), fun l hl => k.out h (Same.refl H) hl rfl⟩
    · obtain ⟨cF, nb⟩ := has_no c
      rw [nb] at k
      refine ifT (by rw [cF]; rfl) ?_
      exact ⟨(by show 1 ≤ sizeLine; decide), fun l hl => k.out h (Same.refl H) hl rfl⟩
abbrev sPeople : Stmt := top 43
abbrev nPeople : List Str := ["table", "group", "all_so"]
theorem scPeople : FnScope nPeople ["table", "group"] (defScope sPeople) := ⟨rfl, rfl, rfl, by decide +kernel, rfl, by decide +kernel, by decide +kernel⟩
def spPeople (C : Addr) : Sp := fun vs H Q _ => ∃ (p : Addr) (A : Tad) (t : Table) (g : Nat), vs = [.ref p, .int (g : Int)] ∧ TabAt C H p A t ∧
  Answers C H p A (actT t (.people g)) (ansT t (.people g)) Q
theorem ok_people {f fG : Addr} {fd fdG : FuncData} (F : Fun K "people" "people" sPeople f fd) (T : TxtT K mg C) (X : TxtC mg) (mS : mg "sum" = Option.none)
    (FG : FnOk P w K mg base CX0 1 fG fdG ["self", "group"] spHasG) (bG : Binds K fdG ["self", "group"] []) (mG : Meth K C "has_group" fG) : FnOk P w K mg base CX0 2 f fd ["table", "group"] (spPeople C) := by
  refine F.ok scPeople (fun vs H Q E h => ?_) (fun cdv A outer s H vs Q E hr h => ?_)
  · obtain ⟨p, A, t, g, rfl, _⟩ := h
    rfl
  · obtain ⟨_, g1⟩ := X.g1
    refine ⟨_, pss_cons (ps_if (pt_not (pt_val (pe_meth (pv 0) T.cl mG FG hr bG .nil pass0 (pa_cons (pv 1) pa_nil)))) (pss_one (ps_ret (pe_lst (pa_cons (pe_glob (v := V.int (-2)) rfl g1 ⟨_, rfl⟩) pa_nil)))) pss_nil)
      (pss_cons (ps_set (i := 2) scPeople.nd rfl (Or.inl rfl) (pe_callB (cr_sum rfl) (by rfl) mS (by decide +kernel) (pa_cons (pe_ix ix_list (pe_fld (pv 0) rfl) (pv 1) (fun _ _ => rfl)) pa_nil)))
      (pss_one (ps_ret (pe_lst (pa_cons (pe_op op_add (pv 2) (pe_callB (cr_sum rfl) (by rfl) mS (by decide +kernel) (pa_cons (pe_ix ix_list (pe_fld (pv 0) rfl) (pv 1) (fun _ _ => rfl)) pa_nil))) (pa_cons (pv 2) pa_nil)))))), ?_⟩
    obtain ⟨p, A, t, g, rfl, h, k⟩ := h
    have W := h.wf
    have e1 : actT t (.people g) = t := rfl
    have e2 : ansT t (.people g) = KrdfNeutral.told (if decide (1 < g) = true then Krdf.say (-2) else { num := t.yes g + t.no g, nums := [(t.yes g : Int)] }) := rfl
    rw [e1, e2] at k
    refine ⟨_, rfl, p, _, _, rfl, h.ins, tf_none _ _ (by decide +kernel), _, rfl, _, _, rfl, _, rfl, ?_⟩
    by_cases c : 1 < g
    · rw [if_pos (decide_eq_true c)] at k
      refine ifT (by rw [decide_eq_false (by omega)]; rfl) ?_
      exact ⟨(by show 1 ≤ sizeLine; decide), fun r hr' => k.out h (Same.refl H) hr' rfl⟩
    · have hg : g < 2 := by omega
      rw [if_neg (by simpa using c)] at k
      refine ifF (by rw [decide_eq_true (by omega)]; rfl) ?_
      have lk : (t.cells.getD g []).length = t.k := (W.cells hg).1
      refine ⟨_, rfl, p, C, _, _, _, rfl, h.ins, T.cl, T.n2, tf_so _ _, _, rfl, A.a, _, _, _, rfl, rfl, SqL.of h.raw.ha, at2 hg, A.s g, _, rfl, SqL.of (h.raw.hs g hg), ?_⟩
      refine ⟨_, rfl, _, rfl, p, C, _, _, _, rfl, h.ins, T.cl, T.n3, tf_not _ _, _, rfl, A.b, _, _, _, rfl, rfl, SqL.of h.raw.hb, at2 hg, A.n g, _, rfl, SqL.of (h.raw.hn g hg), _, _, rfl, rfl, ?_⟩
      refine ⟨_, rfl, (by show 2 ≤ sizeLine; decide), fun l hl => k.out h (Same.refl H) hl ?_⟩
      rw [zs_sum lk, zn_sum lk]
      rfl
abbrev sState : Stmt := top 45
theorem scState : FnScope ["table"] ["table"] (defScope sState) := ⟨rfl, rfl, rfl, by decide +kernel, rfl, by decide +kernel, by decide +kernel⟩
def spState (C : Addr) : Sp := fun vs H Q _ => ∃ (p : Addr) (A : Tad) (t : Table), vs = [.ref p] ∧ TabAt C H p A t ∧
  Answers C H p A (actT t .state) (ansT t .state) Q
theorem ints_bits (r : List Bool) : Krdf.ints (Krdf.bits r) = zb r := by
  unfold Krdf.ints Krdf.bits zb
  rw [List.map_map]
  refine List.map_congr_left fun b _ => ?_
  cases b <;> rfl
theorem ints_app (a b : List Nat) : Krdf.ints (a ++ b) = Krdf.ints a ++ Krdf.ints b := List.map_append
theorem ok_state {f : Addr} {fd : FuncData} (F : Fun K "state" "state" sState f fd) (T : TxtT K mg C) : FnOk P w K mg base CX0 1 f fd ["table"] (spState C) := by
  refine F.ok scState (fun vs H Q E h => ?_) (fun cdv A outer s H vs Q E hr h => ?_)
  · obtain ⟨p, A, t, rfl, _⟩ := h
    rfl
  · refine ⟨_, pss_one (ps_ret (pe_op op_cat (pe_op op_cat (pe_lst (pa_cons (pe_fld (pv 0) rfl) pa_nil)) (pe_ix ix_list (pe_fld (pv 0) rfl) pe_int (fun _ _ => rfl))) (pe_ix ix_list (pe_fld (pv 0) rfl) pe_int (fun _ _ => rfl)))), ?_⟩
    obtain ⟨p, A, t, rfl, h, k⟩ := h
    have W := h.wf
    have k4 := W.k4
    have l0 := W.row (g := 0) (by decide)
    have l1 := W.row (g := 1) (by decide)
    have e1 : actT t .state = t := rfl
    have e2 : ansT t .state = (t.k : Int) :: (zb (t.rules.getD 0 []) ++ zb (t.rules.getD 1 [])) := by
      show (t.k : Int) :: Krdf.ints (Krdf.bits (t.rules.getD 0 []) ++ Krdf.bits (t.rules.getD 1 [])) = _
      rw [ints_app, ints_bits, ints_bits]
    rw [e1, e2] at k
    refine ⟨_, rfl, p, C, _, _, _, rfl, h.ins, T.cl, T.n1, tf_scores _ _, (by show 1 ≤ sizeLine; decide), fun l hl => ?_⟩
    generalize q1 : upd H l _ = H1
    have a1 := new_at hl q1
    have h1 := h.same a1.1
    refine ⟨_, rfl, p, C, _, _, _, rfl, h1.ins, T.cl, T.n4, tf_rows _ _, A.c, _, _, _, rfl, rfl, SqL.of h1.raw.hc, rfl, ?_⟩
    refine ⟨l, A.r 0, _, _, rfl, rfl, a1.2, h1.raw.hr 0 (by decide), ?_, fun m hm => ?_⟩
    · rw [List.length_map, zb_len, l0]
      show 1 + t.k ≤ 2 ^ 24
      omega
    generalize q2 : upd H1 m _ = H2
    have a2 := new_at hm q2
    have h2 := h1.same a2.1
    refine ⟨_, rfl, p, C, _, _, _, rfl, h2.ins, T.cl, T.n4, tf_rows _ _, A.c, _, _, _, rfl, rfl, SqL.of h2.raw.hc, rfl, ?_⟩
    refine ⟨m, A.r 1, _, _, rfl, rfl, a2.2, h2.raw.hr 1 (by decide), ?_, fun r hr' => ?_⟩
    · rw [List.length_append, List.length_map, List.length_map, zb_len, zb_len, l0, l1]
      show 1 + t.k + t.k ≤ 2 ^ 24
      omega
    · refine k.out h (a1.1.trans a2.1) hr' ?_
      simp
/-! rate_if_flipped, ifpick -/
abbrev nFlip : List Str := ["self", "kind", "group", "score", "row"]
theorem scFlip : FnScope nFlip ["self", "kind", "group", "score"] (defScope sFlip) := ⟨rfl, rfl, rfl, by decide +kernel, rfl, by decide +kernel, by decide +kernel⟩
def flipped (r : List Bool) (s : Nat) : List Bool := r.set s (!r.getD s false)
def spFlip (C : Addr) : Sp := fun vs H Q _ => ∃ (p : Addr) (A : Tad) (t : Table) (q g s : Nat), vs = [.ref p, .int (q : Int), .int (g : Int), .int (s : Int)] ∧ TabAt C H p A t ∧ g < 2 ∧ s < t.k ∧ q < 7 ∧
  Told H (rateC t.k (t.cells.getD g []) (flipped (t.rules.getD g []) s) q) Q
theorem zb_flip {r : List Bool} {s : Nat} : ((zb r).map V.int).set s (.int (1 - (if r.getD s false then 1 else 0))) = (zb (flipped r s)).map V.int := by
  unfold flipped zb
  rw [List.map_set, List.map_set]
  congr 2
  cases r.getD s false <;> rfl
theorem ok_flip {f fR : Addr} {fd fdR : FuncData} (F : Fun K "rate_if_flipped" "Table.rate_if_flipped" sFlip f fd) (T : TxtT K mg C) (mL : mg "list" = Option.none)
    (FR : FnOk P w K mg base CX0 2 fR fdR ["so", "not_so", "row", "kind"] (spRateOf K)) (bR : Binds K fdR ["so", "not_so", "row", "kind"] []) (kR : PySem.W.keepIn K (.ref fR) = true) (gR : mg "rate_of" = some (.ref fR)) :
    FnOk P w K mg base CX0 3 f fd ["self", "kind", "group", "score"] (spFlip C) := by
  refine F.ok scFlip (fun vs H Q E h => ?_) (fun cdv A outer s H vs Q E hr h => ?_)
  · obtain ⟨p, A, t, q, g, s, rfl, _⟩ := h
    rfl
  · refine ⟨_, pss_cons (ps_set (i := 4) scFlip.nd rfl (Or.inl rfl) (pe_callTy call_list_of (by rfl) mL (by decide +kernel) (pa_cons (pe_ix ix_list (pe_fld (pv 0) rfl) (pv 2) (fun _ _ => rfl)) pa_nil)))
      (pss_cons (ps_asg (pe_op op_sub pe_int (pe_ix ix_list (pv 4) (pv 3) (fun _ _ => rfl))) (pg_sub (pv 4) (pv 3) set_list))
      (pss_one (ps_ret (pe_call FR hr rfl gR kR bR .nil pass0 (pa_cons (pe_ix ix_list (pe_fld (pv 0) rfl) (pv 2) (fun _ _ => rfl)) (pa_cons (pe_ix ix_list (pe_fld (pv 0) rfl) (pv 2) (fun _ _ => rfl)) (pa_cons (pv 4) (pa_cons (pv 1) pa_nil)))))))), ?_⟩
    obtain ⟨p, A, t, q, g, s, rfl, h, hg, hs, hq, k⟩ := h
    have W := h.wf
    have rk := W.row hg
    refine ⟨_, rfl, p, C, _, _, _, rfl, h.ins, T.cl, T.n4, tf_rows _ _, _, rfl, A.c, _, _, _, rfl, rfl, SqL.of h.raw.hc, at2 hg, A.r g, _, rfl, .inl (SqL.of (h.raw.hr g hg)), fun l hl => ?_⟩
    generalize q1 : upd H l _ = H1
    have a1 := new_at hl q1
    have ea : ((zb (t.rules.getD g [])).map V.int)[s]? = some (.int (if (t.rules.getD g []).getD s false then 1 else 0)) := by rw [List.getElem?_map, zb_get (by omega)]; rfl
    refine ⟨_, rfl, _, rfl, l, _, _, _, rfl, rfl, SqL.of a1.2, atI_nat ea, _, _, rfl, rfl, ?_⟩
    refine ⟨_, rfl, _, rfl, l, _, _, s, rfl, rfl, a1.2, ix_nat (by rw [List.length_map, zb_len]; omega), ?_⟩
    rw [zb_flip]
    generalize q2 : upd H1 l _ = H2
    have hl2 : H2 l = some (.lst ((zb (flipped (t.rules.getD g []) s)).map V.int)) := by rw [← q2]; exact upd_same
    have s2 : Same H H2 := fun b o e => by
      rw [← q2, upd_ne (ne_of_none e hl)]
      exact a1.1 _ _ e
    have h2 := h.same s2
    refine ⟨_, rfl, p, C, _, _, _, rfl, h2.ins, T.cl, T.n2, tf_so _ _, _, rfl, A.a, _, _, _, rfl, rfl, SqL.of h2.raw.ha, at2 hg, ?_⟩
    refine ⟨_, rfl, p, C, _, _, _, rfl, h2.ins, T.cl, T.n3, tf_not _ _, _, rfl, A.b, _, _, _, rfl, rfl, SqL.of h2.raw.hb, at2 hg, _, rfl, _, rfl, ?_⟩
    refine ⟨_, _, _, t.k, t.cells.getD g [], flipped (t.rules.getD g []) s, q, rfl, SqL.of (h2.raw.hs g hg), SqL.of (h2.raw.hn g hg), SqL.of hl2, W.cells hg, ?_, W.k4, hq, ?_⟩
    · unfold flipped
      rw [List.length_set]
      exact rk
    · intro H3 s3
      have := k H3 (s2.trans s3)
      revert this
      cases rateC t.k (t.cells.getD g []) (flipped (t.rules.getD g []) s) q with
      | none => exact id
      | some x => exact fun z p hp => z p (s2.free hp)
abbrev sIfpick : Stmt := top 44
abbrev nIfpick : List Str := ["table", "group", "score", "kind"]
theorem scIfpick : FnScope nIfpick nIfpick (defScope sIfpick) := ⟨rfl, rfl, rfl, by decide +kernel, rfl, by decide +kernel, by decide +kernel⟩
def spIfpick (C : Addr) : Sp := fun vs H Q _ => ∃ (p : Addr) (A : Tad) (t : Table) (g s q : Nat), vs = [.ref p, .int (g : Int), .int (s : Int), .int (q : Int)] ∧ TabAt C H p A t ∧
  Answers C H p A (actT t (.ifpick g s q)) (ansT t (.ifpick g s q)) Q
theorem flip_rate {t : Table} (W : Wf t) {g s q : Nat} (hg : g < 2) : ({ t with rules := t.rules.set g ((t.rules.getD g []).set s (!t.picks g s)) } : Table).rate q g = rateC t.k (t.cells.getD g []) (flipped (t.rules.getD g []) s) q := by
  rw [rate_C]
  show rateC t.k (t.cells.getD g []) ((t.rules.set g ((t.rules.getD g []).set s (!t.picks g s))).getD g []) q = _
  rw [getD_set_self (by rw [W.r2]; exact hg)]
  rfl
theorem ok_ifpick {f fH fL fT : Addr} {fd fdH fdL fdT : FuncData} (F : Fun K "ifpick" "ifpick" sIfpick f fd) (T : TxtT K mg C) (X : TxtC mg)
    (FH : FnOk P w K mg base CX0 2 fH fdH ["self", "group", "score"] (spHasC C)) (bH : Binds K fdH ["self", "group", "score"] []) (mH : Meth K C "has_cell" fH)
    (FL : FnOk P w K mg base CX0 3 fL fdL ["self", "kind", "group", "score"] (spFlip C)) (bL : Binds K fdL ["self", "kind", "group", "score"] []) (mL : Meth K C "rate_if_flipped" fL)
    (FT : FnOk P w K mg base CX0 1 fT fdT ["fraction"] spTold) (bT : Binds K fdT ["fraction"] []) (kT : PySem.W.keepIn K (.ref fT) = true) (gT : mg "told_fraction" = some (.ref fT)) : FnOk P w K mg base CX0 4 f fd nIfpick (spIfpick C) := by
  refine F.ok scIfpick (fun vs H Q E h => ?_) (fun cdv A outer s H vs Q E hr h => ?_)
  · obtain ⟨p, A, t, g, s, q, rfl, _⟩ := h
    rfl
  · obtain ⟨_, g1⟩ := X.g1
    obtain ⟨_, g3⟩ := X.g3
    obtain ⟨_, gK⟩ := T.gK
    have hr1 : Room 1 _ := hr.mono (by decide)
    have hr2 : Room 2 _ := hr.mono (by decide)
    refine ⟨_, pss_cons (ps_if (pt_not (pt_val (pe_meth (pv 0) T.cl mH FH hr2 bH .nil pass0 (pa_cons (pv 1) (pa_cons (pv 2) pa_nil))))) (pss_one (ps_ret (pe_lst (pa_cons (pe_glob (v := V.int (-2)) rfl g1 ⟨_, rfl⟩) pa_nil)))) pss_nil)
      (pss_cons (ps_if (pt_cmpR op_ge (pv 3) (pe_glob (v := V.int 7) rfl gK ⟨_, rfl⟩) (nomark _)) (pss_one (ps_ret (pe_lst (pa_cons (pe_glob (v := V.int (-22)) rfl g3 ⟨_, rfl⟩) pa_nil)))) pss_nil)
      (pss_one (ps_ret (pe_call FT hr1 rfl gT kT bT .nil pass0 (pa_cons (pe_meth (pv 0) T.cl mL FL hr bL .nil pass0 (pa_cons (pv 3) (pa_cons (pv 1) (pa_cons (pv 2) pa_nil)))) pa_nil))))), ?_⟩
    obtain ⟨p, A, t, g, s, q, rfl, h, k⟩ := h
    have W := h.wf
    have e1 : actT t (.ifpick g s q) = t := rfl
    have e2 : ansT t (.ifpick g s q) = KrdfNeutral.told (if (decide (1 < g) || decide (t.k ≤ s)) = true then Krdf.say (-2) else if 7 ≤ q then Krdf.say (-22) else Krdf.told (({ t with rules := t.rules.set g ((t.rules.getD g []).set s (!t.picks g s)) } : Table).rate q g)) := rfl
    rw [e1, e2] at k
    refine ⟨_, rfl, p, _, _, rfl, h.ins, tf_none _ _ (by decide +kernel), _, rfl, _, rfl, p, A, t, g, s, rfl, h, _, rfl, ?_⟩
    by_cases c : g < 2 ∧ s < t.k
    · obtain ⟨cT, nb⟩ := has_yes c
      rw [nb, flip_rate W c.1] at k
      refine ifF (by rw [cT]; rfl) ?_
      refine ⟨_, rfl, _, _, rfl, rfl, _, rfl, ?_⟩
      rw [if_neg Bool.false_ne_true] at k
      by_cases d : 7 ≤ q
      · rw [if_pos d] at k
        refine ifT (decide_eq_true (p := (7 : Int) ≤ (q : Int)) (by omega)) ?_
        exact ⟨(by show 1 ≤ sizeLine; decide), fun r hr' => k.out h (Same.refl H) hr' rfl⟩
      · rw [if_neg d] at k
        refine ifF (decide_eq_false (p := (7 : Int) ≤ (q : Int)) (by omega)) ?_
        refine ⟨_, rfl, p, _, _, rfl, h.ins, tf_none _ _ (by decide +kernel), _, rfl, _, rfl, _, rfl, p, A, t, q, g, s, rfl, h, c.1, c.2, by omega, told_fr fun H1 v s1 f1 => ?_⟩
        exact ⟨v, _, rfl, f1, fun r hr' => k.out h s1 hr' rfl⟩
    · obtain ⟨cF, nb⟩ := has_no c
      rw [nb] at k
      refine ifT (by rw [cF]; rfl) ?_
      exact ⟨(by show 1 ≤ sizeLine; decide), fun l hl => k.out h (Same.refl H) hl rfl⟩
/-! above -/
abbrev sAbove : Stmt := top 41
abbrev nAbove : List Str := ["table", "group", "score", "at"]
theorem scAbove : FnScope nAbove ["table", "group", "score"] (defScope sAbove) := ⟨rfl, rfl, rfl, by decide +kernel, rfl, by decide +kernel, by decide +kernel⟩
def spAbove (C : Addr) : Sp := fun vs H Q _ => ∃ (p : Addr) (A : Tad) (t : Table) (g s : Nat), vs = [.ref p, .int (g : Int), .int (s : Int)] ∧ TabAt C H p A t ∧
  Answers C H p A (actT t (.above g s)) (ansT t (.above g s)) Q
def fromS (s i : Nat) : List Bool := (List.range i).map fun v => decide (s ≤ v)
theorem fromS_succ (s i : Nat) : fromS s (i + 1) = fromS s i ++ [decide (s ≤ i)] := by
  unfold fromS
  rw [List.range_succ, List.map_append]
  rfl
theorem fromS_len (s i : Nat) : (fromS s i).length = i := by
  unfold fromS
  rw [List.length_map, List.length_range]
theorem act_above_no {t : Table} {g s : Nat} (h : (decide (1 < g) || decide (t.k ≤ s)) = true) : act (some t) (.above g s) = (some t, Krdf.say (-2)) := by
  show (if (decide (1 < g) || decide (t.k ≤ s)) = true then _ else _) = _
  rw [h]
  rfl
theorem act_above {t : Table} {g s : Nat} (h : (decide (1 < g) || decide (t.k ≤ s)) = false) :
    act (some t) (.above g s) = (some (setRow t g (fromS s t.k)), Krdf.nat ((setRow t g (fromS s t.k)).yesPicked g + (setRow t g (fromS s t.k)).noPicked g)) := by
  show (if (decide (1 < g) || decide (t.k ≤ s)) = true then _ else _) = _
  rw [h]
  rfl
theorem ok_above {f fH fS fP : Addr} {fd fdH fdS fdP : FuncData} (F : Fun K "above" "above" sAbove f fd) (T : TxtT K mg C) (X : TxtC mg) (mR : mg "range" = Option.none)
    (FH : FnOk P w K mg base CX0 2 fH fdH ["self", "group", "score"] (spHasC C)) (bH : Binds K fdH ["self", "group", "score"] []) (mH : Meth K C "has_cell" fH)
    (FS : FnOk P w K mg base CX0 1 fS fdS nSetR (spSetR K C)) (bS : Binds K fdS nSetR []) (mS : Meth K C "set_row" fS)
    (FP : FnOk P w K mg base CX0 2 fP fdP ["self", "group"] (spChoP C)) (bP : Binds K fdP ["self", "group"] []) (mP : Meth K C "chosen_people" fP) : FnOk P w K mg base CX0 3 f fd ["table", "group", "score"] (spAbove C) := by
  refine F.ok scAbove (fun vs H Q E h => ?_) (fun cdv A outer s H vs Q E hr h => ?_)
  · obtain ⟨p, A, t, g, s, rfl, _⟩ := h
    rfl
  · obtain ⟨_, g1⟩ := X.g1
    have hr1 : Room 1 _ := hr.mono (by decide)
    refine ⟨_, pss_cons (ps_if (pt_not (pt_val (pe_meth (pv 0) T.cl mH FH hr bH .nil pass0 (pa_cons (pv 1) (pa_cons (pv 2) pa_nil))))) (pss_one (ps_ret (pe_lst (pa_cons (pe_glob (v := V.int (-2)) rfl g1 ⟨_, rfl⟩) pa_nil)))) pss_nil)
      (pss_cons (ps_expr (pe_meth (pv 0) T.cl mS FS hr1 bS .nil pass0 (pa_cons (pv 1) (pa_cons
        (pe_lc (own := [("at", 3)]) (g := gName 3) (tt := tYes) (by rfl) scAbove.nd (pi_range1 (by rfl) mR (pa_cons (pe_fld (pv 0) rfl) pa_nil))
          (blkOk_by (own := [("at", 3)]) (N := nAbove) (sc := defScope sAbove) (by decide +kernel)) (fun _ _ _ _ _ => pg_name (i := 3) scAbove.nd rfl (Or.inl rfl)) (fun _ _ _ _ _ => pts_nil)
          (fun _ _ _ _ _ => pe_ifExp (pt_cmpR op_ge (pv 3) (pv 2) (nomark _)) pe_int pe_int)) pa_nil))))
      (pss_one (ps_ret (pe_lst (pa_cons (pe_meth (pv 0) T.cl mP FP hr bP .nil pass0 (pa_cons (pv 1) pa_nil)) pa_nil))))), ?_⟩
    obtain ⟨p, A, t, g, s, rfl, h, k⟩ := h
    have W := h.wf
    have k4 := W.k4
    unfold actT ansT at k
    refine ⟨_, rfl, p, _, _, rfl, h.ins, tf_none _ _ (by decide +kernel), _, rfl, _, rfl, p, A, t, g, s, rfl, h, _, rfl, ?_⟩
    by_cases c : g < 2 ∧ s < t.k
    · obtain ⟨cT, nb⟩ := has_yes c
      rw [act_above nb] at k
      refine ifF (by rw [cT]; rfl) ?_
      refine ⟨_, rfl, p, _, _, rfl, h.ins, tf_none _ _ (by decide +kernel), _, rfl, _, rfl, p, C, _, _, _, rfl, h.ins, T.cl, T.n1, tf_scores _ _, _, rfl, by omega, by omega, fun D hD => ?_⟩
      refine lc_range (lo := 0) (n := _) (fun i H' => Same H H' ∧ H' D = some (.lst ((zb (fromS s i)).map V.int))) ⟨Same.new hD, upd_same⟩ ?_ ?_
      · rintro i H' hi ⟨hs, hd⟩
        have i0 : (0 : Int) + (i : Int) = (i : Int) := by omega
        rw [i0]
        refine ⟨rfl, ?_⟩
        dsimp only [tYes]
        rw [if_pos rfl]
        refine ⟨_, rfl, _, rfl, _, _, rfl, rfl, _, rfl, ?_⟩
        have sz : (((zb (fromS s i)).map V.int)).length < sizeLine := by
          rw [List.length_map, zb_len, fromS_len]
          exact small1000 (by omega)
        have nx : ∀ z, V.int z = .int (if decide (s ≤ i) then 1 else 0) → Same H (upd H' D (.lst ((zb (fromS s i)).map V.int ++ [V.int z]))) ∧ (upd H' D (.lst ((zb (fromS s i)).map V.int ++ [V.int z]))) D = some (.lst ((zb (fromS s (i + 1))).map V.int)) := fun z e => by
          refine ⟨fun q o e => ?_, ?_⟩
          · rw [upd_ne (ne_of_none e hD)]
            exact hs _ _ e
          · rw [upd_same, fromS_succ, e]
            simp [zb]
        by_cases d : s ≤ i
        · refine ifT (decide_eq_true (p := (s : Int) ≤ (i : Int)) (by omega)) ?_
          exact ⟨_, hd, sz, nx 1 (by rw [decide_eq_true d]; rfl)⟩
        · refine ifF (decide_eq_false (p := (s : Int) ≤ (i : Int)) (by omega)) ?_
          exact ⟨_, hd, sz, nx 0 (by rw [decide_eq_false d]; rfl)⟩
      · rintro H1 ⟨s1, hd⟩
        have hn : ((t.k : Int) - 0).toNat = t.k := by omega
        have h1 := h.same s1
        refine ⟨p, D, A, t, g, fromS s t.k, rfl, h1, c.1, SqL.of ?_, fromS_len _ _, fun H2 A2 T2 b2 n2 => ?_⟩
        · exact hd
        refine ⟨_, rfl, p, _, _, rfl, T2.ins, tf_none _ _ (by decide +kernel), _, rfl, p, A2, _, g, rfl, T2, c.1, fun H3 s3 => ?_⟩
        refine ⟨(by show 1 ≤ sizeLine; decide), fun o ho => ?_⟩
        refine k.out2 (T2.same s3) (fun b o e m => s3 _ _ (b2 _ _ (s1 _ _ e) m)) (fun b hb => ?_) ho rfl
        rcases n2 b hb with m | m
        · exact .inl m
        · exact .inr (s1.free m)
    · obtain ⟨cF, nb⟩ := has_no c
      rw [act_above_no nb] at k
      refine ifT (by rw [cF]; rfl) ?_
      exact ⟨(by show 1 ≤ sizeLine; decide), fun l hl => k.out h (Same.refl H) hl rfl⟩
end
end TG

set_option Elab.async false
set_option maxRecDepth 100000
set_option maxHeartbeats 2000000
namespace TG
open PySem PySem.Spec PyProof.Rows L2
open Krdf (Table act)
/-! A heap without one of its objects -/
def del (H : Hp) (D : Addr) : Hp := fun b => if b = D then Option.none else H b
theorem del_ne {H : Hp} {D b : Addr} (h : b ≠ D) : del H D b = H b := if_neg h
theorem del_self (H : Hp) (D : Addr) : del H D D = Option.none := if_pos rfl
theorem del_upd (H : Hp) (D : Addr) (o : HO) : del (upd H D o) D = del H D := by
  funext b
  by_cases e : b = D
  · subst e; rw [del_self, del_self]
  · rw [del_ne e, del_ne e, upd_ne e]
theorem del_same (H : Hp) (D : Addr) : Same (del H D) H := fun b o e => by
  by_cases z : b = D
  · subst z; rw [del_self] at e; cases e
  · rw [del_ne z] at e; exact e
theorem same_del {H H' : Hp} (s : Same H H') (D : Addr) : Same (del H D) (del H' D) := fun b o e => by
  by_cases z : b = D
  · subst z; rw [del_self] at e; cases e
  · rw [del_ne z] at e ⊢; exact s _ _ e
theorem same_undel {H H' : Hp} {D : Addr} (s : Same H H') (h : H D = Option.none) : Same H (del H' D) := fun b o e => by
  rw [del_ne (ne_of_none e h)]
  exact s _ _ e
/-! Rows and rates in the heap -/
def RowAt (H : Hp) (v : V) (r : List Bool) : Prop := ∃ a, v = .ref a ∧ H a = some (.lst ((zb r).map V.int))
theorem RowAt.same {H H' : Hp} {v : V} {r : List Bool} (h : RowAt H v r) (s : Same H H') : RowAt H' v r := by
  obtain ⟨a, e, q⟩ := h
  exact ⟨a, e, s _ _ q⟩
/-- a row that wasn't in H0 -/
def RowNew (H0 H : Hp) (v : V) (r : List Bool) : Prop := ∃ a, v = .ref a ∧ H0 a = Option.none ∧ H a = some (.lst ((zb r).map V.int))
theorem RowNew.same {H0 H H' : Hp} {v : V} {r : List Bool} (h : RowNew H0 H v r) (s : Same H H') : RowNew H0 H' v r := by
  obtain ⟨a, e, n, q⟩ := h
  exact ⟨a, e, n, s _ _ q⟩
theorem RowNew.base {H0 H1 H : Hp} {v : V} {r : List Bool} (h : RowNew H1 H v r) (s : Same H0 H1) : RowNew H0 H v r := by
  obtain ⟨a, e, n, q⟩ := h
  exact ⟨a, e, s.free n, q⟩
theorem RowNew.row {H0 H : Hp} {v : V} {r : List Bool} (h : RowNew H0 H v r) : RowAt H v r := by
  obtain ⟨a, e, _, q⟩ := h
  exact ⟨a, e, q⟩
/-- what R says of a thing stays so -/
def Mon {β : Type} (R : Hp → V → β → Prop) : Prop := ∀ H H' v b, R H v b → Same H H' → R H' v b
theorem rowM {H0 : Hp} : Mon (RowNew H0) := fun _ _ _ _ h s => h.same s
theorem frM : Mon FrAt := fun _ _ _ _ h s => h.same s
/-- a list of things, each as R says -/
def LstAt {β : Type} (R : Hp → V → β → Prop) (H : Hp) (v : V) (l : List β) : Prop := ∃ a vs, v = .ref a ∧ H a = some (.lst vs) ∧ All2 (R H) vs l
theorem LstAt.same {β : Type} {R : Hp → V → β → Prop} (m : Mon R) {H H' : Hp} {v : V} {l : List β} (h : LstAt R H v l) (s : Same H H') : LstAt R H' v l := by
  obtain ⟨a, vs, e, q, z⟩ := h
  exact ⟨a, vs, e, s _ _ q, z.mono fun _ _ r => m _ _ _ _ r s⟩
/-- what a comprehension has made so far at D -/
def Made {β : Type} (R : Hp → V → β → Prop) (H0 H : Hp) (D : Addr) (l : List β) : Prop := Same H0 (del H D) ∧ ∃ us, H D = some (.lst us) ∧ All2 (R (del H D)) us l
theorem Made.start {β : Type} {R : Hp → V → β → Prop} {H0 : Hp} {D : Addr} (h : H0 D = Option.none) : Made R H0 (upd H0 D (.lst [])) D [] := by
  refine ⟨fun b o e => ?_, [], upd_same, .nil⟩
  rw [del_upd, del_ne (ne_of_none e h)]
  exact e
theorem Made.skip {β : Type} {R : Hp → V → β → Prop} (m : Mon R) {H0 H H1 : Hp} {D : Addr} {l : List β} (h : Made R H0 H D l) (s : Same H H1) : Made R H0 H1 D l := by
  obtain ⟨s0, us, hD, z⟩ := h
  exact ⟨s0.trans (same_del s D), us, s _ _ hD, z.mono fun _ _ r => m _ _ _ _ r (same_del s D)⟩
theorem Made.add {β : Type} {R : Hp → V → β → Prop} (m : Mon R) {H0 H H1 : Hp} {D : Addr} {l : List β} {y : V} {x : β} (h : Made R H0 H D l) (s : Same H H1) (hy : R (del H1 D) y x) (sz : l.length < 1000) :
    ∃ acc, H1 D = some (.lst acc) ∧ acc.length < sizeLine ∧ Made R H0 (upd H1 D (.lst (acc ++ [y]))) D (l ++ [x]) := by
  obtain ⟨s0, us, hD, z⟩ := h.skip m s
  refine ⟨us, hD, small1000 (by rw [z.len]; omega), ?_, us ++ [y], upd_same, ?_⟩
  · rw [del_upd]; exact s0
  · rw [del_upd]; exact z.snoc hy
theorem Made.done {β : Type} {R : Hp → V → β → Prop} (m : Mon R) {H0 H : Hp} {D : Addr} {l : List β} (h : Made R H0 H D l) : Same H0 H ∧ ∃ us, H D = some (.lst us) ∧ All2 (R H) us l := by
  obtain ⟨s0, us, hD, z⟩ := h
  exact ⟨s0.trans (del_same H D), us, hD, z.mono fun _ _ r => m _ _ _ _ r (del_same H D)⟩
theorem Made.base {β : Type} {R : Hp → V → β → Prop} {H0 H : Hp} {D : Addr} {l : List β} (h : Made R H0 H D l) : Same H0 H := h.1.trans (del_same H D)
/-! all_rows -/
abbrev sAllR : Stmt := top 6
abbrev nAllR : List Str := ["scores", "rows", "row"]
theorem scAllR : FnScope nAllR ["scores"] (defScope sAllR) := ⟨rfl, rfl, rfl, by decide +kernel, rfl, by decide +kernel, by decide +kernel⟩
def spAllR : Sp := fun vs H Q _ => ∃ k : Nat, vs = [.int (k : Int)] ∧ k ≤ 4 ∧ ∀ H' v, Same H H' → LstAt (RowNew H) H' v (Krdf.rows k) → Q v H'
def firstLen (H : Hp) (v : Option (Option V)) : Nat := match v with
  | some (some (.ref a)) => match H a with
    | some (.lst (.ref b :: _)) => match H b with
      | some (.lst r) => r.length
      | _ => 0
    | _ => 0
  | _ => 0
theorem op_read {r : R2} {A B : TE} {σ : L2.St} {H : Hp} {Q : VK} (h : A σ H fun x H1 => B σ H1 fun y H2 => r x y H2 Q) : tOp r A B σ H Q := h
theorem asg_read {te : TE} {g : TG} {D : Ends} {σ : L2.St} {H : Hp} (h : te σ H fun x H1 => g x σ H1 D.nx) : tAsg te g D σ H := h
/-- one comprehension of all_rows, read -/
theorem lead {H0 H : Hp} {a : Addr} {vs : List V} {n k : Nat} {b : Bool} {z : Int} {Q : VK} {K : PySem.W.Frag} (hz : z = if b then 1 else 0) (s0 : Same H0 H) (ha : H a = some (.lst vs)) (hv : All2 (RowNew H0 H) vs (Krdf.rows n)) (hn : n ≤ 4)
    (q : ∀ H' D us, Same H H' → H' D = some (.lst us) → All2 (RowNew H0 H') us ((Krdf.rows n).map fun l => b :: l) → Q (.ref D) H') :
    tLc (iList K (tVar 1)) (gName 2) tYes (tOp rCat (tLst (tCons (tC (V.int z)) tNil)) (tVar 2)) [2] [some (.int (k : Int)), some (.ref a), Option.none] H Q := by
  have l16 := rows_16 hn
  refine ⟨_, rfl, a, rfl, ⟨_, SqL.of ha⟩, fun D hD => ?_⟩
  refine lc_list (K := K) (a := a) (xs := vs) (fun i H' => Made (RowNew H0) H H' D (((Krdf.rows n).take i).map fun l => b :: l)) (Made.start hD) (fun i H' _ m => m.base.seq (SqL.of ha)) ?_ ?_
  · rintro i x H' hi m
    obtain ⟨r, hr, rx⟩ := hv.at hi
    have rl := rows_len n r (List.mem_of_getElem? hr)
    refine ⟨rfl, ?_⟩
    dsimp only [tYes]
    rw [if_pos rfl]
    refine ⟨(by show 1 ≤ sizeLine; decide), fun p hp => ?_⟩
    generalize e1 : upd H' p _ = H1
    have a1 := new_at hp e1
    obtain ⟨ar, rfl, _, hr1⟩ := (rx.same m.base).same a1.1
    refine ⟨_, rfl, p, ar, _, _, rfl, rfl, a1.2, hr1, ?_, fun o ho => ?_⟩
    · rw [List.length_map, zb_len, rl]
      show 1 + n ≤ 2 ^ 24
      omega
    generalize e2 : upd H1 o _ = H2
    have a2 := new_at ho e2
    rw [map_next _ hr]
    have oD : o ≠ D := fun z => by
      obtain ⟨_, us, hD', _⟩ := m
      rw [z, a1.1 _ _ hD'] at ho
      cases ho
    refine m.add rowM (a1.1.trans a2.1) ⟨o, rfl, ((s0.trans m.base).trans a1.1).free ho, ?_⟩ ?_
    · rw [del_ne oD, a2.2, hz]
      cases b <;> rfl
    · rw [List.length_map, List.length_take]
      omega
  · intro H' m
    rw [hv.len, List.take_length] at m
    obtain ⟨s, us, hD', z⟩ := m.done rowM
    exact q H' D us s hD' z
section
variable {P : Program} {w : World} {K : PySem.W.Frag} {mg : Str → Option Value} {base : Heap} {C : Addr}
theorem ok_allR {f : Addr} {fd : FuncData} (F : Fun K "all_rows" "all_rows" sAllR f fd) (mL : mg "len" = Option.none) : FnOk P w K mg base CX0 1 f fd ["scores"] spAllR := by
  refine F.ok scAllR (fun vs H Q E h => ?_) (fun cdv A outer s H vs Q E hr h => ?_)
  · obtain ⟨k, rfl, _⟩ := h
    rfl
  · have nd := scAllR.nd
    refine ⟨_, pss_cons (ps_set (i := 1) nd rfl (Or.inl rfl) (pe_lst (pa_cons (pe_lst pa_nil) pa_nil)))
      (pss_cons (ps_while PassesOwn.never (pt_cmpR op_lt (pe_callB call_len_seq (by rfl) mL PySem.boot_len (pa_cons (pe_ix ix_list (pv 1) pe_int (fun _ _ => rfl)) pa_nil)) (pv 0) (nomark _))
        (pss_one (ps_set (i := 1) nd rfl (Or.inl rfl) (pe_op op_cat
          (pe_lc (own := [("row", 2)]) (g := gName 2) (tt := tYes) (te := tOp rCat (tLst (tCons (tC (V.int 0)) tNil)) (tVar 2)) (by rfl) nd (pi_list (pv 1)) (blkOk_by (own := [("row", 2)]) (N := nAllR) (sc := defScope sAllR) (by decide +kernel))
            (fun _ _ _ _ _ => pg_name (i := 2) nd rfl (Or.inl rfl)) (fun _ _ _ _ _ => pts_nil) (fun _ _ _ _ _ => pe_op op_cat (pe_lst (pa_cons pe_int pa_nil)) (pv 2)))
          (pe_lc (own := [("row", 2)]) (g := gName 2) (tt := tYes) (te := tOp rCat (tLst (tCons (tC (V.int 1)) tNil)) (tVar 2)) (by rfl) nd (pi_list (pv 1)) (blkOk_by (own := [("row", 2)]) (N := nAllR) (sc := defScope sAllR) (by decide +kernel))
            (fun _ _ _ _ _ => pg_name (i := 2) nd rfl (Or.inl rfl)) (fun _ _ _ _ _ => pts_nil) (fun _ _ _ _ _ => pe_op op_cat (pe_lst (pa_cons pe_int pa_nil)) (pv 2)))))))
      (pss_one (ps_ret (pv 1)))), ?_⟩
    obtain ⟨k, rfl, k4, kk⟩ := h
    refine ⟨(by show 0 ≤ sizeLine; decide), fun a0 h0 => ?_⟩
    generalize e0 : upd H a0 _ = H0
    have n0 := new_at h0 e0
    refine ⟨(by show 1 ≤ sizeLine; decide), fun a1 h1 => ?_⟩
    generalize e1 : upd H0 a1 _ = H1
    have n1 := new_at h1 e1
    refine while_by (fun σ H' => ∃ (n : Nat) (a : Addr) (vs : List V), σ = [some (.int (k : Int)), some (.ref a), Option.none] ∧ n ≤ k ∧ Same H H' ∧ H' a = some (.lst vs) ∧ All2 (RowNew H H') vs (Krdf.rows n))
      (fun σ H' => k - firstLen H' (σ[1]?)) ?_ ?_ ?_
    · exact ⟨0, a1, _, rfl, Nat.zero_le _, n0.1.trans n1.1, n1.2, .cons ⟨a0, rfl, h0, n1.1 _ _ n0.2⟩ .nil⟩
    · rintro σ H' ⟨n, a, vs, rfl, hn, sm, ha, hv⟩
      have fl : ∀ {G : Hp} {m : Nat} {b : Addr} {us : List V}, G b = some (.lst us) → All2 (RowNew H G) us (Krdf.rows m) → ∃ c ws, us = .ref c :: ws ∧ G c = some (.lst ((zb (List.replicate m false)).map V.int)) ∧ firstLen G (some (some (.ref b))) = m := fun {G m b us} hb hu => by
        obtain ⟨rest, er⟩ := rows_first m
        rw [er] at hu
        cases hu with
        | cons r _ =>
          obtain ⟨c, rfl, _, hc⟩ := r
          refine ⟨c, _, rfl, hc, ?_⟩
          unfold firstLen
          simp only [hb, hc]
          rw [List.length_map, zb_len, List.length_replicate]
      obtain ⟨c, ws, rfl, hc, hf⟩ := fl ha hv
      refine ⟨_, rfl, a, _, _, _, rfl, rfl, SqL.of ha, atI_nat (j := 0) rfl, c, _, rfl, .inl (SqL.of hc), _, rfl, _, _, rfl, rfl, _, rfl, ?_⟩
      have hl : (((zb (List.replicate n false)).map V.int).length : Int) = (n : Int) := by rw [List.length_map, zb_len, List.length_replicate]
      rw [hl]
      by_cases d : n < k
      · refine ifT (decide_eq_true (p := (n : Int) < (k : Int)) (by omega)) ?_
        have hn4 : n ≤ 4 := by omega
        refine asg_read (op_read ?_)
        refine lead (H0 := H) (b := false) (z := 0) rfl sm ha hv hn4 fun G1 D1 us1 s1 hD1 z1 => ?_
        have hv1 := hv.mono fun _ _ r => RowNew.same r s1
        refine lead (H0 := H) (b := true) (z := 1) rfl (sm.trans s1) (s1 _ _ ha) hv1 hn4 fun G2 D2 us2 s2 hD2 z2 => ?_
        have z12 := z1.mono fun _ _ r => RowNew.same r s2
        have l16 := rows_16 hn4
        refine ⟨D1, D2, us1, us2, rfl, rfl, s2 _ _ hD1, hD2, ?_, fun o ho => ?_⟩
        · rw [z1.len, z2.len, List.length_map, List.length_map]
          show _ ≤ 2 ^ 24
          omega
        generalize e3 : upd G2 o _ = G3
        have n3 := new_at ho e3
        have zz := (z12.app z2).mono fun _ _ r => RowNew.same r n3.1
        rw [← rows_succ] at zz
        refine ⟨⟨n + 1, o, _, rfl, d, ((sm.trans s1).trans s2).trans n3.1, n3.2, zz⟩, ?_⟩
        obtain ⟨_, _, _, _, hf3⟩ := fl n3.2 zz
        show k - firstLen G3 (some (some (.ref o))) < k - firstLen H' (some (some (.ref a)))
        rw [hf3, hf]
        omega
      · refine ifF (decide_eq_false (p := (n : Int) < (k : Int)) (by omega)) ?_
        have en : n = k := by omega
        subst en
        exact ⟨_, rfl, kk H' _ sm ⟨a, _, rfl, ha, hv⟩⟩
    · rintro σ H Q Q' hq ⟨v, e, a, xs, i, x, e1, e2, h1, h2, p, ys, e3, h3, v2, e4, i2, j2, e5, e6, b, e7, q⟩
      exact ⟨v, e, a, xs, i, x, e1, e2, h1, h2, p, ys, e3, h3, v2, e4, i2, j2, e5, e6, b, e7, hq _ _ q⟩
end
end TG

set_option Elab.async false
set_option maxRecDepth 100000
set_option maxHeartbeats 2000000
namespace TG
open PySem PySem.Spec PyProof.Rows L2
open Krdf (Table act)
/-! parts_group -/
abbrev nParts : List Str := ["self", "group", "row", "so", "not_so", "chosen"]
theorem scParts : FnScope nParts ["self", "group", "row"] (defScope sParts) := ⟨rfl, rfl, rfl, by decide +kernel, rfl, by decide +kernel, by decide +kernel⟩
def spParts (C : Addr) : Sp := fun vs H Q _ => ∃ (p : Addr) (A : Tad) (t : Table) (g : Nat) (v : V) (r : List Bool), vs = [.ref p, .int (g : Int), v] ∧ TabAt C H p A t ∧ g < 2 ∧ RowAt H v r ∧ r.length = t.k ∧
  ∀ H', Same H H' → Q (.bl (goodC t.k (t.cells.getD g []) r)) H'
section
variable {P : Program} {w : World} {K : PySem.W.Frag} {mg : Str → Option Value} {base : Heap} {C : Addr}
theorem ok_parts {f fC : Addr} {fd fdC : FuncData} (F : Fun K "parts_group" "Table.parts_group" sParts f fd) (T : TxtT K mg C) (mS : mg "sum" = Option.none)
    (FC : FnOk P w K mg base CX0 1 fC fdC ["numbers", "row"] (spSum K)) (bC : Binds K fdC ["numbers", "row"] []) (kC : PySem.W.keepIn K (.ref fC) = true) (gC : mg "chosen_sum" = some (.ref fC)) :
    FnOk P w K mg base CX0 2 f fd ["self", "group", "row"] (spParts C) := by
  refine F.ok scParts (fun vs H Q E h => ?_) (fun cdv A outer s H vs Q E hr h => ?_)
  · obtain ⟨p, A, t, g, v, r, rfl, _⟩ := h
    rfl
  · have nd := scParts.nd
    refine ⟨_, pss_cons (ps_set (i := 3) nd rfl (Or.inl rfl) (pe_ix ix_list (pe_fld (pv 0) rfl) (pv 1) (fun _ _ => rfl)))
      (pss_cons (ps_set (i := 4) nd rfl (Or.inl rfl) (pe_ix ix_list (pe_fld (pv 0) rfl) (pv 1) (fun _ _ => rfl)))
      (pss_cons (ps_set (i := 5) nd rfl (Or.inl rfl) (pe_op op_add (pe_call FC hr rfl gC kC bC .nil pass0 (pa_cons (pv 3) (pa_cons (pv 2) pa_nil))) (pe_call FC hr rfl gC kC bC .nil pass0 (pa_cons (pv 4) (pa_cons (pv 2) pa_nil)))))
      (pss_one (ps_ret (pe_and (pe_cmpR op_gt (pv 5) pe_int (nomark _)) (pe_one (pe_cmpR op_lt (pv 5) (pe_op op_add (pe_callB (cr_sum rfl) (by rfl) mS (by decide +kernel) (pa_cons (pv 3) pa_nil)) (pe_callB (cr_sum rfl) (by rfl) mS (by decide +kernel) (pa_cons (pv 4) pa_nil))) (nomark _)))))))), ?_⟩
    obtain ⟨p, A, t, g, v, r, rfl, h, hg, hv, rk, k⟩ := h
    obtain ⟨ar, rfl, hr0⟩ := hv
    have W := h.wf
    have lk : (t.cells.getD g []).length = t.k := (W.cells hg).1
    have k4 := W.k4
    refine ⟨_, rfl, p, C, _, _, _, rfl, h.ins, T.cl, T.n2, tf_so _ _, _, rfl, A.a, _, _, _, rfl, rfl, SqL.of h.raw.ha, at2 hg, ?_⟩
    refine ⟨_, rfl, p, C, _, _, _, rfl, h.ins, T.cl, T.n3, tf_not _ _, _, rfl, A.b, _, _, _, rfl, rfl, SqL.of h.raw.hb, at2 hg, ?_⟩
    refine ⟨_, rfl, _, rfl, A.s g, ar, zs (t.cells.getD g []), r, rfl, SqL.of (h.raw.hs g hg), SqL.of hr0, by omega, by rw [zs_len]; omega, fun H1 s1 => ?_⟩
    have h1 := h.same s1
    refine ⟨_, rfl, _, rfl, A.n g, ar, zn (t.cells.getD g []), r, rfl, SqL.of (h1.raw.hn g hg), SqL.of (s1 _ _ hr0), by omega, by rw [zn_len]; omega, fun H2 s2 => ?_⟩
    have h2 := h1.same s2
    rw [rk, picked_zs, picked_zn]
    have s12 := s1.trans s2
    refine ⟨_, _, rfl, rfl, _, rfl, _, _, rfl, rfl, _, rfl, ?_⟩
    have kk := k H2 s12
    unfold goodC at kk
    by_cases d : 0 < cYesP t.k (t.cells.getD g []) r + cNoP t.k (t.cells.getD g []) r
    · refine ifT (decide_eq_true (p := (0 : Int) < (cYesP t.k (t.cells.getD g []) r : Int) + (cNoP t.k (t.cells.getD g []) r : Int)) (by omega)) ?_
      refine ⟨_, rfl, _, rfl, A.s g, _, rfl, SqL.of (h2.raw.hs g hg), _, rfl, A.n g, _, rfl, SqL.of (h2.raw.hn g hg), _, _, rfl, rfl, _, _, rfl, rfl, ?_⟩
      rw [zs_sum lk, zn_sum lk]
      rw [decide_eq_true d, Bool.true_and] at kk
      have e : decide ((cYesP t.k (t.cells.getD g []) r : Int) + (cNoP t.k (t.cells.getD g []) r : Int) < (cYes t.k (t.cells.getD g []) : Int) + (cNo t.k (t.cells.getD g []) : Int)) = decide (cYesP t.k (t.cells.getD g []) r + cNoP t.k (t.cells.getD g []) r < cYes t.k (t.cells.getD g []) + cNo t.k (t.cells.getD g [])) := by
        rw [decide_eq_decide]
        omega
      rw [← e] at kk
      exact kk
    · refine ifF (decide_eq_false (p := (0 : Int) < (cYesP t.k (t.cells.getD g []) r : Int) + (cNoP t.k (t.cells.getD g []) r : Int)) (by omega)) ?_
      rw [decide_eq_false d, Bool.false_and] at kk
      exact kk
/-! rule_rates -/
abbrev nRuleR : List Str := ["self", "group", "row", "kind"]
theorem scRuleR : FnScope nRuleR ["self", "group", "row"] (defScope sRuleR) := ⟨rfl, rfl, rfl, by decide +kernel, rfl, by decide +kernel, by decide +kernel⟩
abbrev RatesAt : Hp → V → List (Option Rat) → Prop := LstAt FrAt
def spRuleR (C : Addr) : Sp := fun vs H Q _ => ∃ (p : Addr) (A : Tad) (t : Table) (g : Nat) (v : V) (r : List Bool), vs = [.ref p, .int (g : Int), v] ∧ TabAt C H p A t ∧ g < 2 ∧ RowAt H v r ∧ r.length = t.k ∧
  ∀ H' x, Same H H' → (∀ D o, H D = some o → RatesAt (del H' D) x (ratesC t.k (t.cells.getD g []) r)) → Q x H'
/-- a rate in the heap that wasn't in H0 -/
def FrNew (H0 H : Hp) (v : V) (o : Option Rat) : Prop := FrAt H v o ∧ ∀ b, v = .ref b → H0 b = Option.none
theorem FrNew.same {H0 H H' : Hp} {v : V} {o : Option Rat} (h : FrNew H0 H v o) (s : Same H H') : FrNew H0 H' v o := ⟨h.1.same s, h.2⟩
theorem frNewM {H0 : Hp} : Mon (FrNew H0) := fun _ _ _ _ h s => h.same s
theorem FrNew.undel {H0 H : Hp} {v : V} {o : Option Rat} {D : Addr} {u : HO} (h : FrNew H0 H v o) (hD : H0 D = some u) : FrAt (del H D) v o := by
  obtain ⟨h1, h2⟩ := h
  cases o with
  | none => exact h1
  | some x =>
    obtain ⟨p, rfl, q⟩ := h1
    refine ⟨p, rfl, ?_⟩
    rw [del_ne]
    · exact q
    · intro z
      have := h2 p rfl
      rw [z, hD] at this
      cases this
theorem rates_next (k : Nat) (c : Cells) (r : List Bool) (i : Nat) : (List.range (i + 1)).map (fun i => rateC k c r (i + 1)) = (List.range i).map (fun i => rateC k c r (i + 1)) ++ [rateC k c r (i + 1)] := by
  rw [List.range_succ, List.map_append]
  rfl
theorem ok_ruleR {f fR : Addr} {fd fdR : FuncData} (F : Fun K "rule_rates" "Table.rule_rates" sRuleR f fd) (T : TxtT K mg C) (mR : mg "range" = Option.none)
    (FR : FnOk P w K mg base CX0 2 fR fdR ["so", "not_so", "row", "kind"] (spRateOf K)) (bR : Binds K fdR ["so", "not_so", "row", "kind"] []) (kR : PySem.W.keepIn K (.ref fR) = true) (gR : mg "rate_of" = some (.ref fR)) :
    FnOk P w K mg base CX0 3 f fd ["self", "group", "row"] (spRuleR C) := by
  refine F.ok scRuleR (fun vs H Q E h => ?_) (fun cdv A outer s H vs Q E hr h => ?_)
  · obtain ⟨p, A, t, g, v, r, rfl, _⟩ := h
    rfl
  · have nd := scRuleR.nd
    obtain ⟨_, gK⟩ := T.gK
    refine ⟨_, pss_one (ps_ret (pe_lc (own := [("kind", 3)]) (g := gName 3) (tt := tYes)
        (te := tCall (spRateOf K) [] E0 (tCons (tOp (rIxL K) (tFld K (tVar 0) "so") (tVar 1)) (tCons (tOp (rIxL K) (tFld K (tVar 0) "not_so") (tVar 1)) (tCons (tVar 2) (tCons (tVar 3) tNil))))) (by rfl) nd
        (pi_range2 (by rfl) mR (pa_cons pe_int (pa_cons (pe_glob (v := V.int 7) rfl gK ⟨_, rfl⟩) pa_nil)))
        (blkOk_by (own := [("kind", 3)]) (N := nRuleR) (sc := defScope sRuleR) (by decide +kernel)) (fun _ _ _ _ _ => pg_name (i := 3) nd rfl (Or.inl rfl)) (fun _ _ _ _ _ => pts_nil)
        (fun _ _ _ _ _ => pe_call FR hr rfl gR kR bR .nil pass0 (pa_cons (pe_ix ix_list (pe_fld (pv 0) rfl) (pv 1) (fun _ _ => rfl)) (pa_cons (pe_ix ix_list (pe_fld (pv 0) rfl) (pv 1) (fun _ _ => rfl)) (pa_cons (pv 2) (pa_cons (pv 3) pa_nil))))))), ?_⟩
    obtain ⟨p, A, t, g, v, r, rfl, h, hg, hv, rk, k⟩ := h
    obtain ⟨ar, rfl, hr0⟩ := hv
    have W := h.wf
    refine ⟨_, _, rfl, ⟨by decide, by decide, by decide, by decide⟩, fun D hD => ?_⟩
    refine lc_range (lo := 1) (n := 6) (fun i H' => Made (FrNew H) H H' D ((List.range i).map fun i => rateC t.k (t.cells.getD g []) r (i + 1))) (Made.start hD) ?_ ?_
    · rintro i H' hi m
      have h' := h.same m.base
      have i1 : (1 : Int) + (i : Int) = ((i + 1 : Nat) : Int) := by omega
      rw [i1]
      refine ⟨rfl, ?_⟩
      dsimp only [tYes]
      rw [if_pos rfl]
      refine ⟨_, rfl, p, C, _, _, _, rfl, h'.ins, T.cl, T.n2, tf_so _ _, _, rfl, A.a, _, _, _, rfl, rfl, SqL.of h'.raw.ha, at2 hg, ?_⟩
      refine ⟨_, rfl, p, C, _, _, _, rfl, h'.ins, T.cl, T.n3, tf_not _ _, _, rfl, A.b, _, _, _, rfl, rfl, SqL.of h'.raw.hb, at2 hg, _, rfl, _, rfl, ?_⟩
      refine ⟨_, _, _, t.k, t.cells.getD g [], r, i + 1, rfl, SqL.of (h'.raw.hs g hg), SqL.of (h'.raw.hn g hg), SqL.of (m.base _ _ hr0), W.cells hg, rk, W.k4, by omega, fun H1 s1 => ?_⟩
      rw [rates_next]
      have sz : (((List.range i).map fun i => rateC t.k (t.cells.getD g []) r (i + 1))).length < 1000 := by rw [List.length_map, List.length_range]; omega
      cases e : rateC t.k (t.cells.getD g []) r (i + 1) with
      | none => exact m.add frNewM s1 ⟨rfl, fun b e => by cases e⟩ sz
      | some x =>
        intro q fq hq
        refine m.add frNewM s1 ⟨⟨q, rfl, ?_⟩, fun b e => by cases e; exact m.base.free fq⟩ sz
        rw [del_ne, hq]
        intro z
        obtain ⟨_, us, hD', _⟩ := m
        rw [z, hD'] at fq
        cases fq
    · intro H' m
      obtain ⟨s1, us, hD', z⟩ := m.done frNewM
      refine k H' _ s1 fun E o hE => ⟨D, us, rfl, ?_, z.mono fun v x r => FrNew.undel r hE⟩
      rw [del_ne (fun q => by rw [q, hE] at hD; cases hD)]
      exact hD'
/-! same_count -/
abbrev sSameC : Stmt := top 9
abbrev nSameC : List Str := ["first", "second", "at"]
theorem scSameC : FnScope nSameC ["first", "second"] (defScope sSameC) := ⟨rfl, rfl, rfl, by decide +kernel, rfl, by decide +kernel, by decide +kernel⟩
def spSameC : Sp := fun vs H Q _ => ∃ (x y : V) (os ps : List (Option Rat)), vs = [x, y] ∧ RatesAt H x os ∧ RatesAt H y ps ∧ os.length = 6 ∧ ps.length = 6 ∧
  ∀ H', Same H H' → Q (.int ((sameTo os ps 6).length : Int)) H'
theorem getD_of {α : Type} {l : List α} {i : Nat} {x d : α} (h : l[i]? = some x) : l.getD i d = x := by
  rw [List.getD_eq_getElem?_getD, h]
  rfl
theorem ok_sameC {f fS : Addr} {fd fdS : FuncData} (F : Fun K "same_count" "same_count" sSameC f fd) (mR : mg "range" = Option.none) (mL : mg "len" = Option.none)
    (FS : FnOk P w K mg base CX0 1 fS fdS ["first", "second"] spSame) (bS : Binds K fdS ["first", "second"] []) (kS : PySem.W.keepIn K (.ref fS) = true) (gS : mg "is_same" = some (.ref fS)) : FnOk P w K mg base CX0 2 f fd ["first", "second"] spSameC := by
  refine F.ok scSameC (fun vs H Q E h => ?_) (fun cdv A outer s H vs Q E hr h => ?_)
  · obtain ⟨x, y, os, ps, rfl, _⟩ := h
    rfl
  · have nd := scSameC.nd
    refine ⟨_, pss_one (ps_ret (pe_callB call_len_seq (by rfl) mL PySem.boot_len (pa_cons
      (pe_lc (own := [("at", 2)]) (g := gName 2) (tt := tB (tCall spSame [] E0 (tCons (tOp (rIxL K) (tVar 0) (tVar 2)) (tCons (tOp (rIxL K) (tVar 1) (tVar 2)) tNil)))) (te := tVar 2) (by rfl) nd
        (pi_range1 (by rfl) mR (pa_cons (pe_callB call_len_seq (by rfl) mL PySem.boot_len (pa_cons (pv 0) pa_nil)) pa_nil))
        (blkOk_by (own := [("at", 2)]) (N := nSameC) (sc := defScope sSameC) (by decide +kernel)) (fun _ _ _ _ _ => pg_name (i := 2) nd rfl (Or.inl rfl))
        (fun _ _ _ _ _ => pts_one (pt_val (pe_call FS hr rfl gS kS bS .nil pass0 (pa_cons (pe_ix ix_list (pv 0) (pv 2) (fun _ _ => rfl)) (pa_cons (pe_ix ix_list (pv 1) (pv 2) (fun _ _ => rfl)) pa_nil)))))
        (fun _ _ _ _ _ => pv 2)) pa_nil))), ?_⟩
    obtain ⟨x, y, os, ps, rfl, ⟨a, us, rfl, ha, za⟩, ⟨b, ws, rfl, hb, zb⟩, lo, lp, k⟩ := h
    refine ⟨_, rfl, a, _, rfl, .inl (SqL.of ha), _, rfl, ?_⟩
    have hl : (us.length : Int) = 6 := by rw [za.len, lo]; rfl
    rw [hl]
    refine ⟨by decide, by decide, fun D hD => ?_⟩
    refine lc_range (lo := 0) (n := 6) (fun i H' => Same H H' ∧ H' D = some (.lst ((sameTo os ps i).map fun (q : Nat) => V.int (q : Int)))) ⟨Same.new hD, upd_same⟩ ?_ ?_
    · rintro i H' hi ⟨hs, hd⟩
      have i0 : (0 : Int) + (i : Int) = (i : Int) := by omega
      rw [i0]
      obtain ⟨x, hx, fx⟩ := za.at2 (i := i) (List.getElem?_eq_getElem (by omega))
      obtain ⟨y, hy, fy⟩ := zb.at2 (i := i) (List.getElem?_eq_getElem (by omega))
      have ex := getD_of (d := Option.none) (List.getElem?_eq_getElem (show i < os.length by omega))
      have ey := getD_of (d := Option.none) (List.getElem?_eq_getElem (show i < ps.length by omega))
      have hlen := sameTo_len os ps i
      refine ⟨rfl, ?_⟩
      refine ⟨_, rfl, _, rfl, a, _, _, _, rfl, rfl, SqL.of (hs _ _ ha), atI_nat hx, _, rfl, _, rfl, b, _, _, _, rfl, rfl, SqL.of (hs _ _ hb), atI_nat hy, x, y, _, _, rfl, fx.same hs, fy.same hs, _, rfl, ?_⟩
      rw [← ex, ← ey]
      cases c : sameO (os.getD i Option.none) (ps.getD i Option.none) with
      | true =>
        refine ifT rfl ?_
        refine ⟨_, rfl, _, hd, ?_, ?_, ?_⟩
        · rw [List.length_map]
          exact small1000 (by omega)
        · intro q o e
          rw [upd_ne (ne_of_none e hD)]
          exact hs _ _ e
        · rw [upd_same, sameTo_yes c, List.map_append]
          rfl
      | false =>
        refine ifF rfl ?_
        rw [sameTo_not c]
        exact ⟨hs, hd⟩
    · rintro H' ⟨hs, hd⟩
      refine ⟨D, _, rfl, .inl (SqL.of hd), ?_⟩
      rw [List.length_map]
      exact k H' hs
end
end TG

set_option Elab.async false
set_option maxRecDepth 100000
set_option maxHeartbeats 2000000
namespace TG
open PySem PySem.Spec PyProof.Rows L2
open Krdf (Table act)
/-! parting_rows -/
abbrev nPartR : List Str := ["self", "group", "rows", "row"]
theorem scPartR : FnScope nPartR ["self", "group"] (defScope sPartR) := ⟨rfl, rfl, rfl, by decide +kernel, rfl, by decide +kernel, by decide +kernel⟩
def PairAt (H0 H : Hp) (v : V) (x : Part) : Prop := ∃ p u z, v = .ref p ∧ H p = some (.tup [u, z]) ∧ RowNew H0 H u x.1 ∧ RatesAt H z x.2
theorem PairAt.same {H0 H H' : Hp} {v : V} {x : Part} (h : PairAt H0 H v x) (s : Same H H') : PairAt H0 H' v x := by
  obtain ⟨p, u, z, e, q, a, b⟩ := h
  exact ⟨p, u, z, e, s _ _ q, a.same s, LstAt.same frM b s⟩
theorem PairAt.base {H0 H1 H : Hp} {v : V} {x : Part} (h : PairAt H1 H v x) (s : Same H0 H1) : PairAt H0 H v x := by
  obtain ⟨p, u, z, e, q, a, b⟩ := h
  exact ⟨p, u, z, e, q, a.base s, b⟩
theorem pairM {H0 : Hp} : Mon (PairAt H0) := fun _ _ _ _ h s => h.same s
def spPartR (C : Addr) : Sp := fun vs H Q _ => ∃ (p : Addr) (A : Tad) (t : Table) (g : Nat), vs = [.ref p, .int (g : Int)] ∧ TabAt C H p A t ∧ g < 2 ∧
  ∀ H' v, Same H H' → LstAt (PairAt H) H' v (partC t.k (t.cells.getD g [])) → Q v H'
theorem RowNew.undel {H0 H : Hp} {v : V} {r : List Bool} {D : Addr} (h : RowNew H0 H v r) (n : v ≠ .ref D) : RowNew H0 (del H D) v r := by
  obtain ⟨a, rfl, z, q⟩ := h
  exact ⟨a, rfl, z, by rw [del_ne (fun z => n (by rw [z]))]; exact q⟩
section
variable {P : Program} {w : World} {K : PySem.W.Frag} {mg : Str → Option Value} {base : Heap} {C : Addr}
theorem ok_partR {f fA fP fU : Addr} {fd fdA fdP fdU : FuncData} (F : Fun K "parting_rows" "Table.parting_rows" sPartR f fd) (T : TxtT K mg C)
    (FA : FnOk P w K mg base CX0 1 fA fdA ["scores"] spAllR) (bA : Binds K fdA ["scores"] []) (kA : PySem.W.keepIn K (.ref fA) = true) (gA : mg "all_rows" = some (.ref fA))
    (FP : FnOk P w K mg base CX0 2 fP fdP ["self", "group", "row"] (spParts C)) (bP : Binds K fdP ["self", "group", "row"] []) (mP : Meth K C "parts_group" fP)
    (FU : FnOk P w K mg base CX0 3 fU fdU ["self", "group", "row"] (spRuleR C)) (bU : Binds K fdU ["self", "group", "row"] []) (mU : Meth K C "rule_rates" fU) :
    FnOk P w K mg base CX0 4 f fd ["self", "group"] (spPartR C) := by
  refine F.ok scPartR (fun vs H Q E h => ?_) (fun cdv A outer s H vs Q E hr h => ?_)
  · obtain ⟨p, A, t, g, rfl, _⟩ := h
    rfl
  · have nd := scPartR.nd
    have hr1 : Room 1 _ := hr.mono (by decide)
    have hr2 : Room 2 _ := hr.mono (by decide)
    refine ⟨_, pss_cons (ps_setLc (i := 2) (own := [("row", 3)]) (g := gName 3) (tt := tB (tMeth C "parts_group" (spParts C) [] E0 (tVar 0) (tCons (tVar 1) (tCons (tVar 3) tNil)))) (te := tVar 3) (by rfl) nd rfl rfl (sw_true rfl rfl rfl (by decide +kernel))
        (pi_list (pe_call FA hr1 rfl gA kA bA .nil pass0 (pa_cons (pe_fld (pv 0) rfl) pa_nil))) (blkOk_by (own := [("row", 3)]) (N := nPartR) (sc := defScope sPartR) (by decide +kernel))
        (fun _ _ _ _ _ => pg_name (i := 3) nd rfl (Or.inl rfl)) (fun _ _ _ _ _ => pts_one (pt_val (pe_meth (pv 0) T.cl mP FP hr2 bP .nil pass0 (pa_cons (pv 1) (pa_cons (pv 3) pa_nil))))) (fun _ _ _ _ _ => pv 3))
      (pss_one (ps_ret (pe_lc (own := [("row", 3)]) (g := gName 3) (tt := tYes) (te := tTup (tCons (tVar 3) (tCons (tMeth C "rule_rates" (spRuleR C) [] E0 (tVar 0) (tCons (tVar 1) (tCons (tVar 3) tNil))) tNil))) (by rfl) nd
        (pi_list (pv 2)) (blkOk_by (own := [("row", 3)]) (N := nPartR) (sc := defScope sPartR) (by decide +kernel))
        (fun _ _ _ _ _ => pg_name (i := 3) nd rfl (Or.inl rfl)) (fun _ _ _ _ _ => pts_nil)
        (fun _ _ _ _ _ => pe_tup (pa_cons (pv 3) (pa_cons (pe_meth (pv 0) T.cl mU FU hr bU .nil pass0 (pa_cons (pv 1) (pa_cons (pv 3) pa_nil))) pa_nil)))))), ?_⟩
    obtain ⟨p, A, t, g, rfl, h, hg, k⟩ := h
    have W := h.wf
    have k4 := W.k4
    have l16 := rows_16 k4
    refine ⟨_, rfl, p, C, _, _, _, rfl, h.ins, T.cl, T.n1, tf_scores _ _, t.k, rfl, k4, ?_⟩
    rintro H1 _ s1 ⟨a, vs, rfl, ha, hv⟩
    have h1 := h.same s1
    refine ⟨a, rfl, ⟨_, SqL.of ha⟩, fun D hD => ?_⟩
    refine lc_list (K := K) (a := a) (xs := vs) (fun i H' => Made (RowNew H) H1 H' D (((Krdf.rows t.k).take i).filter (goodC t.k (t.cells.getD g [])))) (Made.start hD) (fun i H' _ m => m.base.seq (SqL.of ha)) ?_ ?_
    · rintro i x H' hi m
      obtain ⟨r, hr', rx⟩ := hv.at hi
      have rl := rows_len t.k r (List.mem_of_getElem? hr')
      have h' := h1.same m.base
      refine ⟨rfl, ?_⟩
      refine ⟨_, rfl, p, _, _, rfl, h'.ins, tf_none _ _ (by decide +kernel), _, rfl, _, rfl, p, A, t, g, x, r, rfl, h', hg, (rx.same m.base).row, rl, fun H2 s2 => ⟨_, rfl, ?_⟩⟩
      rw [filter_next _ hr']
      cases e : goodC t.k (t.cells.getD g []) r with
      | true =>
        refine ifT rfl ?_
        rw [if_pos rfl]
        refine ⟨_, rfl, m.add rowM s2 (((rx.same m.base).same s2).undel ?_) ?_⟩
        · rintro rfl
          obtain ⟨_, e1, _, e2⟩ := rx
          cases e1
          rw [hD] at e2
          cases e2
        · have := List.length_filter_le (goodC t.k (t.cells.getD g [])) ((Krdf.rows t.k).take i)
          rw [List.length_take] at this
          omega
      | false =>
        refine ifF rfl ?_
        rw [if_neg Bool.false_ne_true]
        exact m.skip rowM s2
    · intro H2 m
      rw [hv.len, List.take_length] at m
      obtain ⟨s2, us, hD2, z⟩ := m.done rowM
      clear m
      generalize el : (Krdf.rows t.k).filter (goodC t.k (t.cells.getD g [])) = l at z
      have lm : ∀ r ∈ l, r.length = t.k := fun r hr' => by
        rw [← el] at hr'
        exact rows_len t.k r (List.mem_filter.mp hr').1
      have ll : l.length ≤ 16 := by
        rw [← el]
        exact Nat.le_trans (List.length_filter_le _ _) l16
      have s02 := s1.trans s2
      have h2 := h.same s02
      refine ⟨_, rfl, D, rfl, ⟨_, SqL.of hD2⟩, fun D' hD' => ?_⟩
      refine lc_list (K := K) (a := D) (xs := us) (fun i H' => Made (PairAt H) H2 H' D' ((l.take i).map fun r => (r, ratesC t.k (t.cells.getD g []) r))) (Made.start hD') (fun i H' _ m => m.base.seq (SqL.of hD2)) ?_ ?_
      · rintro i x H' hi m
        obtain ⟨r, hr', rx⟩ := z.at hi
        have rl := lm r (List.mem_of_getElem? hr')
        have h' := h2.same m.base
        refine ⟨rfl, ?_⟩
        dsimp only [tYes]
        rw [if_pos rfl]
        refine ⟨_, rfl, _, rfl, p, _, _, rfl, h'.ins, tf_none _ _ (by decide +kernel), _, rfl, _, rfl, p, A, t, g, x, r, rfl, h', hg, (rx.same m.base).row, rl, fun H3 y s3 hy => ?_⟩
        refine ⟨(by show 2 ≤ sizeLine; decide), fun q hq => ?_⟩
        generalize e4 : upd H3 q _ = H4
        have a4 := new_at hq e4
        rw [map_next _ hr']
        obtain ⟨ws, hDm⟩ : ∃ ws, H' D' = some (.lst ws) := by
          obtain ⟨_, ws, e, _⟩ := m
          exact ⟨ws, e⟩
        refine m.add pairM (s3.trans a4.1) ⟨q, x, y, rfl, ?_, RowNew.undel (((rx.same m.base).same s3).same a4.1) ?_, LstAt.same frM (hy D' _ hDm) (same_del a4.1 D')⟩ ?_
        · rw [del_ne (fun e => by rw [e, s3 _ _ hDm] at hq; cases hq)]
          exact a4.2
        · rintro rfl
          obtain ⟨_, e1, _, e2⟩ := rx
          cases e1
          rw [hD'] at e2
          cases e2
        · rw [List.length_map, List.length_take]
          omega
      · intro H3 m
        rw [z.len, List.take_length] at m
        obtain ⟨s3, ws, hD3, z3⟩ := m.done pairM
        refine k H3 _ (s02.trans s3) ⟨D', ws, rfl, hD3, ?_⟩
        unfold partC
        rw [el]
        exact z3
end
end TG

set_option Elab.async false
set_option maxRecDepth 100000
set_option maxHeartbeats 2000000
namespace TG
open PySem PySem.Spec PyProof.Rows L2
open Krdf (Table act)
/-! best_rule -/
abbrev nBestR : List Str := ["self", "found", "seconds", "first", "second", "kinds"]
theorem scBestR : FnScope nBestR ["self"] (defScope sBestR) := ⟨rfl, rfl, rfl, by decide +kernel, rfl, by decide +kernel, by decide +kernel⟩
def FoundAt (H0 H : Hp) (v : V) (m : Best) : Prop := (m = Option.none ∧ v = .non) ∨
  ∃ (n : Nat) (a b : List Bool) (p : Addr) (x y : V), m = some (n, [a, b]) ∧ v = .ref p ∧ H p = some (.tup [.int (n : Int), x, y]) ∧ RowNew H0 H x a ∧ RowNew H0 H y b
theorem FoundAt.same {H0 H H' : Hp} {v : V} {m : Best} (h : FoundAt H0 H v m) (s : Same H H') : FoundAt H0 H' v m := by
  rcases h with h | ⟨n, a, b, p, x, y, e, e2, q, hx, hy⟩
  · exact .inl h
  · exact .inr ⟨n, a, b, p, x, y, e, e2, s _ _ q, hx.same s, hy.same s⟩
def spBestR (C : Addr) : Sp := fun vs H Q _ => ∃ (p : Addr) (A : Tad) (t : Table), vs = [.ref p] ∧ TabAt C H p A t ∧
  ∀ H' v, Same H H' → FoundAt H H' v t.best → Q v H'
section
variable {P : Program} {w : World} {K : PySem.W.Frag} {mg : Str → Option Value} {base : Heap} {C : Addr}
theorem ok_bestR {f fR fS : Addr} {fd fdR fdS : FuncData} (F : Fun K "best_rule" "Table.best_rule" sBestR f fd) (T : TxtT K mg C)
    (FR : FnOk P w K mg base CX0 4 fR fdR ["self", "group"] (spPartR C)) (bR : Binds K fdR ["self", "group"] []) (mR : Meth K C "parting_rows" fR)
    (FS : FnOk P w K mg base CX0 2 fS fdS ["first", "second"] spSameC) (bS : Binds K fdS ["first", "second"] []) (kS : PySem.W.keepIn K (.ref fS) = true) (gS : mg "same_count" = some (.ref fS)) :
    FnOk P w K mg base CX0 5 f fd ["self"] (spBestR C) := by
  refine F.ok scBestR (fun vs H Q E h => ?_) (fun cdv A outer s H vs Q E hr h => ?_)
  · obtain ⟨p, A, t, rfl, _⟩ := h
    rfl
  · have nd := scBestR.nd
    have hr2 : Room 2 _ := hr.mono (by decide)
    refine ⟨_, pss_cons (ps_set (i := 1) nd rfl (Or.inl rfl) pe_non)
      (pss_cons (ps_set (i := 2) nd rfl (Or.inl rfl) (pe_meth (pv 0) T.cl mR FR hr bR .nil pass0 (pa_cons pe_int pa_nil)))
      (pss_cons (ps_for PassesOwn.never rfl (pi_list (pe_meth (pv 0) T.cl mR FR hr bR .nil pass0 (pa_cons pe_int pa_nil))) (pg_name (i := 3) nd rfl (Or.inl rfl))
        (pss_one (ps_for PassesOwn.never rfl (pi_list (pv 2)) (pg_name (i := 4) nd rfl (Or.inl rfl))
          (pss_cons (ps_set (i := 5) nd rfl (Or.inl rfl) (pe_call FS hr2 rfl gS kS bS .nil pass0 (pa_cons (pe_ix ix_tup (pv 3) pe_int (fun _ _ => rfl)) (pa_cons (pe_ix ix_tup (pv 4) pe_int (fun _ _ => rfl)) pa_nil))))
          (pss_one (ps_if (PW.pt (pw_or (pt_cmpR op_isN (pv 1) pe_non (nomark _)) (pw_or1 (pt_cmpR op_gt (pv 5) (pe_ix ix_tup (pv 1) pe_int (fun _ _ => rfl)) (nomark _)))))
            (pss_one (ps_set (i := 1) nd rfl (Or.inl rfl) (pe_tup (pa_cons (pv 5) (pa_cons (pe_ix ix_tup (pv 3) pe_int (fun _ _ => rfl)) (pa_cons (pe_ix ix_tup (pv 4) pe_int (fun _ _ => rfl)) pa_nil)))))) pss_nil))))))
      (pss_one (ps_ret (pv 1))))), ?_⟩
    obtain ⟨p, A, t, rfl, h, k⟩ := h
    have W := h.wf
    have k4 := W.k4
    rw [best_C, best_P] at k
    refine ⟨_, rfl, p, _, _, rfl, h.ins, tf_none _ _ (by decide +kernel), p, A, t, 1, rfl, h, by decide, ?_⟩
    rintro H1 _ s1 ⟨a1, us1, rfl, ha1, z1⟩
    have h1 := h.same s1
    refine ⟨_, rfl, p, _, _, rfl, h1.ins, tf_none _ _ (by decide +kernel), p, A, t, 0, rfl, h1, by decide, ?_⟩
    rintro H2 _ s2 ⟨a0, us0, rfl, ha0, z0⟩
    have z0 := z0.mono fun _ _ r => PairAt.base r s1
    have ha1 := s2 _ _ ha1
    have z1 := z1.mono fun _ _ r => PairAt.same r s2
    have s02 := s1.trans s2
    have m0 : ∀ x ∈ partC t.k (t.cells.getD 0 []), x.2.length = 6 := fun x hx => (part_mem hx).2
    have m1 : ∀ x ∈ partC t.k (t.cells.getD 1 []), x.2.length = 6 := fun x hx => (part_mem hx).2
    generalize partC t.k (t.cells.getD 0 []) = l0 at k z0 m0
    generalize partC t.k (t.cells.getD 1 []) = l1 at k z1 m1
    refine ⟨a0, rfl, ⟨_, SqL.of ha0⟩, for_list (xs := us0) (fun i σ H' => ∃ (v : V) (x3 x4 x5 : Option V), σ = [some (.ref p), some v, some (.ref a1), x3, x4, x5] ∧ Same H2 H' ∧ FoundAt H H' v ((l0.take i).foldl (outStep l1) Option.none)) ?_ ?_ ?_ ?_⟩
    · exact ⟨_, _, _, _, rfl, Same.refl _, .inl ⟨rfl, rfl⟩⟩
    · rintro i σ H' _ ⟨v, x3, x4, x5, rfl, sm, _⟩
      exact sm.seq (SqL.of ha0)
    · rintro i u σ H' hi ⟨v, x3, x4, x5, rfl, sm, fd⟩
      obtain ⟨x, hx, px⟩ := z0.at hi
      have lx := m0 x (List.mem_of_getElem? hx)
      refine ⟨_, rfl, a1, rfl, ⟨_, SqL.of (sm _ _ ha1)⟩, for_list (xs := us1) (fun j σ G => ∃ (v : V) (x4 x5 : Option V), σ = [some (.ref p), some v, some (.ref a1), some u, x4, x5] ∧ Same H' G ∧ FoundAt H G v ((l1.take j).foldl (inStep x) ((l0.take i).foldl (outStep l1) Option.none))) ?_ ?_ ?_ ?_⟩
      · exact ⟨v, x4, x5, rfl, Same.refl _, fd⟩
      · rintro j σ G _ ⟨v, x4, x5, rfl, sg, _⟩
        exact (sm.trans sg).seq (SqL.of ha1)
      · rintro j w σ G hj ⟨v, x4, x5, rfl, sg, fg⟩
        obtain ⟨y, hy, py⟩ := z1.at hj
        have ly := m1 y (List.mem_of_getElem? hy)
        have sG := sm.trans sg
        obtain ⟨pu, u1, u2, rfl, hu, ru, qu⟩ := px.same sG
        obtain ⟨pw, w1, w2, rfl, hw, rw', qw⟩ := py.same sG
        refine ⟨_, rfl, pu, _, _, _, rfl, rfl, SqT.of hu, rfl, _, rfl, pw, _, _, _, rfl, rfl, SqT.of hw, rfl, u2, w2, x.2, y.2, rfl, qu, qw, lx, ly, fun G1 t1 => ?_⟩
        rw [foldl_next _ hy]
        generalize (l1.take j).foldl (inStep x) ((l0.take i).foldl (outStep l1) Option.none) = m at fg ⊢
        have put : ∀ x4' x5', better m (sameTo x.2 y.2 6).length [x.1, y.1] = some ((sameTo x.2 y.2 6).length, [x.1, y.1]) → ∀ q, G1 q = Option.none →
            ∃ (v : V) (x4 x5 : Option V), [some (V.ref p), some (V.ref q), some (V.ref a1), some (V.ref pu), x4', x5'] = [some (V.ref p), some v, some (V.ref a1), some (V.ref pu), x4, x5] ∧ Same H' (upd G1 q (.tup [.int ((sameTo x.2 y.2 6).length : Int), u1, w1])) ∧
              FoundAt H (upd G1 q (.tup [.int ((sameTo x.2 y.2 6).length : Int), u1, w1])) v (inStep x m y) := fun x4' x5' e q hq => by
          have a2 := new_at (o := .tup [.int ((sameTo x.2 y.2 6).length : Int), u1, w1]) hq rfl
          refine ⟨_, _, _, rfl, (sg.trans t1).trans a2.1, .inr ⟨_, _, _, q, u1, w1, e, rfl, a2.2, (ru.same t1).same a2.1, (rw'.same t1).same a2.1⟩⟩
        rcases fg with ⟨rfl, rfl⟩ | ⟨n, a, b, q, x', y', rfl, rfl, hq, hx', hy'⟩
        · refine ⟨_, rfl, rfl, _, rfl, ifT rfl ?_⟩
          refine ifT rfl ?_
          refine ⟨_, rfl, _, rfl, pu, _, _, _, rfl, rfl, SqT.of (t1 _ _ hu), rfl, _, rfl, pw, _, _, _, rfl, rfl, SqT.of (t1 _ _ hw), rfl, (by show 3 ≤ sizeLine; decide), fun o ho => ?_⟩
          exact put _ _ rfl o ho
        · refine ⟨_, rfl, rfl, _, rfl, ifF rfl ?_⟩
          refine ⟨_, rfl, _, rfl, q, _, _, _, rfl, rfl, SqT.of (t1 _ _ hq), rfl, _, _, rfl, rfl, _, rfl, ?_⟩
          by_cases c : n < (sameTo x.2 y.2 6).length
          · refine ifT (decide_eq_true (p := (n : Int) < ((sameTo x.2 y.2 6).length : Int)) (by omega)) ?_
            refine ⟨_, rfl, _, rfl, pu, _, _, _, rfl, rfl, SqT.of (t1 _ _ hu), rfl, _, rfl, pw, _, _, _, rfl, rfl, SqT.of (t1 _ _ hw), rfl, (by show 3 ≤ sizeLine; decide), fun o ho => ?_⟩
            exact put _ _ (if_pos c) o ho
          · refine ifF (decide_eq_false (p := (n : Int) < ((sameTo x.2 y.2 6).length : Int)) (by omega)) ?_
            refine ⟨_, _, _, rfl, sg.trans t1, .inr ⟨n, a, b, q, x', y', if_neg c, rfl, t1 _ _ hq, hx'.same t1, hy'.same t1⟩⟩
      · rintro σ G ⟨v, x4, x5, rfl, sg, fg⟩
        rw [z1.len, List.take_length] at fg
        rw [foldl_next _ hx]
        exact ⟨_, _, _, _, rfl, sm.trans sg, fg⟩
    · rintro σ H3 ⟨v, x3, x4, x5, rfl, s3, fd⟩
      rw [z0.len, List.take_length] at fd
      exact ⟨_, rfl, k H3 v (s02.trans s3) fd⟩
end
end TG

set_option Elab.async false
set_option maxRecDepth 100000
set_option maxHeartbeats 2000000
namespace TG
open PySem PySem.Spec PyProof.Rows L2
open Krdf (Table act)
/-! best, take -/
abbrev sBest : Stmt := top 39
theorem scBest : FnScope ["table", "found"] ["table"] (defScope sBest) := ⟨rfl, rfl, rfl, by decide +kernel, rfl, by decide +kernel, by decide +kernel⟩
def spBest (C : Addr) : Sp := fun vs H Q _ => ∃ (p : Addr) (A : Tad) (t : Table), vs = [.ref p] ∧ TabAt C H p A t ∧
  Answers C H p A (actT t .best) (ansT t .best) Q
theorem ans_best_none {t : Table} (h : t.best = Option.none) : ansT t .best = [-33] := by
  show KrdfNeutral.told (match t.best with | Option.none => Krdf.say (-33) | some y => { num := y.1, nums := Krdf.ints (y.2.flatMap Krdf.bits) }) = _
  rw [h]
  rfl
theorem ans_best {t : Table} {n : Nat} {a b : List Bool} (h : t.best = some (n, [a, b])) : ansT t .best = (n : Int) :: (zb a ++ zb b) := by
  show KrdfNeutral.told (match t.best with | Option.none => Krdf.say (-33) | some y => { num := y.1, nums := Krdf.ints (y.2.flatMap Krdf.bits) }) = _
  rw [h]
  show (n : Int) :: Krdf.ints ([a, b].flatMap Krdf.bits) = _
  rw [List.flatMap_cons, List.flatMap_cons, List.flatMap_nil, List.append_nil, ints_app, ints_bits, ints_bits]
theorem act_take_none {t : Table} (h : t.best = Option.none) : act (some t) .take_ = (some t, Krdf.say (-33)) := by
  show (match t.best with | Option.none => (some t, Krdf.say (-33)) | some y => (some { t with rules := y.2 }, Krdf.nat y.1)) = _
  rw [h]
theorem act_take {t : Table} {n : Nat} {r : List (List Bool)} (h : t.best = some (n, r)) : act (some t) .take_ = (some { t with rules := r }, Krdf.nat n) := by
  show (match t.best with | Option.none => (some t, Krdf.say (-33)) | some y => (some { t with rules := y.2 }, Krdf.nat y.1)) = _
  rw [h]
theorem set_both {t : Table} (W : Wf t) (a b : List Bool) : setRow (setRow t 0 a) 1 b = { t with rules := [a, b] } := by
  obtain ⟨k, c, r⟩ := t
  have h2 : r.length = 2 := W.r2
  obtain ⟨x, y, rfl⟩ := len2 h2.symm
  rfl
section
variable {P : Program} {w : World} {K : PySem.W.Frag} {mg : Str → Option Value} {base : Heap} {C : Addr}
theorem ok_best {f fB : Addr} {fd fdB : FuncData} (F : Fun K "best" "best" sBest f fd) (T : TxtT K mg C) (X : TxtC mg)
    (FB : FnOk P w K mg base CX0 5 fB fdB ["self"] (spBestR C)) (bB : Binds K fdB ["self"] []) (mB : Meth K C "best_rule" fB) : FnOk P w K mg base CX0 6 f fd ["table"] (spBest C) := by
  refine F.ok scBest (fun vs H Q E h => ?_) (fun cdv A outer s H vs Q E hr h => ?_)
  · obtain ⟨p, A, t, rfl, _⟩ := h
    rfl
  · obtain ⟨_, g4⟩ := X.g4
    refine ⟨_, pss_cons (ps_set (i := 1) scBest.nd rfl (Or.inl rfl) (pe_meth0 (pv 0) T.cl mB FB hr bB .nil pass0))
      (pss_cons (ps_if (pt_cmpR op_isN (pv 1) pe_non (nomark _)) (pss_one (ps_ret (pe_lst (pa_cons (pe_glob (v := V.int (-33)) rfl g4 ⟨_, rfl⟩) pa_nil)))) pss_nil)
      (pss_one (ps_ret (pe_op op_cat (pe_op op_cat (pe_lst (pa_cons (pe_ix ix_tup (pv 1) pe_int (fun _ _ => rfl)) pa_nil)) (pe_ix ix_tup (pv 1) pe_int (fun _ _ => rfl))) (pe_ix ix_tup (pv 1) pe_int (fun _ _ => rfl)))))), ?_⟩
    obtain ⟨p, A, t, rfl, h, k⟩ := h
    have W := h.wf
    have k4 := W.k4
    have e1 : actT t .best = t := rfl
    rw [e1] at k
    refine ⟨_, rfl, p, _, _, rfl, h.ins, tf_none _ _ (by decide +kernel), p, A, t, rfl, h, fun H1 v s1 fd => ?_⟩
    rcases fd with ⟨e, rfl⟩ | ⟨n, a, b, q, x, y, e, rfl, hq, ⟨ax, rfl, _, hx⟩, ⟨ay, rfl, _, hy⟩⟩
    · rw [ans_best_none e] at k
      refine ⟨_, rfl, rfl, _, rfl, ifT rfl ?_⟩
      exact ⟨(by show 1 ≤ sizeLine; decide), fun r hr' => k.out h s1 hr' rfl⟩
    · rw [ans_best e] at k
      obtain ⟨a', b', er, la, lb, _⟩ := best_rules e
      cases er
      refine ⟨_, rfl, rfl, _, rfl, ifF rfl ?_⟩
      refine ⟨_, rfl, q, _, _, _, rfl, rfl, SqT.of hq, rfl, (by show 1 ≤ sizeLine; decide), fun l hl => ?_⟩
      generalize q1 : upd H1 l _ = H2
      have a1 := new_at hl q1
      refine ⟨_, rfl, q, _, _, _, rfl, rfl, SqT.of (a1.1 _ _ hq), rfl, l, ax, _, _, rfl, rfl, a1.2, a1.1 _ _ hx, ?_, fun m hm => ?_⟩
      · rw [List.length_map, zb_len, la]
        show 1 + t.k ≤ 2 ^ 24
        omega
      generalize q2 : upd H2 m _ = H3
      have a2 := new_at hm q2
      refine ⟨_, rfl, q, _, _, _, rfl, rfl, SqT.of (a2.1 _ _ (a1.1 _ _ hq)), rfl, m, ay, _, _, rfl, rfl, a2.2, a2.1 _ _ (a1.1 _ _ hy), ?_, fun r hr' => ?_⟩
      · rw [List.length_append, List.length_map, List.length_map, zb_len, zb_len, la, lb]
        show 1 + t.k + t.k ≤ 2 ^ 24
        omega
      · refine k.out h ((s1.trans a1.1).trans a2.1) hr' ?_
        simp
abbrev sTake : Stmt := top 40
theorem scTake : FnScope ["table", "found"] ["table"] (defScope sTake) := ⟨rfl, rfl, rfl, by decide +kernel, rfl, by decide +kernel, by decide +kernel⟩
def spTake (C : Addr) : Sp := fun vs H Q _ => ∃ (p : Addr) (A : Tad) (t : Table), vs = [.ref p] ∧ TabAt C H p A t ∧
  Answers C H p A (actT t .take_) (ansT t .take_) Q
theorem ok_take {f fB fS : Addr} {fd fdB fdS : FuncData} (F : Fun K "take" "take" sTake f fd) (T : TxtT K mg C) (X : TxtC mg)
    (FB : FnOk P w K mg base CX0 5 fB fdB ["self"] (spBestR C)) (bB : Binds K fdB ["self"] []) (mB : Meth K C "best_rule" fB)
    (FS : FnOk P w K mg base CX0 1 fS fdS nSetR (spSetR K C)) (bS : Binds K fdS nSetR []) (mS : Meth K C "set_row" fS) : FnOk P w K mg base CX0 6 f fd ["table"] (spTake C) := by
  refine F.ok scTake (fun vs H Q E h => ?_) (fun cdv A outer s H vs Q E hr h => ?_)
  · obtain ⟨p, A, t, rfl, _⟩ := h
    rfl
  · obtain ⟨_, g4⟩ := X.g4
    have hr1 : Room 1 _ := hr.mono (by decide)
    refine ⟨_, pss_cons (ps_set (i := 1) scTake.nd rfl (Or.inl rfl) (pe_meth0 (pv 0) T.cl mB FB hr bB .nil pass0))
      (pss_cons (ps_if (pt_cmpR op_isN (pv 1) pe_non (nomark _)) (pss_one (ps_ret (pe_lst (pa_cons (pe_glob (v := V.int (-33)) rfl g4 ⟨_, rfl⟩) pa_nil)))) pss_nil)
      (pss_cons (ps_expr (pe_meth (pv 0) T.cl mS FS hr1 bS .nil pass0 (pa_cons pe_int (pa_cons (pe_ix ix_tup (pv 1) pe_int (fun _ _ => rfl)) pa_nil))))
      (pss_cons (ps_expr (pe_meth (pv 0) T.cl mS FS hr1 bS .nil pass0 (pa_cons pe_int (pa_cons (pe_ix ix_tup (pv 1) pe_int (fun _ _ => rfl)) pa_nil))))
      (pss_one (ps_ret (pe_lst (pa_cons (pe_ix ix_tup (pv 1) pe_int (fun _ _ => rfl)) pa_nil))))))), ?_⟩
    obtain ⟨p, A, t, rfl, h, k⟩ := h
    have W := h.wf
    unfold actT ansT at k
    refine ⟨_, rfl, p, _, _, rfl, h.ins, tf_none _ _ (by decide +kernel), p, A, t, rfl, h, fun H1 v s1 fd => ?_⟩
    rcases fd with ⟨e, rfl⟩ | ⟨n, a, b, q, x, y, e, rfl, hq, ⟨ax, rfl, _, hx⟩, ⟨ay, rfl, ny, hy⟩⟩
    · rw [act_take_none e] at k
      refine ⟨_, rfl, rfl, _, rfl, ifT rfl ?_⟩
      exact ⟨(by show 1 ≤ sizeLine; decide), fun r hr' => k.out h s1 hr' rfl⟩
    · rw [act_take e] at k
      obtain ⟨a', b', er, la, lb, _⟩ := best_rules e
      cases er
      have h1 := h.same s1
      have nq : q ∉ A.fp p := fun m => by
        rcases fp_kind h1 m with ⟨l, z⟩ | ⟨d, z⟩ <;> (rw [hq] at z; cases z)
      have nay : ay ∉ A.fp p := fp_free h ny
      refine ⟨_, rfl, rfl, _, rfl, ifF rfl ?_⟩
      refine ⟨_, rfl, p, _, _, rfl, h1.ins, tf_none _ _ (by decide +kernel), _, rfl, q, _, _, _, rfl, rfl, SqT.of hq, rfl, p, ax, A, t, 0, a, rfl, h1, by decide, SqL.of hx, la, fun H2 A2 T2 b2 n2 => ?_⟩
      have hq2 := b2 _ _ hq nq
      have hy2 := b2 _ _ hy nay
      have old : ∀ {c o}, H1 c = some o → c ∉ A.fp p → c ∉ A2.fp p := fun {c o} e m z => by
        rcases n2 c z with i | i
        · exact m i
        · rw [e] at i; cases i
      refine ⟨_, rfl, p, _, _, rfl, T2.ins, tf_none _ _ (by decide +kernel), _, rfl, q, _, _, _, rfl, rfl, SqT.of hq2, rfl, p, ay, A2, _, 1, b, rfl, T2, by decide, SqL.of hy2, lb, fun H3 A3 T3 b3 n3 => ?_⟩
      rw [set_both W] at T3
      have hq3 := b3 _ _ hq2 (old hq nq)
      refine ⟨_, rfl, q, _, _, _, rfl, rfl, SqT.of hq3, rfl, (by show 1 ≤ sizeLine; decide), fun l hl => ?_⟩
      refine k.out2 T3 (fun c o e m => b3 _ _ (b2 _ _ (s1 _ _ e) m) (old (s1 _ _ e) m)) (fun c hc => ?_) hl rfl
      rcases n3 c hc with i | i
      · rcases n2 c i with j | j
        · exact .inl j
        · exact .inr (s1.free j)
      · by_cases m : c ∈ A.fp p
        · exact .inl m
        · cases z : H c with
          | none => exact .inr rfl
          | some o => rw [b2 _ _ (s1 _ _ z) m] at i; cases i
end
end TG

set_option Elab.async false
set_option maxRecDepth 100000
set_option maxHeartbeats 4000000
namespace TG
open PySem PySem.Spec PyProof.Rows L2
open Krdf (Table act)
open PyFlat (put1)
/-- a def that keeps its promise and is found by its name -/
def Has (P : Program) (w : World) (K : PySem.W.Frag) (mg : Str → Option Value) (base : Heap) (k : Nat) (nm : Str) (ps : List Str) (sp : Sp) : Prop :=
  ∃ f fd, FnOk P w K mg base CX0 k f fd ps sp ∧ L2.Binds K fd ps [] ∧ PySem.W.keepIn K (.ref f) = true ∧ mg nm = some (.ref f)
structure TxtN (mg : Str → Option Value) : Prop where
  c1 : ∃ t, mg "COUNT" = some (.int 1 t)
  c2 : ∃ t, mg "RULE" = some (.int 2 t)
  c3 : ∃ t, mg "RATE" = some (.int 3 t)
  c4 : ∃ t, mg "ALIKE" = some (.int 4 t)
  c5 : ∃ t, mg "GAP" = some (.int 5 t)
  c6 : ∃ t, mg "WHICH" = some (.int 6 t)
  c7 : ∃ t, mg "BEST" = some (.int 7 t)
  c8 : ∃ t, mg "TAKE" = some (.int 8 t)
  c9 : ∃ t, mg "ABOVE" = some (.int 9 t)
  c10 : ∃ t, mg "CELL" = some (.int 10 t)
  c11 : ∃ t, mg "PEOPLE" = some (.int 11 t)
  c12 : ∃ t, mg "IFPICK" = some (.int 12 t)
abbrev sBegun : Stmt := top 46
abbrev nBegun : List Str := ["table", "call", "number"]
theorem scBegun : FnScope nBegun ["table", "call"] (defScope sBegun) := ⟨rfl, rfl, rfl, by decide +kernel, rfl, by decide +kernel, by decide +kernel⟩
theorem cut3 (a b c : V) (xs : List V) : cutV (a :: b :: c :: xs) (some 3) Option.none = xs := by
  unfold cutV
  have e : HT.sIx (a :: b :: c :: xs).length 0 (some 3) = 3 := by
    show HT.sIx _ 0 (some ((3 : Nat) : Int)) = 3
    rw [HT.sIx_nat]
    simp only [List.length_cons]
    omega
  rw [e, HT.sIx_none]
  show xs.take (xs.length + 3 - 3) = xs
  rw [Nat.add_sub_cancel, List.take_length]
section
variable {P : Program} {w : World} {K : PySem.W.Frag} {mg : Str → Option Value} {base : Heap} {C : Addr}
theorem ok_begun {f : Addr} {fd : FuncData} (F : Fun K "answer_begun" "answer_begun" sBegun f fd) (N : TxtN mg)
    (A1 : Has P w K mg base 3 "count" nCount (spCount C))
    (A2 : Has P w K mg base 3 "rule" nRule (spRule K C))
    (A3 : Has P w K mg base 4 "rate" ["table", "kind", "group"] (spCRate C))
    (A4 : Has P w K mg base 6 "alike" ["table", "kind"] (spCAlike C))
    (A5 : Has P w K mg base 5 "gap" ["table", "kind"] (spCGap C))
    (A6 : Has P w K mg base 6 "which" ["table"] (spCWhich C))
    (A7 : Has P w K mg base 6 "best" ["table"] (spBest C))
    (A8 : Has P w K mg base 6 "take" ["table"] (spTake C))
    (A9 : Has P w K mg base 3 "above" ["table", "group", "score"] (spAbove C))
    (A10 : Has P w K mg base 3 "cell" nCell (spCell C))
    (A11 : Has P w K mg base 2 "people" ["table", "group"] (spPeople C))
    (A12 : Has P w K mg base 4 "ifpick" nIfpick (spIfpick C))
    (A13 : Has P w K mg base 1 "state" ["table"] (spState C)) : FnOk P w K mg base CX0 8 f fd ["table", "call"] (spBegun K C) := by
  refine F.ok scBegun (fun vs H Q E h => ?_) (fun cdv A outer s H vs Q E hr h => ?_)
  · obtain ⟨p, a, A, t, c, rfl, _⟩ := h
    rfl
  · have nd := scBegun.nd
    obtain ⟨_, c1⟩ := N.c1
    obtain ⟨_, c2⟩ := N.c2
    obtain ⟨_, c3⟩ := N.c3
    obtain ⟨_, c4⟩ := N.c4
    obtain ⟨_, c5⟩ := N.c5
    obtain ⟨_, c6⟩ := N.c6
    obtain ⟨_, c7⟩ := N.c7
    obtain ⟨_, c8⟩ := N.c8
    obtain ⟨_, c9⟩ := N.c9
    obtain ⟨_, c10⟩ := N.c10
    obtain ⟨_, c11⟩ := N.c11
    obtain ⟨_, c12⟩ := N.c12
    obtain ⟨f1, fd1, F1, b1, k1, g1⟩ := A1
    have r1 : Room 3 _ := hr.mono (by decide)
    obtain ⟨f2, fd2, F2, b2, k2, g2⟩ := A2
    have r2 : Room 3 _ := hr.mono (by decide)
    obtain ⟨f3, fd3, F3, b3, k3, g3⟩ := A3
    have r3 : Room 4 _ := hr.mono (by decide)
    obtain ⟨f4, fd4, F4, b4, k4, g4⟩ := A4
    have r4 : Room 6 _ := hr.mono (by decide)
    obtain ⟨f5, fd5, F5, b5, k5, g5⟩ := A5
    have r5 : Room 5 _ := hr.mono (by decide)
    obtain ⟨f6, fd6, F6, b6, k6, g6⟩ := A6
    have r6 : Room 6 _ := hr.mono (by decide)
    obtain ⟨f7, fd7, F7, b7, k7, g7⟩ := A7
    have r7 : Room 6 _ := hr.mono (by decide)
    obtain ⟨f8, fd8, F8, b8, k8, g8⟩ := A8
    have r8 : Room 6 _ := hr.mono (by decide)
    obtain ⟨f9, fd9, F9, b9, k9, g9⟩ := A9
    have r9 : Room 3 _ := hr.mono (by decide)
    obtain ⟨f10, fd10, F10, b10, k10, g10⟩ := A10
    have r10 : Room 3 _ := hr.mono (by decide)
    obtain ⟨f11, fd11, F11, b11, k11, g11⟩ := A11
    have r11 : Room 2 _ := hr.mono (by decide)
    obtain ⟨f12, fd12, F12, b12, k12, g12⟩ := A12
    have r12 : Room 4 _ := hr.mono (by decide)
    obtain ⟨f13, fd13, F13, b13, k13, g13⟩ := A13
    have r13 : Room 1 _ := hr.mono (by decide)
    refine ⟨_, pss_cons (ps_set (i := 2) nd rfl (Or.inl rfl) (pe_ix ix_list (pv 1) pe_int (fun _ _ => rfl)))
      (pss_cons (ps_if (pt_cmpR op_eq (pv 2) (pe_glob (v := V.int 1) rfl c1 ⟨_, rfl⟩) (nomark _)) (pss_one (ps_ret (pe_call F1 r1 rfl g1 k1 b1 .nil pass0 (pa_cons (pv 0) (pa_cons (pe_ix ix_list (pv 1) pe_int (fun _ _ => rfl)) (pa_cons (pe_ix ix_list (pv 1) pe_int (fun _ _ => rfl)) (pa_cons (pe_ix ix_list (pv 1) pe_int (fun _ _ => rfl)) (pa_cons (pe_ix ix_list (pv 1) pe_int (fun _ _ => rfl)) pa_nil)))))))) pss_nil)
      (pss_cons (ps_if (pt_cmpR op_eq (pv 2) (pe_glob (v := V.int 2) rfl c2 ⟨_, rfl⟩) (nomark _)) (pss_one (ps_ret (pe_call F2 r2 rfl g2 k2 b2 .nil pass0 (pa_cons (pv 0) (pa_cons (pe_ix ix_list (pv 1) pe_int (fun _ _ => rfl)) (pa_cons (pe_slice sl_list (pv 1) (po_some pe_int) po_none) pa_nil)))))) pss_nil)
      (pss_cons (ps_if (pt_cmpR op_eq (pv 2) (pe_glob (v := V.int 3) rfl c3 ⟨_, rfl⟩) (nomark _)) (pss_one (ps_ret (pe_call F3 r3 rfl g3 k3 b3 .nil pass0 (pa_cons (pv 0) (pa_cons (pe_ix ix_list (pv 1) pe_int (fun _ _ => rfl)) (pa_cons (pe_ix ix_list (pv 1) pe_int (fun _ _ => rfl)) pa_nil)))))) pss_nil)
      (pss_cons (ps_if (pt_cmpR op_eq (pv 2) (pe_glob (v := V.int 4) rfl c4 ⟨_, rfl⟩) (nomark _)) (pss_one (ps_ret (pe_call F4 r4 rfl g4 k4 b4 .nil pass0 (pa_cons (pv 0) (pa_cons (pe_ix ix_list (pv 1) pe_int (fun _ _ => rfl)) pa_nil))))) pss_nil)
      (pss_cons (ps_if (pt_cmpR op_eq (pv 2) (pe_glob (v := V.int 5) rfl c5 ⟨_, rfl⟩) (nomark _)) (pss_one (ps_ret (pe_call F5 r5 rfl g5 k5 b5 .nil pass0 (pa_cons (pv 0) (pa_cons (pe_ix ix_list (pv 1) pe_int (fun _ _ => rfl)) pa_nil))))) pss_nil)
      (pss_cons (ps_if (pt_cmpR op_eq (pv 2) (pe_glob (v := V.int 6) rfl c6 ⟨_, rfl⟩) (nomark _)) (pss_one (ps_ret (pe_call F6 r6 rfl g6 k6 b6 .nil pass0 (pa_cons (pv 0) pa_nil)))) pss_nil)
      (pss_cons (ps_if (pt_cmpR op_eq (pv 2) (pe_glob (v := V.int 7) rfl c7 ⟨_, rfl⟩) (nomark _)) (pss_one (ps_ret (pe_call F7 r7 rfl g7 k7 b7 .nil pass0 (pa_cons (pv 0) pa_nil)))) pss_nil)
      (pss_cons (ps_if (pt_cmpR op_eq (pv 2) (pe_glob (v := V.int 8) rfl c8 ⟨_, rfl⟩) (nomark _)) (pss_one (ps_ret (pe_call F8 r8 rfl g8 k8 b8 .nil pass0 (pa_cons (pv 0) pa_nil)))) pss_nil)
      (pss_cons (ps_if (pt_cmpR op_eq (pv 2) (pe_glob (v := V.int 9) rfl c9 ⟨_, rfl⟩) (nomark _)) (pss_one (ps_ret (pe_call F9 r9 rfl g9 k9 b9 .nil pass0 (pa_cons (pv 0) (pa_cons (pe_ix ix_list (pv 1) pe_int (fun _ _ => rfl)) (pa_cons (pe_ix ix_list (pv 1) pe_int (fun _ _ => rfl)) pa_nil)))))) pss_nil)
      (pss_cons (ps_if (pt_cmpR op_eq (pv 2) (pe_glob (v := V.int 10) rfl c10 ⟨_, rfl⟩) (nomark _)) (pss_one (ps_ret (pe_call F10 r10 rfl g10 k10 b10 .nil pass0 (pa_cons (pv 0) (pa_cons (pe_ix ix_list (pv 1) pe_int (fun _ _ => rfl)) (pa_cons (pe_ix ix_list (pv 1) pe_int (fun _ _ => rfl)) pa_nil)))))) pss_nil)
      (pss_cons (ps_if (pt_cmpR op_eq (pv 2) (pe_glob (v := V.int 11) rfl c11 ⟨_, rfl⟩) (nomark _)) (pss_one (ps_ret (pe_call F11 r11 rfl g11 k11 b11 .nil pass0 (pa_cons (pv 0) (pa_cons (pe_ix ix_list (pv 1) pe_int (fun _ _ => rfl)) pa_nil))))) pss_nil)
      (pss_cons (ps_if (pt_cmpR op_eq (pv 2) (pe_glob (v := V.int 12) rfl c12 ⟨_, rfl⟩) (nomark _)) (pss_one (ps_ret (pe_call F12 r12 rfl g12 k12 b12 .nil pass0 (pa_cons (pv 0) (pa_cons (pe_ix ix_list (pv 1) pe_int (fun _ _ => rfl)) (pa_cons (pe_ix ix_list (pv 1) pe_int (fun _ _ => rfl)) (pa_cons (pe_ix ix_list (pv 1) pe_int (fun _ _ => rfl)) pa_nil))))))) pss_nil)
      (pss_one (ps_ret (pe_call F13 r13 rfl g13 k13 b13 .nil pass0 (pa_cons (pv 0) pa_nil)))))))))))))))), ?_⟩
    obtain ⟨p, a, A, t, c, rfl, h, ha, fo, pos, hz, k⟩ := h
    cases fo with
    | begin_ kk => exact absurd rfl hz
    | count g s y n =>
      obtain ⟨g, rfl⟩ := Int.eq_ofNat_of_zero_le (pos g (by simp [put1, PyFlat.putRows]))
      obtain ⟨s, rfl⟩ := Int.eq_ofNat_of_zero_le (pos s (by simp [put1, PyFlat.putRows]))
      obtain ⟨y, rfl⟩ := Int.eq_ofNat_of_zero_le (pos y (by simp [put1, PyFlat.putRows]))
      obtain ⟨n, rfl⟩ := Int.eq_ofNat_of_zero_le (pos n (by simp [put1, PyFlat.putRows]))
      refine ⟨_, rfl, a, _, _, _, rfl, rfl, ha, atI_nat (j := 0) rfl, ?_⟩
      refine ⟨_, rfl, rfl, _, rfl, ifT rfl ?_⟩
      exact ⟨_, rfl, _, rfl, a, _, _, _, rfl, rfl, ha, atI_nat (j := 1) rfl, _, rfl, a, _, _, _, rfl, rfl, ha, atI_nat (j := 2) rfl, _, rfl, a, _, _, _, rfl, rfl, ha, atI_nat (j := 3) rfl, _, rfl, a, _, _, _, rfl, rfl, ha, atI_nat (j := 4) rfl, p, A, t, g, s, y, n, rfl, h, k⟩
    | rule g l =>
      obtain ⟨g, rfl⟩ := Int.eq_ofNat_of_zero_le (pos g (by simp [put1, PyFlat.putRows, PyFlat.putRow]))
      refine ⟨_, rfl, a, _, _, _, rfl, rfl, ha, atI_nat (j := 0) rfl, ?_⟩
      refine ⟨_, rfl, rfl, _, rfl, ifF rfl ?_⟩
      refine ⟨_, rfl, rfl, _, rfl, ifT rfl ?_⟩
      refine ⟨_, rfl, _, rfl, a, _, _, _, rfl, rfl, ha, atI_nat (j := 1) rfl, _, rfl, _, rfl, a, _, rfl, ha, fun q hq => ?_⟩
      have ec : cutV ((put1 [[2, (g : Int)], l]).map V.int) (some 3) Option.none = l.map V.int := by
        have ep : put1 [[2, (g : Int)], l] = 2 :: (g : Int) :: (l.length : Int) :: l := by simp [put1, PyFlat.putRows, PyFlat.putRow]
        rw [ep]
        exact cut3 _ _ _ _
      rw [ec]
      generalize e1 : upd H q _ = H1
      have a1 := new_at hq e1
      exact ⟨p, q, A, t, g, l, rfl, h.same a1.1, SqL.of a1.2, fun x hx => pos x (by simp [put1, PyFlat.putRows, PyFlat.putRow, hx]), k.same a1.1⟩
    | rate q g =>
      obtain ⟨q, rfl⟩ := Int.eq_ofNat_of_zero_le (pos q (by simp [put1, PyFlat.putRows]))
      obtain ⟨g, rfl⟩ := Int.eq_ofNat_of_zero_le (pos g (by simp [put1, PyFlat.putRows]))
      refine ⟨_, rfl, a, _, _, _, rfl, rfl, ha, atI_nat (j := 0) rfl, ?_⟩
      refine ⟨_, rfl, rfl, _, rfl, ifF rfl ?_⟩
      refine ⟨_, rfl, rfl, _, rfl, ifF rfl ?_⟩
      refine ⟨_, rfl, rfl, _, rfl, ifT rfl ?_⟩
      exact ⟨_, rfl, _, rfl, a, _, _, _, rfl, rfl, ha, atI_nat (j := 1) rfl, _, rfl, a, _, _, _, rfl, rfl, ha, atI_nat (j := 2) rfl, p, A, t, q, g, rfl, h, k⟩
    | alike q =>
      obtain ⟨q, rfl⟩ := Int.eq_ofNat_of_zero_le (pos q (by simp [put1, PyFlat.putRows]))
      refine ⟨_, rfl, a, _, _, _, rfl, rfl, ha, atI_nat (j := 0) rfl, ?_⟩
      refine ⟨_, rfl, rfl, _, rfl, ifF rfl ?_⟩
      refine ⟨_, rfl, rfl, _, rfl, ifF rfl ?_⟩
      refine ⟨_, rfl, rfl, _, rfl, ifF rfl ?_⟩
      refine ⟨_, rfl, rfl, _, rfl, ifT rfl ?_⟩
      exact ⟨_, rfl, _, rfl, a, _, _, _, rfl, rfl, ha, atI_nat (j := 1) rfl, p, A, t, q, rfl, h, k⟩
    | gap q =>
      obtain ⟨q, rfl⟩ := Int.eq_ofNat_of_zero_le (pos q (by simp [put1, PyFlat.putRows]))
      refine ⟨_, rfl, a, _, _, _, rfl, rfl, ha, atI_nat (j := 0) rfl, ?_⟩
      refine ⟨_, rfl, rfl, _, rfl, ifF rfl ?_⟩
      refine ⟨_, rfl, rfl, _, rfl, ifF rfl ?_⟩
      refine ⟨_, rfl, rfl, _, rfl, ifF rfl ?_⟩
      refine ⟨_, rfl, rfl, _, rfl, ifF rfl ?_⟩
      refine ⟨_, rfl, rfl, _, rfl, ifT rfl ?_⟩
      exact ⟨_, rfl, _, rfl, a, _, _, _, rfl, rfl, ha, atI_nat (j := 1) rfl, p, A, t, q, rfl, h, k⟩
    | which  =>
      refine ⟨_, rfl, a, _, _, _, rfl, rfl, ha, atI_nat (j := 0) rfl, ?_⟩
      refine ⟨_, rfl, rfl, _, rfl, ifF rfl ?_⟩
      refine ⟨_, rfl, rfl, _, rfl, ifF rfl ?_⟩
      refine ⟨_, rfl, rfl, _, rfl, ifF rfl ?_⟩
      refine ⟨_, rfl, rfl, _, rfl, ifF rfl ?_⟩
      refine ⟨_, rfl, rfl, _, rfl, ifF rfl ?_⟩
      refine ⟨_, rfl, rfl, _, rfl, ifT rfl ?_⟩
      exact ⟨_, rfl, p, A, t, rfl, h, k⟩
    | best  =>
      refine ⟨_, rfl, a, _, _, _, rfl, rfl, ha, atI_nat (j := 0) rfl, ?_⟩
      refine ⟨_, rfl, rfl, _, rfl, ifF rfl ?_⟩
      refine ⟨_, rfl, rfl, _, rfl, ifF rfl ?_⟩
      refine ⟨_, rfl, rfl, _, rfl, ifF rfl ?_⟩
      refine ⟨_, rfl, rfl, _, rfl, ifF rfl ?_⟩
      refine ⟨_, rfl, rfl, _, rfl, ifF rfl ?_⟩
      refine ⟨_, rfl, rfl, _, rfl, ifF rfl ?_⟩
      refine ⟨_, rfl, rfl, _, rfl, ifT rfl ?_⟩
      exact ⟨_, rfl, p, A, t, rfl, h, k⟩
    | take  =>
      refine ⟨_, rfl, a, _, _, _, rfl, rfl, ha, atI_nat (j := 0) rfl, ?_⟩
      refine ⟨_, rfl, rfl, _, rfl, ifF rfl ?_⟩
      refine ⟨_, rfl, rfl, _, rfl, ifF rfl ?_⟩
      refine ⟨_, rfl, rfl, _, rfl, ifF rfl ?_⟩
      refine ⟨_, rfl, rfl, _, rfl, ifF rfl ?_⟩
      refine ⟨_, rfl, rfl, _, rfl, ifF rfl ?_⟩
      refine ⟨_, rfl, rfl, _, rfl, ifF rfl ?_⟩
      refine ⟨_, rfl, rfl, _, rfl, ifF rfl ?_⟩
      refine ⟨_, rfl, rfl, _, rfl, ifT rfl ?_⟩
      exact ⟨_, rfl, p, A, t, rfl, h, k⟩
    | above g s =>
      obtain ⟨g, rfl⟩ := Int.eq_ofNat_of_zero_le (pos g (by simp [put1, PyFlat.putRows]))
      obtain ⟨s, rfl⟩ := Int.eq_ofNat_of_zero_le (pos s (by simp [put1, PyFlat.putRows]))
      refine ⟨_, rfl, a, _, _, _, rfl, rfl, ha, atI_nat (j := 0) rfl, ?_⟩
      refine ⟨_, rfl, rfl, _, rfl, ifF rfl ?_⟩
      refine ⟨_, rfl, rfl, _, rfl, ifF rfl ?_⟩
      refine ⟨_, rfl, rfl, _, rfl, ifF rfl ?_⟩
      refine ⟨_, rfl, rfl, _, rfl, ifF rfl ?_⟩
      refine ⟨_, rfl, rfl, _, rfl, ifF rfl ?_⟩
      refine ⟨_, rfl, rfl, _, rfl, ifF rfl ?_⟩
      refine ⟨_, rfl, rfl, _, rfl, ifF rfl ?_⟩
      refine ⟨_, rfl, rfl, _, rfl, ifF rfl ?_⟩
      refine ⟨_, rfl, rfl, _, rfl, ifT rfl ?_⟩
      exact ⟨_, rfl, _, rfl, a, _, _, _, rfl, rfl, ha, atI_nat (j := 1) rfl, _, rfl, a, _, _, _, rfl, rfl, ha, atI_nat (j := 2) rfl, p, A, t, g, s, rfl, h, k⟩
    | cell g s =>
      obtain ⟨g, rfl⟩ := Int.eq_ofNat_of_zero_le (pos g (by simp [put1, PyFlat.putRows]))
      obtain ⟨s, rfl⟩ := Int.eq_ofNat_of_zero_le (pos s (by simp [put1, PyFlat.putRows]))
      refine ⟨_, rfl, a, _, _, _, rfl, rfl, ha, atI_nat (j := 0) rfl, ?_⟩
      refine ⟨_, rfl, rfl, _, rfl, ifF rfl ?_⟩
      refine ⟨_, rfl, rfl, _, rfl, ifF rfl ?_⟩
      refine ⟨_, rfl, rfl, _, rfl, ifF rfl ?_⟩
      refine ⟨_, rfl, rfl, _, rfl, ifF rfl ?_⟩
      refine ⟨_, rfl, rfl, _, rfl, ifF rfl ?_⟩
      refine ⟨_, rfl, rfl, _, rfl, ifF rfl ?_⟩
      refine ⟨_, rfl, rfl, _, rfl, ifF rfl ?_⟩
      refine ⟨_, rfl, rfl, _, rfl, ifF rfl ?_⟩
      refine ⟨_, rfl, rfl, _, rfl, ifF rfl ?_⟩
      refine ⟨_, rfl, rfl, _, rfl, ifT rfl ?_⟩
      exact ⟨_, rfl, _, rfl, a, _, _, _, rfl, rfl, ha, atI_nat (j := 1) rfl, _, rfl, a, _, _, _, rfl, rfl, ha, atI_nat (j := 2) rfl, p, A, t, g, s, rfl, h, k⟩
    | people g =>
      obtain ⟨g, rfl⟩ := Int.eq_ofNat_of_zero_le (pos g (by simp [put1, PyFlat.putRows]))
      refine ⟨_, rfl, a, _, _, _, rfl, rfl, ha, atI_nat (j := 0) rfl, ?_⟩
      refine ⟨_, rfl, rfl, _, rfl, ifF rfl ?_⟩
      refine ⟨_, rfl, rfl, _, rfl, ifF rfl ?_⟩
      refine ⟨_, rfl, rfl, _, rfl, ifF rfl ?_⟩
      refine ⟨_, rfl, rfl, _, rfl, ifF rfl ?_⟩
      refine ⟨_, rfl, rfl, _, rfl, ifF rfl ?_⟩
      refine ⟨_, rfl, rfl, _, rfl, ifF rfl ?_⟩
      refine ⟨_, rfl, rfl, _, rfl, ifF rfl ?_⟩
      refine ⟨_, rfl, rfl, _, rfl, ifF rfl ?_⟩
      refine ⟨_, rfl, rfl, _, rfl, ifF rfl ?_⟩
      refine ⟨_, rfl, rfl, _, rfl, ifF rfl ?_⟩
      refine ⟨_, rfl, rfl, _, rfl, ifT rfl ?_⟩
      exact ⟨_, rfl, _, rfl, a, _, _, _, rfl, rfl, ha, atI_nat (j := 1) rfl, p, A, t, g, rfl, h, k⟩
    | ifpick g s q =>
      obtain ⟨g, rfl⟩ := Int.eq_ofNat_of_zero_le (pos g (by simp [put1, PyFlat.putRows]))
      obtain ⟨s, rfl⟩ := Int.eq_ofNat_of_zero_le (pos s (by simp [put1, PyFlat.putRows]))
      obtain ⟨q, rfl⟩ := Int.eq_ofNat_of_zero_le (pos q (by simp [put1, PyFlat.putRows]))
      refine ⟨_, rfl, a, _, _, _, rfl, rfl, ha, atI_nat (j := 0) rfl, ?_⟩
      refine ⟨_, rfl, rfl, _, rfl, ifF rfl ?_⟩
      refine ⟨_, rfl, rfl, _, rfl, ifF rfl ?_⟩
      refine ⟨_, rfl, rfl, _, rfl, ifF rfl ?_⟩
      refine ⟨_, rfl, rfl, _, rfl, ifF rfl ?_⟩
      refine ⟨_, rfl, rfl, _, rfl, ifF rfl ?_⟩
      refine ⟨_, rfl, rfl, _, rfl, ifF rfl ?_⟩
      refine ⟨_, rfl, rfl, _, rfl, ifF rfl ?_⟩
      refine ⟨_, rfl, rfl, _, rfl, ifF rfl ?_⟩
      refine ⟨_, rfl, rfl, _, rfl, ifF rfl ?_⟩
      refine ⟨_, rfl, rfl, _, rfl, ifF rfl ?_⟩
      refine ⟨_, rfl, rfl, _, rfl, ifF rfl ?_⟩
      refine ⟨_, rfl, rfl, _, rfl, ifT rfl ?_⟩
      exact ⟨_, rfl, _, rfl, a, _, _, _, rfl, rfl, ha, atI_nat (j := 1) rfl, _, rfl, a, _, _, _, rfl, rfl, ha, atI_nat (j := 2) rfl, _, rfl, a, _, _, _, rfl, rfl, ha, atI_nat (j := 3) rfl, p, A, t, g, s, q, rfl, h, k⟩
    | state  =>
      refine ⟨_, rfl, a, _, _, _, rfl, rfl, ha, atI_nat (j := 0) rfl, ?_⟩
      refine ⟨_, rfl, rfl, _, rfl, ifF rfl ?_⟩
      refine ⟨_, rfl, rfl, _, rfl, ifF rfl ?_⟩
      refine ⟨_, rfl, rfl, _, rfl, ifF rfl ?_⟩
      refine ⟨_, rfl, rfl, _, rfl, ifF rfl ?_⟩
      refine ⟨_, rfl, rfl, _, rfl, ifF rfl ?_⟩
      refine ⟨_, rfl, rfl, _, rfl, ifF rfl ?_⟩
      refine ⟨_, rfl, rfl, _, rfl, ifF rfl ?_⟩
      refine ⟨_, rfl, rfl, _, rfl, ifF rfl ?_⟩
      refine ⟨_, rfl, rfl, _, rfl, ifF rfl ?_⟩
      refine ⟨_, rfl, rfl, _, rfl, ifF rfl ?_⟩
      refine ⟨_, rfl, rfl, _, rfl, ifF rfl ?_⟩
      refine ⟨_, rfl, rfl, _, rfl, ifF rfl ?_⟩
      exact ⟨_, rfl, p, A, t, rfl, h, k⟩
end
end TG

set_option Elab.async false
set_option maxRecDepth 100000
set_option maxHeartbeats 2000000
namespace TG
open PySem PySem.Spec PyProof.Rows L2
open Krdf (Table act Abs)
open PyFlat (put1 put)
abbrev sEnd : Stmt := top 48
abbrev nEnd : List Str := ["calls", "start", "end"]
theorem scEnd : FnScope nEnd ["calls", "start"] (defScope sEnd) := ⟨rfl, rfl, rfl, by decide +kernel, rfl, by decide +kernel, by decide +kernel⟩
/-- how many numbers each call has -/
def argsZ : List Int := [1, 4, 1, 2, 1, 1, 0, 0, 0, 2, 2, 1, 3, 0]
theorem form_args {c : List (List Int)} (f : Form c) : ∃ (q : Nat) (m : Nat), num c = (q : Int) ∧ argsZ[q]? = some (m : Int) ∧ (q ≠ 2 → (put1 c).length = 1 + m) ∧ (q = 2 → m = 1 ∧ ∃ g l, c = [[2, g], l]) := by
  cases f with
  | begin_ k => exact ⟨0, 1, rfl, rfl, fun _ => rfl, fun h => by cases h⟩
  | count g s y n => exact ⟨1, 4, rfl, rfl, fun _ => rfl, fun h => by cases h⟩
  | rule g l => exact ⟨2, 1, rfl, rfl, fun h => absurd rfl h, fun _ => ⟨rfl, g, l, rfl⟩⟩
  | rate q g => exact ⟨3, 2, rfl, rfl, fun _ => rfl, fun h => by cases h⟩
  | alike q => exact ⟨4, 1, rfl, rfl, fun _ => rfl, fun h => by cases h⟩
  | gap q => exact ⟨5, 1, rfl, rfl, fun _ => rfl, fun h => by cases h⟩
  | which => exact ⟨6, 0, rfl, rfl, fun _ => rfl, fun h => by cases h⟩
  | best => exact ⟨7, 0, rfl, rfl, fun _ => rfl, fun h => by cases h⟩
  | take => exact ⟨8, 0, rfl, rfl, fun _ => rfl, fun h => by cases h⟩
  | above g s => exact ⟨9, 2, rfl, rfl, fun _ => rfl, fun h => by cases h⟩
  | cell g s => exact ⟨10, 2, rfl, rfl, fun _ => rfl, fun h => by cases h⟩
  | people g => exact ⟨11, 1, rfl, rfl, fun _ => rfl, fun h => by cases h⟩
  | ifpick g s q => exact ⟨12, 3, rfl, rfl, fun _ => rfl, fun h => by cases h⟩
  | state => exact ⟨13, 0, rfl, rfl, fun _ => rfl, fun h => by cases h⟩
theorem drop_at {l a b : List Int} {i j : Nat} {z : Int} (h : l.drop i = a ++ b) (e : a[j]? = some z) : l[i + j]? = some z := by
  have := congrArg (fun x => x[j]?) h
  simp only [List.getElem?_drop] at this
  rw [this]
  obtain ⟨hj, _⟩ := List.getElem?_eq_some_iff.mp e
  rw [List.getElem?_append_left hj]
  exact e
def spEnd (K : PySem.W.Frag) : Sp := fun vs H Q _ => ∃ (a : Addr) (i : Nat) (ns r : List Int) (c : List (List Int)), vs = [.ref a, .int (i : Int)] ∧ SqL K H a (ns.map V.int) ∧ Form c ∧ ns.drop i = put1 c ++ r ∧
  Q (.int ((i + (put1 c).length : Nat) : Int)) H
section
variable {P : Program} {w : World} {K : PySem.W.Frag} {mg : Str → Option Value} {base : Heap} {C CS : Addr}
theorem ok_end {f aT : Addr} {fd : FuncData} (F : Fun K "call_end" "call_end" sEnd f fd) (gR : ∃ t, mg "RULE" = some (.int 2 t)) (gA : mg "ARGUMENTS" = some (.ref aT)) (tA : ∀ H, SqT K H aT (argsZ.map V.int)) : FnOk P w K mg base CX0 1 f fd ["calls", "start"] (spEnd K) := by
  refine F.ok scEnd (fun vs H Q E h => ?_) (fun cdv A outer s H vs Q E hr h => ?_)
  · obtain ⟨a, i, ns, r, c, rfl, _⟩ := h
    rfl
  · obtain ⟨_, gR⟩ := gR
    refine ⟨_, pss_cons (ps_set (i := 2) scEnd.nd rfl (Or.inl rfl) (pe_op op_add (pe_op op_add (pv 1) pe_int) (pe_ix ix_tup (pe_glob (v := V.ref aT) rfl gA rfl) (pe_ix ix_list (pv 0) (pv 1) (fun _ _ => rfl)) (fun _ _ => rfl))))
      (pss_cons (ps_if (pt_cmpR op_eq (pe_ix ix_list (pv 0) (pv 1) (fun _ _ => rfl)) (pe_glob (v := V.int 2) rfl gR ⟨_, rfl⟩) (nomark _))
        (pss_one (ps_set (i := 2) scEnd.nd rfl (Or.inl rfl) (pe_op op_add (pe_op op_add (pv 2) pe_int) (pe_ix ix_list (pv 0) (pv 2) (fun _ _ => rfl))))) pss_nil)
      (pss_one (ps_ret (pv 2)))), ?_⟩
    obtain ⟨a, i, ns, r, c, rfl, ha, fo, hd, k⟩ := h
    obtain ⟨q, m, eq, em, hl, h2⟩ := form_args fo
    have e0 : (ns.map V.int)[i]? = some (.int (num c)) := by
      rw [List.getElem?_map]
      have := drop_at (j := 0) hd (put1_head fo)
      rw [Nat.add_zero] at this
      rw [this]; rfl
    rw [eq] at e0
    have eA : (argsZ.map V.int)[q]? = some (.int (m : Int)) := by rw [List.getElem?_map, em]; rfl
    refine ⟨_, rfl, _, _, rfl, rfl, _, rfl, _, rfl, a, _, _, _, rfl, rfl, ha, atI_nat e0, aT, _, _, _, rfl, rfl, tA H, atI_nat eA, _, _, rfl, rfl, ?_⟩
    refine ⟨_, rfl, _, rfl, a, _, _, _, rfl, rfl, ha, atI_nat e0, rfl, _, rfl, ?_⟩
    by_cases z : q = 2
    · obtain ⟨rfl, g, l, rfl⟩ := h2 z
      subst z
      refine ifT rfl ?_
      have e2 : (ns.map V.int)[i + 2]? = some (.int (l.length : Int)) := by
        rw [List.getElem?_map, drop_at (j := 2) (z := (l.length : Int)) hd rfl]; rfl
      have ei : (i : Int) + 1 + ((1 : Nat) : Int) = ((i + 2 : Nat) : Int) := by omega
      have e3 : atI (ns.map V.int) ((i : Int) + 1 + ((1 : Nat) : Int)) = some (.int (l.length : Int)) := by rw [ei]; exact atI_nat e2
      refine ⟨_, rfl, _, _, rfl, rfl, _, rfl, _, rfl, a, _, ((i : Int) + 1 + ((1 : Nat) : Int)), .int (l.length : Int), rfl, rfl, ha, e3, _, _, rfl, rfl, ?_⟩
      refine ⟨_, rfl, ?_⟩
      have el : (put1 [[2, g], l]).length = 3 + l.length := by simp [put1, PyFlat.putRows, PyFlat.putRow]; omega
      rw [el] at k
      have : ((i : Int) + 1 + ((1 : Nat) : Int) + 1 + (l.length : Int)) = ((i + (3 + l.length) : Nat) : Int) := by omega
      show Q (.int ((i : Int) + 1 + ((1 : Nat) : Int) + 1 + (l.length : Int))) H
      rw [this]
      exact k
    · refine ifF (decide_eq_false (fun h => z (by injection h; omega))) ?_
      refine ⟨_, rfl, ?_⟩
      rw [hl z] at k
      have : ((i : Int) + 1 + (m : Int)) = ((i + (1 + m) : Nat) : Int) := by omega
      show Q (.int ((i : Int) + 1 + (m : Int))) H
      rw [this]
      exact k
end
end TG

set_option Elab.async false
set_option maxRecDepth 100000
set_option maxHeartbeats 2000000
namespace TG
open PySem PySem.Spec PyProof.Rows L2
open Krdf (Table act Abs)
open PyFlat (put1 put)
abbrev sAns : Stmt := top 49
abbrev nAns : List Str := ["calls", "session", "told", "start", "end", "numbers"]
theorem scAns : FnScope nAns ["calls"] (defScope sAns) := ⟨rfl, rfl, rfl, by decide +kernel, rfl, by decide +kernel, by decide +kernel⟩
def spAns (K : PySem.W.Frag) : Sp := fun vs H Q _ => ∃ (a : Addr) (ns : List Int), vs = [.ref a] ∧ SqL K H a (ns.map V.int) ∧ PyKrdf.answers_asked ns = true ∧ (∀ z ∈ ns, 0 ≤ z) ∧
  ∀ (H' : Hp) (p : Addr), H' p = some (.lst ((PyKrdf.answers ns).map V.int)) → Q (.ref p) H'
theorem cut_put {ns a r : List Int} {i : Nat} (h : ns.drop i = a ++ r) (hl : i + a.length ≤ ns.length) : cutV (ns.map V.int) (some (i : Int)) (some ((i + a.length : Nat) : Int)) = a.map V.int := by
  unfold cutV
  rw [HT.sIx_nat, HT.sIx_nat, List.length_map, Nat.min_eq_left hl, Nat.min_eq_left (show i ≤ ns.length by omega), ← List.map_drop, h, ← List.map_take]
  congr 1
  rw [show i + a.length - i = a.length by omega, List.take_left]
theorem SessAt.upd {CS C : Addr} {H : Hp} {x l : Addr} {s : Abs} {F : List Addr} {o : HO} (h : SessAt CS C H x s F) (hx : l ≠ x) (hF : l ∉ F) : SessAt CS C (upd H l o) x s F := by
  cases s with
  | none => obtain ⟨⟨dx, q⟩, f⟩ := h; exact ⟨⟨dx, (upd_ne (Ne.symm hx)).trans q⟩, f⟩
  | some t =>
    obtain ⟨dx, p, A, q, T, f⟩ := h
    subst f
    exact ⟨dx, p, A, (upd_ne (Ne.symm hx)).trans q, ⟨T.wf, T.raw.same fun b o e m => (upd_ne (fun z => hF (by rw [← z]; exact m))).trans e⟩, rfl⟩
section
variable {P : Program} {w : World} {K : PySem.W.Frag} {mg : Str → Option Value} {base : Heap} {C CS : Addr}
theorem ok_ans {f fI fE fA : Addr} {fd fdI fdE fdA : FuncData} {n : Nat} (F : Fun K "answers" "answers" sAns f fd) (S : TxtS K mg CS C) (mL : mg "len" = Option.none) (gS : mg "Session" = some (.ref CS)) (M : Mk K CS fI)
    (FI : FnOk P w K mg base CX0 1 fI fdI ["self"] (spSinit CS C)) (bI : Binds K fdI ["self"] [])
    (FE : FnOk P w K mg base CX0 1 fE fdE ["calls", "start"] (spEnd K)) (bE : Binds K fdE ["calls", "start"] []) (kE : PySem.W.keepIn K (.ref fE) = true) (gE : mg "call_end" = some (.ref fE))
    (FA : FnOk P w K mg base CX0 (n + 3) fA fdA ["self", "call"] (spSans K CS C)) (bA : Binds K fdA ["self", "call"] []) (mA : Meth K CS "answer" fA) :
    FnOk P w K mg base CX0 (n + 4) f fd ["calls"] (spAns K) := by
  refine F.ok scAns (fun vs H Q E h => ?_) (fun cdv A outer s H vs Q E hr h => ?_)
  · obtain ⟨a, ns, rfl, _⟩ := h
    rfl
  · have hr1 : Room 1 _ := hr.mono (by omega)
    have hr2 : Room 2 _ := hr.mono (by omega)
    have nd := scAns.nd
    refine ⟨_, pss_cons (ps_set (i := 1) nd rfl (Or.inl rfl) (pe_make0 M FI hr2 rfl gS bI .nil pass0))
      (pss_cons (ps_set (i := 2) nd rfl (Or.inl rfl) (pe_lst pa_nil))
      (pss_cons (ps_set (i := 3) nd rfl (Or.inl rfl) pe_int)
      (pss_cons (ps_while PassesOwn.never (pt_cmpR op_lt (pv 3) (pe_callB call_len_seq (by rfl) mL PySem.boot_len (pa_cons (pv 0) pa_nil)) (nomark _))
        (pss_cons (ps_set (i := 4) nd rfl (Or.inl rfl) (pe_call FE hr1 rfl gE kE bE .nil pass0 (pa_cons (pv 0) (pa_cons (pv 3) pa_nil))))
        (pss_cons (ps_set (i := 5) nd rfl (Or.inl rfl) (pe_meth (pv 1) S.cl mA FA hr bA .nil pass0 (pa_cons (pe_slice sl_list (pv 0) (po_some (pv 3)) (po_some (pv 4))) pa_nil)))
        (pss_cons (ps_expr (pe_bm PySem.F.plainAttrs_list PySem.F.slot_list_append PySem.F.type_list_append mt_append (pv 2) (pa_cons (pe_callB call_len_seq (by rfl) mL PySem.boot_len (pa_cons (pv 5) pa_nil)) pa_nil)))
        (pss_cons (ps_expr (pe_bm PySem.F.plainAttrs_list PySem.F.slot_list_extend PySem.F.type_list_extend mt_extend (pv 2) (pa_cons (pv 5) pa_nil)))
        (pss_one (ps_set (i := 3) nd rfl (Or.inl rfl) (pv 4))))))))
      (pss_one (ps_ret (pv 2)))))), ?_⟩
    obtain ⟨a, ns, rfl, ha, ask, pos, k⟩ := h
    intro x dx nx ndx ne
    generalize e1 : upd (upd H dx _) x _ = H1
    have hx1 : H1 x = some (.ins CS dx []) := by rw [← e1]; exact upd_same
    have s1 : Same H H1 := fun b o e => by
      rw [← e1, upd_ne (ne_of_none e nx), upd_ne (ne_of_none e ndx)]
      exact e
    refine ⟨x, dx, rfl, hx1, fun H2 S2 b2 => ⟨rfl, ?_⟩⟩
    have s2 : Same H H2 := fun b o e => b2 _ _ (s1 _ _ e) (fun m => ne_of_none e nx (List.mem_singleton.mp m))
    refine ⟨(by show 0 ≤ sizeLine; decide), fun l hl => ?_⟩
    generalize e3 : upd H2 l _ = H3
    have a3 := new_at hl e3
    obtain ⟨cs0, L0⟩ := loop_start ask
    have hlH : H l = Option.none := s2.free hl
    obtain ⟨dx2, v2, hx2⟩ := S2.obj
    have short := asked_short ask
    refine while_by (fun σ H' => ∃ (i : Nat) (s : Abs) (out : List Int) (F : List Addr) (cs : List (List (List Int))) (ve vn : Option V), σ = [some (.ref a), some (.ref x), some (.ref l), some (.int (i : Int)), ve, vn] ∧
        Loop ns i s out cs ∧ SessAt CS C H' x s F ∧ Same H H' ∧ H' l = some (.lst (out.map V.int)) ∧ (∀ b ∈ F, H b = Option.none) ∧ l ∉ F)
      (fun σ _ => match (σ[3]?).getD Option.none with | some (V.int b) => ns.length - b.toNat | _ => 0) ?_ ?_ ?_
    · exact ⟨0, Option.none, [], [], cs0, Option.none, Option.none, rfl, L0, S2.same a3.1, s2.trans a3.1, a3.2, (fun b hb => absurd hb List.not_mem_nil), List.not_mem_nil⟩
    · rintro σ H' ⟨i, s, out, F, cs, ve, vn, rfl, L, SA, sm, hl', fF, lF⟩
      refine ⟨_, rfl, _, rfl, a, _, rfl, .inl (sm.seq ha), _, _, rfl, rfl, _, rfl, ?_⟩
      by_cases c : i < ns.length
      · refine ifT (decide_eq_true (by rw [List.length_map]; omega)) ?_
        obtain ⟨cc, r, rfl, fo, hd, hle, L'⟩ := loop_next L c
        refine ⟨_, rfl, _, rfl, a, i, ns, put r, cc, rfl, sm.seq ha, fo, hd, ?_⟩
        obtain ⟨dx', v', hx'⟩ := SA.obj
        refine ⟨_, rfl, x, _, _, rfl, hx', sf_none _ (by decide +kernel), _, rfl, _, rfl, _, rfl, _, rfl, _, rfl, a, _, rfl, sm.seq ha, fun q hq => ?_⟩
        rw [cut_put hd hle]
        generalize eq : upd H' q _ = H4
        have a4 := new_at hq eq
        have lx : l ≠ x := fun z => by rw [z, hx'] at hl'; cases hl'
        refine ⟨x, q, s, F, cc, rfl, SA.same a4.1, SqL.of a4.2, fo, ?_, fun H5 F5 r5 S5 b5 n5 fr5 nr5 h5 => ?_⟩
        · intro z hz
          refine pos z ?_
          have : z ∈ ns.drop i := by rw [hd]; exact List.mem_append_left _ hz
          exact List.mem_of_mem_drop this
        · generalize hans : (KrdfNeutral.step s cc).2 = ans at *
          have l4 : H4 l = some (.lst (out.map V.int)) := a4.1 _ _ hl'
          have l5 : H5 l = some (.lst (out.map V.int)) := b5 _ _ l4 (by
            intro m
            rcases List.mem_cons.mp m with z | z
            · exact lx z
            · exact lF z)
          have lF5 : l ∉ F5 := fun m => by
            rcases n5 l m with z | z
            · exact lF z
            · rw [l4] at z; cases z
          have rl : r5 ≠ l := fun z => by
            rcases fr5 with m | m
            · exact lF (by rw [← z]; exact m)
            · rw [z, l4] at m; cases m
          have tot : (out ++ [(ans.length : Int)] ++ ans).length ≤ 10000000 := by
            have := L'.due
            rw [this, List.length_append] at short
            omega
          rw [List.length_append, List.length_append] at tot
          have tot2 : out.length + 1 + ans.length ≤ 10000000 := tot
          refine ⟨_, rfl, .inl ⟨rfl, _, SqL.of l5⟩, _, rfl, r5, _, rfl, .inl (SqL.of h5), l, _, _, rfl, rfl, l5, ?_, ?_⟩
          · rw [List.length_map]
            show _ < 2 ^ 24
            omega
          generalize e6 : upd H5 l _ = H6
          have l6 : H6 l = some (.lst (out.map V.int ++ [.int ((ans.map V.int).length : Int)])) := by rw [← e6]; exact upd_same
          have r6 : H6 r5 = some (.lst (ans.map V.int)) := by rw [← e6, upd_ne rl]; exact h5
          refine ⟨_, rfl, .inl ⟨rfl, _, SqL.of l6⟩, _, rfl, l, r5, _, _, rfl, rfl, l6, r6, ?_, ?_⟩
          · simp only [List.length_append, List.length_map, List.length_cons, List.length_nil]
            show _ ≤ 2 ^ 24
            omega
          generalize e7 : upd H6 l _ = H7
          have l7 : H7 l = some (.lst (out.map V.int ++ [.int ((ans.map V.int).length : Int)] ++ ans.map V.int)) := by rw [← e7]; exact upd_same
          have S7 : SessAt CS C H7 x (KrdfNeutral.step s cc).1 F5 := by
            rw [← e7, ← e6]
            exact (S5.upd lx lF5).upd lx lF5
          have fr : ∀ b ∈ F5, H b = Option.none := fun b hb => by
            rcases n5 b hb with z | z
            · exact fF b z
            · exact (sm.trans a4.1).free z
          have s7 : Same H H7 := fun b o e => by
            have bl : b ≠ l := ne_of_none e hlH
            rw [← e7, upd_ne bl, ← e6, upd_ne bl]
            refine b5 _ _ (a4.1 _ _ (sm _ _ e)) ?_
            intro m
            rcases List.mem_cons.mp m with z | z
            · exact ne_of_none e nx z
            · rw [fF b z] at e; cases e
          refine ⟨_, rfl, ?_⟩
          refine ⟨⟨i + (put1 cc).length, _, _, F5, r, _, _, rfl, L', S7, s7, ?_, fr, lF5⟩, ?_⟩
          · rw [l7, List.length_map]
            simp
          · show ns.length - ((i + (put1 cc).length : Nat) : Int).toNat < ns.length - ((i : Nat) : Int).toNat
            have := put1_pos fo
            rw [Int.toNat_natCast, Int.toNat_natCast]
            omega
      · refine ifF (decide_eq_false (by rw [List.length_map]; omega)) ?_
        refine ⟨_, rfl, k H' l ?_⟩
        rw [loop_end L (by omega)]
        exact hl'
    · rintro σ H Q Q' hq ⟨v, e, v2, e2, p, xs, e3, h3, i, j, e4, e5, b, e6, q⟩
      exact ⟨v, e, v2, e2, p, xs, e3, h3, i, j, e4, e5, b, e6, hq _ _ q⟩
end
end TG

set_option Elab.async false
set_option maxRecDepth 100000
set_option maxHeartbeats 4000000
namespace TG
open PySem PySem.Spec PyProof.Rows L2
open Krdf (Table act Abs)
theorem all_mk {P : Program} {w : World} {K : PySem.W.Frag} {h : Heap} {mg : Str → Option Value}
    {fa C CS aT f1 f2 f3 f4 f5 f6 f7 f8 f9 f10 f11 f12 f13 f14 f15 f16 f17 f18 f19 f20 f21 f22 f23 f24 f25 f26 f27 f28 f29 f30 f31 f32 f33 f34 f35 f36 f37 f38 f39 f40 f41 f42 : Addr}
    {od1 an1 od2 an2 od3 an3 od4 an4 od5 an5 od6 an6 od7 an7 od8 an8 od9 an9 od10 an10 od11 an11 od12 an12 od13 an13 od14 an14 od15 an15 od16 an16 od17 an17 od18 an18 od19 an19 od20 an20 od21 an21 od22 an22 od23 an23 od24 an24 od25 an25 od26 an26 od27 an27 od28 an28 od29 an29 od30 an30 od31 an31 od32 an32 od33 an33 od34 an34 od35 an35 od36 an36 od37 an37 od38 an38 od39 an39 od40 an40 od41 an41 od42 an42 : Option Addr}
    {sl1 sl2 sl3 sl4 sl5 sl6 sl7 sl8 sl9 sl10 sl11 sl12 sl13 sl14 sl15 sl16 sl17 sl18 sl19 sl20 sl21 sl22 sl23 sl24 sl25 sl26 sl27 sl28 sl29 sl30 sl31 sl32 sl33 sl34 sl35 sl36 sl37 sl38 sl39 sl40 sl41 sl42 : Array (Option Value)}
    {oc1 kV1 dc1 pm1 cd1 ct1 oc2 kV2 dc2 pm2 cd2 ct2 oc3 kV3 dc3 pm3 cd3 ct3 oc4 kV4 dc4 pm4 cd4 ct4 oc5 kV5 dc5 pm5 cd5 ct5 oc6 kV6 dc6 pm6 cd6 ct6 oc7 kV7 dc7 pm7 cd7 ct7 oc8 kV8 dc8 pm8 cd8 ct8 oc9 kV9 dc9 pm9 cd9 ct9 oc10 kV10 dc10 pm10 cd10 ct10 oc11 kV11 dc11 pm11 cd11 ct11 oc12 kV12 dc12 pm12 cd12 ct12 oc13 kV13 dc13 pm13 cd13 ct13 oc14 kV14 dc14 pm14 cd14 ct14 oc15 kV15 dc15 pm15 cd15 ct15 oc16 kV16 dc16 pm16 cd16 ct16 oc17 kV17 dc17 pm17 cd17 ct17 oc18 kV18 dc18 pm18 cd18 ct18 oc19 kV19 dc19 pm19 cd19 ct19 oc20 kV20 dc20 pm20 cd20 ct20 oc21 kV21 dc21 pm21 cd21 ct21 oc22 kV22 dc22 pm22 cd22 ct22 oc23 kV23 dc23 pm23 cd23 ct23 oc24 kV24 dc24 pm24 cd24 ct24 oc25 kV25 dc25 pm25 cd25 ct25 oc26 kV26 dc26 pm26 cd26 ct26 oc27 kV27 dc27 pm27 cd27 ct27 oc28 kV28 dc28 pm28 cd28 ct28 oc29 kV29 dc29 pm29 cd29 ct29 oc30 kV30 dc30 pm30 cd30 ct30 oc31 kV31 dc31 pm31 cd31 ct31 oc32 kV32 dc32 pm32 cd32 ct32 oc33 kV33 dc33 pm33 cd33 ct33 oc34 kV34 dc34 pm34 cd34 ct34 oc35 kV35 dc35 pm35 cd35 ct35 oc36 kV36 dc36 pm36 cd36 ct36 oc37 kV37 dc37 pm37 cd37 ct37 oc38 kV38 dc38 pm38 cd38 ct38 oc39 kV39 dc39 pm39 cd39 ct39 oc40 kV40 dc40 pm40 cd40 ct40 oc41 kV41 dc41 pm41 cd41 ct41 oc42 kV42 dc42 pm42 cd42 ct42 : Value}
    {tk0 tk1 tk2 tk3 tk4 tk5 tk6 tk7 tk8 tk9 tk10 tk11 tk12 tk13 tk14 tk15 tk16 tk17 tk18 tk19 tk20 : Tok}
    {oA : Obj} {itA : Array Value} {nA : Nat}
    (X : K.In h) (G : h.Ns mainGlobals mg) (hfa : mg "answers" = some (.ref fa))
    (gC : PySem.W.nsIn K mainGlobals "Table" = some (some (.ref C)))
    (gCS : PySem.W.nsIn K mainGlobals "Session" = some (some (.ref CS)))
    (a1 : PySem.W.nsIn K mainGlobals "shortened" = some (some (.ref f1)))
    (l1 : K.lookup f1 = some ⟨oc1, od1, .func (PySem.W.fnOf "shortened" "shortened" (defArgs sShort) (defBody sShort) (defScope sShort) .none kV1 dc1 pm1 an1 cd1 ct1), sl1⟩)
    (c1 : PySem.W.codeIn K cd1 "shortened" = true)
    (k1 : PySem.W.keepIn K (.ref f1) = true)
    (a2 : PySem.W.nsIn K mainGlobals "difference" = some (some (.ref f2)))
    (l2 : K.lookup f2 = some ⟨oc2, od2, .func (PySem.W.fnOf "difference" "difference" (defArgs sDiff) (defBody sDiff) (defScope sDiff) .none kV2 dc2 pm2 an2 cd2 ct2), sl2⟩)
    (c2 : PySem.W.codeIn K cd2 "difference" = true)
    (k2 : PySem.W.keepIn K (.ref f2) = true)
    (a3 : PySem.W.nsIn K mainGlobals "chosen_sum" = some (some (.ref f3)))
    (l3 : K.lookup f3 = some ⟨oc3, od3, .func (PySem.W.fnOf "chosen_sum" "chosen_sum" (defArgs sSum) (defBody sSum) (defScope sSum) .none kV3 dc3 pm3 an3 cd3 ct3), sl3⟩)
    (c3 : PySem.W.codeIn K cd3 "chosen_sum" = true)
    (k3 : PySem.W.keepIn K (.ref f3) = true)
    (a4 : PySem.W.nsIn K mainGlobals "all_rows" = some (some (.ref f4)))
    (l4 : K.lookup f4 = some ⟨oc4, od4, .func (PySem.W.fnOf "all_rows" "all_rows" (defArgs sAllR) (defBody sAllR) (defScope sAllR) .none kV4 dc4 pm4 an4 cd4 ct4), sl4⟩)
    (c4 : PySem.W.codeIn K cd4 "all_rows" = true)
    (k4 : PySem.W.keepIn K (.ref f4) = true)
    (a5 : PySem.W.nsIn K mainGlobals "rate_of" = some (some (.ref f5)))
    (l5 : K.lookup f5 = some ⟨oc5, od5, .func (PySem.W.fnOf "rate_of" "rate_of" (defArgs sRateOf) (defBody sRateOf) (defScope sRateOf) .none kV5 dc5 pm5 an5 cd5 ct5), sl5⟩)
    (c5 : PySem.W.codeIn K cd5 "rate_of" = true)
    (k5 : PySem.W.keepIn K (.ref f5) = true)
    (a6 : PySem.W.nsIn K mainGlobals "is_same" = some (some (.ref f6)))
    (l6 : K.lookup f6 = some ⟨oc6, od6, .func (PySem.W.fnOf "is_same" "is_same" (defArgs sIsSame) (defBody sIsSame) (defScope sIsSame) .none kV6 dc6 pm6 an6 cd6 ct6), sl6⟩)
    (c6 : PySem.W.codeIn K cd6 "is_same" = true)
    (k6 : PySem.W.keepIn K (.ref f6) = true)
    (a7 : PySem.W.nsIn K mainGlobals "same_count" = some (some (.ref f7)))
    (l7 : K.lookup f7 = some ⟨oc7, od7, .func (PySem.W.fnOf "same_count" "same_count" (defArgs sSameC) (defBody sSameC) (defScope sSameC) .none kV7 dc7 pm7 an7 cd7 ct7), sl7⟩)
    (c7 : PySem.W.codeIn K cd7 "same_count" = true)
    (k7 : PySem.W.keepIn K (.ref f7) = true)
    (a8 : PySem.W.nsIn K mainGlobals "told_fraction" = some (some (.ref f8)))
    (l8 : K.lookup f8 = some ⟨oc8, od8, .func (PySem.W.fnOf "told_fraction" "told_fraction" (defArgs sTold) (defBody sTold) (defScope sTold) .none kV8 dc8 pm8 an8 cd8 ct8), sl8⟩)
    (c8 : PySem.W.codeIn K cd8 "told_fraction" = true)
    (k8 : PySem.W.keepIn K (.ref f8) = true)
    (a9 : PySem.W.nsIn K mainGlobals "count" = some (some (.ref f9)))
    (l9 : K.lookup f9 = some ⟨oc9, od9, .func (PySem.W.fnOf "count" "count" (defArgs sCount) (defBody sCount) (defScope sCount) .none kV9 dc9 pm9 an9 cd9 ct9), sl9⟩)
    (c9 : PySem.W.codeIn K cd9 "count" = true)
    (k9 : PySem.W.keepIn K (.ref f9) = true)
    (a10 : PySem.W.nsIn K mainGlobals "rule" = some (some (.ref f10)))
    (l10 : K.lookup f10 = some ⟨oc10, od10, .func (PySem.W.fnOf "rule" "rule" (defArgs sRule) (defBody sRule) (defScope sRule) .none kV10 dc10 pm10 an10 cd10 ct10), sl10⟩)
    (c10 : PySem.W.codeIn K cd10 "rule" = true)
    (k10 : PySem.W.keepIn K (.ref f10) = true)
    (a11 : PySem.W.nsIn K mainGlobals "rate" = some (some (.ref f11)))
    (l11 : K.lookup f11 = some ⟨oc11, od11, .func (PySem.W.fnOf "rate" "rate" (defArgs sCRate) (defBody sCRate) (defScope sCRate) .none kV11 dc11 pm11 an11 cd11 ct11), sl11⟩)
    (c11 : PySem.W.codeIn K cd11 "rate" = true)
    (k11 : PySem.W.keepIn K (.ref f11) = true)
    (a12 : PySem.W.nsIn K mainGlobals "alike" = some (some (.ref f12)))
    (l12 : K.lookup f12 = some ⟨oc12, od12, .func (PySem.W.fnOf "alike" "alike" (defArgs sCAlike) (defBody sCAlike) (defScope sCAlike) .none kV12 dc12 pm12 an12 cd12 ct12), sl12⟩)
    (c12 : PySem.W.codeIn K cd12 "alike" = true)
    (k12 : PySem.W.keepIn K (.ref f12) = true)
    (a13 : PySem.W.nsIn K mainGlobals "gap" = some (some (.ref f13)))
    (l13 : K.lookup f13 = some ⟨oc13, od13, .func (PySem.W.fnOf "gap" "gap" (defArgs sCGap) (defBody sCGap) (defScope sCGap) .none kV13 dc13 pm13 an13 cd13 ct13), sl13⟩)
    (c13 : PySem.W.codeIn K cd13 "gap" = true)
    (k13 : PySem.W.keepIn K (.ref f13) = true)
    (a14 : PySem.W.nsIn K mainGlobals "which" = some (some (.ref f14)))
    (l14 : K.lookup f14 = some ⟨oc14, od14, .func (PySem.W.fnOf "which" "which" (defArgs sCWhich) (defBody sCWhich) (defScope sCWhich) .none kV14 dc14 pm14 an14 cd14 ct14), sl14⟩)
    (c14 : PySem.W.codeIn K cd14 "which" = true)
    (k14 : PySem.W.keepIn K (.ref f14) = true)
    (a15 : PySem.W.nsIn K mainGlobals "best" = some (some (.ref f15)))
    (l15 : K.lookup f15 = some ⟨oc15, od15, .func (PySem.W.fnOf "best" "best" (defArgs sBest) (defBody sBest) (defScope sBest) .none kV15 dc15 pm15 an15 cd15 ct15), sl15⟩)
    (c15 : PySem.W.codeIn K cd15 "best" = true)
    (k15 : PySem.W.keepIn K (.ref f15) = true)
    (a16 : PySem.W.nsIn K mainGlobals "take" = some (some (.ref f16)))
    (l16 : K.lookup f16 = some ⟨oc16, od16, .func (PySem.W.fnOf "take" "take" (defArgs sTake) (defBody sTake) (defScope sTake) .none kV16 dc16 pm16 an16 cd16 ct16), sl16⟩)
    (c16 : PySem.W.codeIn K cd16 "take" = true)
    (k16 : PySem.W.keepIn K (.ref f16) = true)
    (a17 : PySem.W.nsIn K mainGlobals "above" = some (some (.ref f17)))
    (l17 : K.lookup f17 = some ⟨oc17, od17, .func (PySem.W.fnOf "above" "above" (defArgs sAbove) (defBody sAbove) (defScope sAbove) .none kV17 dc17 pm17 an17 cd17 ct17), sl17⟩)
    (c17 : PySem.W.codeIn K cd17 "above" = true)
    (k17 : PySem.W.keepIn K (.ref f17) = true)
    (a18 : PySem.W.nsIn K mainGlobals "cell" = some (some (.ref f18)))
    (l18 : K.lookup f18 = some ⟨oc18, od18, .func (PySem.W.fnOf "cell" "cell" (defArgs sCell) (defBody sCell) (defScope sCell) .none kV18 dc18 pm18 an18 cd18 ct18), sl18⟩)
    (c18 : PySem.W.codeIn K cd18 "cell" = true)
    (k18 : PySem.W.keepIn K (.ref f18) = true)
    (a19 : PySem.W.nsIn K mainGlobals "people" = some (some (.ref f19)))
    (l19 : K.lookup f19 = some ⟨oc19, od19, .func (PySem.W.fnOf "people" "people" (defArgs sPeople) (defBody sPeople) (defScope sPeople) .none kV19 dc19 pm19 an19 cd19 ct19), sl19⟩)
    (c19 : PySem.W.codeIn K cd19 "people" = true)
    (k19 : PySem.W.keepIn K (.ref f19) = true)
    (a20 : PySem.W.nsIn K mainGlobals "ifpick" = some (some (.ref f20)))
    (l20 : K.lookup f20 = some ⟨oc20, od20, .func (PySem.W.fnOf "ifpick" "ifpick" (defArgs sIfpick) (defBody sIfpick) (defScope sIfpick) .none kV20 dc20 pm20 an20 cd20 ct20), sl20⟩)
    (c20 : PySem.W.codeIn K cd20 "ifpick" = true)
    (k20 : PySem.W.keepIn K (.ref f20) = true)
    (a21 : PySem.W.nsIn K mainGlobals "state" = some (some (.ref f21)))
    (l21 : K.lookup f21 = some ⟨oc21, od21, .func (PySem.W.fnOf "state" "state" (defArgs sState) (defBody sState) (defScope sState) .none kV21 dc21 pm21 an21 cd21 ct21), sl21⟩)
    (c21 : PySem.W.codeIn K cd21 "state" = true)
    (k21 : PySem.W.keepIn K (.ref f21) = true)
    (a22 : PySem.W.nsIn K mainGlobals "answer_begun" = some (some (.ref f22)))
    (l22 : K.lookup f22 = some ⟨oc22, od22, .func (PySem.W.fnOf "answer_begun" "answer_begun" (defArgs sBegun) (defBody sBegun) (defScope sBegun) .none kV22 dc22 pm22 an22 cd22 ct22), sl22⟩)
    (c22 : PySem.W.codeIn K cd22 "answer_begun" = true)
    (k22 : PySem.W.keepIn K (.ref f22) = true)
    (a23 : PySem.W.nsIn K mainGlobals "call_end" = some (some (.ref f23)))
    (l23 : K.lookup f23 = some ⟨oc23, od23, .func (PySem.W.fnOf "call_end" "call_end" (defArgs sEnd) (defBody sEnd) (defScope sEnd) .none kV23 dc23 pm23 an23 cd23 ct23), sl23⟩)
    (c23 : PySem.W.codeIn K cd23 "call_end" = true)
    (k23 : PySem.W.keepIn K (.ref f23) = true)
    (a24 : PySem.W.nsIn K mainGlobals "answers" = some (some (.ref f24)))
    (l24 : K.lookup f24 = some ⟨oc24, od24, .func (PySem.W.fnOf "answers" "answers" (defArgs sAns) (defBody sAns) (defScope sAns) .none kV24 dc24 pm24 an24 cd24 ct24), sl24⟩)
    (c24 : PySem.W.codeIn K cd24 "answers" = true)
    (k24 : PySem.W.keepIn K (.ref f24) = true)
    (a25 : PySem.W.findIn K (.ref C) "__init__" = some (some (.ref f25)))
    (i25 : PySem.W.isFn K (.ref f25) = true)
    (l25 : K.lookup f25 = some ⟨oc25, od25, .func (PySem.W.fnOf "__init__" "Table.__init__" (defArgs sTinit) (defBody sTinit) (defScope sTinit) .none kV25 dc25 pm25 an25 cd25 ct25), sl25⟩)
    (c25 : PySem.W.codeIn K cd25 "Table.__init__" = true)
    (k25 : PySem.W.keepIn K (.ref f25) = true)
    (a26 : PySem.W.findIn K (.ref C) "has_group" = some (some (.ref f26)))
    (i26 : PySem.W.isFn K (.ref f26) = true)
    (l26 : K.lookup f26 = some ⟨oc26, od26, .func (PySem.W.fnOf "has_group" "Table.has_group" (defArgs sHasG) (defBody sHasG) (defScope sHasG) .none kV26 dc26 pm26 an26 cd26 ct26), sl26⟩)
    (c26 : PySem.W.codeIn K cd26 "Table.has_group" = true)
    (k26 : PySem.W.keepIn K (.ref f26) = true)
    (a27 : PySem.W.findIn K (.ref C) "has_cell" = some (some (.ref f27)))
    (i27 : PySem.W.isFn K (.ref f27) = true)
    (l27 : K.lookup f27 = some ⟨oc27, od27, .func (PySem.W.fnOf "has_cell" "Table.has_cell" (defArgs sHasC) (defBody sHasC) (defScope sHasC) .none kV27 dc27 pm27 an27 cd27 ct27), sl27⟩)
    (c27 : PySem.W.codeIn K cd27 "Table.has_cell" = true)
    (k27 : PySem.W.keepIn K (.ref f27) = true)
    (a28 : PySem.W.findIn K (.ref C) "fits" = some (some (.ref f28)))
    (i28 : PySem.W.isFn K (.ref f28) = true)
    (l28 : K.lookup f28 = some ⟨oc28, od28, .func (PySem.W.fnOf "fits" "Table.fits" (defArgs sFits) (defBody sFits) (defScope sFits) .none kV28 dc28 pm28 an28 cd28 ct28), sl28⟩)
    (c28 : PySem.W.codeIn K cd28 "Table.fits" = true)
    (k28 : PySem.W.keepIn K (.ref f28) = true)
    (a29 : PySem.W.findIn K (.ref C) "set_cell" = some (some (.ref f29)))
    (i29 : PySem.W.isFn K (.ref f29) = true)
    (l29 : K.lookup f29 = some ⟨oc29, od29, .func (PySem.W.fnOf "set_cell" "Table.set_cell" (defArgs sSetC) (defBody sSetC) (defScope sSetC) .none kV29 dc29 pm29 an29 cd29 ct29), sl29⟩)
    (c29 : PySem.W.codeIn K cd29 "Table.set_cell" = true)
    (k29 : PySem.W.keepIn K (.ref f29) = true)
    (a30 : PySem.W.findIn K (.ref C) "set_row" = some (some (.ref f30)))
    (i30 : PySem.W.isFn K (.ref f30) = true)
    (l30 : K.lookup f30 = some ⟨oc30, od30, .func (PySem.W.fnOf "set_row" "Table.set_row" (defArgs sSetR) (defBody sSetR) (defScope sSetR) .none kV30 dc30 pm30 an30 cd30 ct30), sl30⟩)
    (c30 : PySem.W.codeIn K cd30 "Table.set_row" = true)
    (k30 : PySem.W.keepIn K (.ref f30) = true)
    (a31 : PySem.W.findIn K (.ref C) "chosen_people" = some (some (.ref f31)))
    (i31 : PySem.W.isFn K (.ref f31) = true)
    (l31 : K.lookup f31 = some ⟨oc31, od31, .func (PySem.W.fnOf "chosen_people" "Table.chosen_people" (defArgs sChoP) (defBody sChoP) (defScope sChoP) .none kV31 dc31 pm31 an31 cd31 ct31), sl31⟩)
    (c31 : PySem.W.codeIn K cd31 "Table.chosen_people" = true)
    (k31 : PySem.W.keepIn K (.ref f31) = true)
    (a32 : PySem.W.findIn K (.ref C) "rate" = some (some (.ref f32)))
    (i32 : PySem.W.isFn K (.ref f32) = true)
    (l32 : K.lookup f32 = some ⟨oc32, od32, .func (PySem.W.fnOf "rate" "Table.rate" (defArgs sRate) (defBody sRate) (defScope sRate) .none kV32 dc32 pm32 an32 cd32 ct32), sl32⟩)
    (c32 : PySem.W.codeIn K cd32 "Table.rate" = true)
    (k32 : PySem.W.keepIn K (.ref f32) = true)
    (a33 : PySem.W.findIn K (.ref C) "has_both" = some (some (.ref f33)))
    (i33 : PySem.W.isFn K (.ref f33) = true)
    (l33 : K.lookup f33 = some ⟨oc33, od33, .func (PySem.W.fnOf "has_both" "Table.has_both" (defArgs sBoth) (defBody sBoth) (defScope sBoth) .none kV33 dc33 pm33 an33 cd33 ct33), sl33⟩)
    (c33 : PySem.W.codeIn K cd33 "Table.has_both" = true)
    (k33 : PySem.W.keepIn K (.ref f33) = true)
    (a34 : PySem.W.findIn K (.ref C) "is_alike" = some (some (.ref f34)))
    (i34 : PySem.W.isFn K (.ref f34) = true)
    (l34 : K.lookup f34 = some ⟨oc34, od34, .func (PySem.W.fnOf "is_alike" "Table.is_alike" (defArgs sAlik) (defBody sAlik) (defScope sAlik) .none kV34 dc34 pm34 an34 cd34 ct34), sl34⟩)
    (c34 : PySem.W.codeIn K cd34 "Table.is_alike" = true)
    (k34 : PySem.W.keepIn K (.ref f34) = true)
    (a35 : PySem.W.findIn K (.ref C) "rate_if_flipped" = some (some (.ref f35)))
    (i35 : PySem.W.isFn K (.ref f35) = true)
    (l35 : K.lookup f35 = some ⟨oc35, od35, .func (PySem.W.fnOf "rate_if_flipped" "Table.rate_if_flipped" (defArgs sFlip) (defBody sFlip) (defScope sFlip) .none kV35 dc35 pm35 an35 cd35 ct35), sl35⟩)
    (c35 : PySem.W.codeIn K cd35 "Table.rate_if_flipped" = true)
    (k35 : PySem.W.keepIn K (.ref f35) = true)
    (a36 : PySem.W.findIn K (.ref C) "parts_group" = some (some (.ref f36)))
    (i36 : PySem.W.isFn K (.ref f36) = true)
    (l36 : K.lookup f36 = some ⟨oc36, od36, .func (PySem.W.fnOf "parts_group" "Table.parts_group" (defArgs sParts) (defBody sParts) (defScope sParts) .none kV36 dc36 pm36 an36 cd36 ct36), sl36⟩)
    (c36 : PySem.W.codeIn K cd36 "Table.parts_group" = true)
    (k36 : PySem.W.keepIn K (.ref f36) = true)
    (a37 : PySem.W.findIn K (.ref C) "rule_rates" = some (some (.ref f37)))
    (i37 : PySem.W.isFn K (.ref f37) = true)
    (l37 : K.lookup f37 = some ⟨oc37, od37, .func (PySem.W.fnOf "rule_rates" "Table.rule_rates" (defArgs sRuleR) (defBody sRuleR) (defScope sRuleR) .none kV37 dc37 pm37 an37 cd37 ct37), sl37⟩)
    (c37 : PySem.W.codeIn K cd37 "Table.rule_rates" = true)
    (k37 : PySem.W.keepIn K (.ref f37) = true)
    (a38 : PySem.W.findIn K (.ref C) "parting_rows" = some (some (.ref f38)))
    (i38 : PySem.W.isFn K (.ref f38) = true)
    (l38 : K.lookup f38 = some ⟨oc38, od38, .func (PySem.W.fnOf "parting_rows" "Table.parting_rows" (defArgs sPartR) (defBody sPartR) (defScope sPartR) .none kV38 dc38 pm38 an38 cd38 ct38), sl38⟩)
    (c38 : PySem.W.codeIn K cd38 "Table.parting_rows" = true)
    (k38 : PySem.W.keepIn K (.ref f38) = true)
    (a39 : PySem.W.findIn K (.ref C) "best_rule" = some (some (.ref f39)))
    (i39 : PySem.W.isFn K (.ref f39) = true)
    (l39 : K.lookup f39 = some ⟨oc39, od39, .func (PySem.W.fnOf "best_rule" "Table.best_rule" (defArgs sBestR) (defBody sBestR) (defScope sBestR) .none kV39 dc39 pm39 an39 cd39 ct39), sl39⟩)
    (c39 : PySem.W.codeIn K cd39 "Table.best_rule" = true)
    (k39 : PySem.W.keepIn K (.ref f39) = true)
    (a40 : PySem.W.findIn K (.ref CS) "__init__" = some (some (.ref f40)))
    (i40 : PySem.W.isFn K (.ref f40) = true)
    (l40 : K.lookup f40 = some ⟨oc40, od40, .func (PySem.W.fnOf "__init__" "Session.__init__" (defArgs sSinit) (defBody sSinit) (defScope sSinit) .none kV40 dc40 pm40 an40 cd40 ct40), sl40⟩)
    (c40 : PySem.W.codeIn K cd40 "Session.__init__" = true)
    (k40 : PySem.W.keepIn K (.ref f40) = true)
    (a41 : PySem.W.findIn K (.ref CS) "begin" = some (some (.ref f41)))
    (i41 : PySem.W.isFn K (.ref f41) = true)
    (l41 : K.lookup f41 = some ⟨oc41, od41, .func (PySem.W.fnOf "begin" "Session.begin" (defArgs sSbeg) (defBody sSbeg) (defScope sSbeg) .none kV41 dc41 pm41 an41 cd41 ct41), sl41⟩)
    (c41 : PySem.W.codeIn K cd41 "Session.begin" = true)
    (k41 : PySem.W.keepIn K (.ref f41) = true)
    (a42 : PySem.W.findIn K (.ref CS) "answer" = some (some (.ref f42)))
    (i42 : PySem.W.isFn K (.ref f42) = true)
    (l42 : K.lookup f42 = some ⟨oc42, od42, .func (PySem.W.fnOf "answer" "Session.answer" (defArgs sSans) (defBody sSans) (defScope sSans) .none kV42 dc42 pm42 an42 cd42 ct42), sl42⟩)
    (c42 : PySem.W.codeIn K cd42 "Session.answer" = true)
    (k42 : PySem.W.keepIn K (.ref f42) = true)
    (pgC : PySem.W.plainGet K C Str.empty = true)
    (hdC : PySem.W.hasDictIn K C = true)
    (poC : PySem.W.plainOver K C = true)
    (saC : PySem.W.findIn K (.ref C) "__setattr__" = some (some (.builtin "object.__setattr__")))
    (mkC : PySem.W.makesIn K C = true)
    (kcC : PySem.W.keepIn K (.ref C) = true)
    (nC0 : PySem.W.findIn K (.ref C) "scores" = some none)
    (nC1 : PySem.W.findIn K (.ref C) "so" = some none)
    (nC2 : PySem.W.findIn K (.ref C) "not_so" = some none)
    (nC3 : PySem.W.findIn K (.ref C) "rows" = some none)
    (pgCS : PySem.W.plainGet K CS Str.empty = true)
    (hdCS : PySem.W.hasDictIn K CS = true)
    (poCS : PySem.W.plainOver K CS = true)
    (saCS : PySem.W.findIn K (.ref CS) "__setattr__" = some (some (.builtin "object.__setattr__")))
    (mkCS : PySem.W.makesIn K CS = true)
    (kcCS : PySem.W.keepIn K (.ref CS) = true)
    (nCS0 : PySem.W.findIn K (.ref CS) "table" = some none)
    (v0 : PySem.W.nsIn K mainGlobals "GROUPS" = some (some (.int (2) tk0)))
    (v1 : PySem.W.nsIn K mainGlobals "KINDS" = some (some (.int (7) tk1)))
    (v2 : PySem.W.nsIn K mainGlobals "NO_SUCH" = some (some (.int (-2) tk2)))
    (v3 : PySem.W.nsIn K mainGlobals "NOT_BEGUN" = some (some (.int (-11) tk3)))
    (v4 : PySem.W.nsIn K mainGlobals "NOT_RIGHT" = some (some (.int (-22) tk4)))
    (v5 : PySem.W.nsIn K mainGlobals "NOT_THERE" = some (some (.int (-33) tk5)))
    (v6 : PySem.W.nsIn K mainGlobals "MOST_SCORES" = some (some (.int (4) tk6)))
    (v7 : PySem.W.nsIn K mainGlobals "MOST_PEOPLE" = some (some (.int (99) tk7)))
    (v8 : PySem.W.nsIn K mainGlobals "BEGIN" = some (some (.int (0) tk8)))
    (v9 : PySem.W.nsIn K mainGlobals "COUNT" = some (some (.int (1) tk9)))
    (v10 : PySem.W.nsIn K mainGlobals "RULE" = some (some (.int (2) tk10)))
    (v11 : PySem.W.nsIn K mainGlobals "RATE" = some (some (.int (3) tk11)))
    (v12 : PySem.W.nsIn K mainGlobals "ALIKE" = some (some (.int (4) tk12)))
    (v13 : PySem.W.nsIn K mainGlobals "GAP" = some (some (.int (5) tk13)))
    (v14 : PySem.W.nsIn K mainGlobals "WHICH" = some (some (.int (6) tk14)))
    (v15 : PySem.W.nsIn K mainGlobals "BEST" = some (some (.int (7) tk15)))
    (v16 : PySem.W.nsIn K mainGlobals "TAKE" = some (some (.int (8) tk16)))
    (v17 : PySem.W.nsIn K mainGlobals "ABOVE" = some (some (.int (9) tk17)))
    (v18 : PySem.W.nsIn K mainGlobals "CELL" = some (some (.int (10) tk18)))
    (v19 : PySem.W.nsIn K mainGlobals "PEOPLE" = some (some (.int (11) tk19)))
    (v20 : PySem.W.nsIn K mainGlobals "IFPICK" = some (some (.int (12) tk20)))
    (b_abs : PySem.W.nsIn K mainGlobals "abs" = some none)
    (b_sum : PySem.W.nsIn K mainGlobals "sum" = some none)
    (b_range : PySem.W.nsIn K mainGlobals "range" = some none)
    (b_len : PySem.W.nsIn K mainGlobals "len" = some none)
    (b_all : PySem.W.nsIn K mainGlobals "all" = some none)
    (b_list : PySem.W.nsIn K mainGlobals "list" = some none)
    (aA : PySem.W.nsIn K mainGlobals "ARGUMENTS" = some (some (.ref aT)))
    (lA : K.lookup aT = some oA)
    (cA : oA.cls = .type "tuple")
    (dA : oA.data = .seq itA nA)
    (zA : itA.size ≤ sizeLine)
    (vA : Vals (argsZ.map V.int) itA.toList) :
    ∃ fd : FuncData, (∀ (s : Shared) (us : List Value), us.length = (["calls"] : List Str).length → BindsTo s fd ⟨us, []⟩ ((["calls"] : List Str).zip us)) ∧ ∀ base : Heap, K.In base → base.Ns mainGlobals mg → FnOk P w K mg base CX0 10 fa fd ["calls"] (spAns K) := by
  have e := hfa.symm.trans (PySem.W.mg_of X G a24)
  cases e
  have F1 := fun_mk (st := sShort) l1 c1 k1
  have b1 := F1.binds (ps := ["upper", "lower"]) fun _ _ _ _ _ _ us hl => match us, hl with | [_, _], _ => rfl
  have F2 := fun_mk (st := sDiff) l2 c2 k2
  have b2 := F2.binds (ps := ["first", "second"]) fun _ _ _ _ _ _ us hl => match us, hl with | [_, _], _ => rfl
  have F3 := fun_mk (st := sSum) l3 c3 k3
  have b3 := F3.binds (ps := ["numbers", "row"]) fun _ _ _ _ _ _ us hl => match us, hl with | [_, _], _ => rfl
  have F4 := fun_mk (st := sAllR) l4 c4 k4
  have b4 := F4.binds (ps := ["scores"]) fun _ _ _ _ _ _ us hl => match us, hl with | [_], _ => rfl
  have F5 := fun_mk (st := sRateOf) l5 c5 k5
  have b5 := F5.binds (ps := ["so", "not_so", "row", "kind"]) fun _ _ _ _ _ _ us hl => match us, hl with | [_, _, _, _], _ => rfl
  have F6 := fun_mk (st := sIsSame) l6 c6 k6
  have b6 := F6.binds (ps := ["first", "second"]) fun _ _ _ _ _ _ us hl => match us, hl with | [_, _], _ => rfl
  have F7 := fun_mk (st := sSameC) l7 c7 k7
  have b7 := F7.binds (ps := ["first", "second"]) fun _ _ _ _ _ _ us hl => match us, hl with | [_, _], _ => rfl
  have F8 := fun_mk (st := sTold) l8 c8 k8
  have b8 := F8.binds (ps := ["fraction"]) fun _ _ _ _ _ _ us hl => match us, hl with | [_], _ => rfl
  have F9 := fun_mk (st := sCount) l9 c9 k9
  have b9 := F9.binds (ps := ["table", "group", "score", "so", "not_so"]) fun _ _ _ _ _ _ us hl => match us, hl with | [_, _, _, _, _], _ => rfl
  have F10 := fun_mk (st := sRule) l10 c10 k10
  have b10 := F10.binds (ps := ["table", "group", "row"]) fun _ _ _ _ _ _ us hl => match us, hl with | [_, _, _], _ => rfl
  have F11 := fun_mk (st := sCRate) l11 c11 k11
  have b11 := F11.binds (ps := ["table", "kind", "group"]) fun _ _ _ _ _ _ us hl => match us, hl with | [_, _, _], _ => rfl
  have F12 := fun_mk (st := sCAlike) l12 c12 k12
  have b12 := F12.binds (ps := ["table", "kind"]) fun _ _ _ _ _ _ us hl => match us, hl with | [_, _], _ => rfl
  have F13 := fun_mk (st := sCGap) l13 c13 k13
  have b13 := F13.binds (ps := ["table", "kind"]) fun _ _ _ _ _ _ us hl => match us, hl with | [_, _], _ => rfl
  have F14 := fun_mk (st := sCWhich) l14 c14 k14
  have b14 := F14.binds (ps := ["table"]) fun _ _ _ _ _ _ us hl => match us, hl with | [_], _ => rfl
  have F15 := fun_mk (st := sBest) l15 c15 k15
  have b15 := F15.binds (ps := ["table"]) fun _ _ _ _ _ _ us hl => match us, hl with | [_], _ => rfl
  have F16 := fun_mk (st := sTake) l16 c16 k16
  have b16 := F16.binds (ps := ["table"]) fun _ _ _ _ _ _ us hl => match us, hl with | [_], _ => rfl
  have F17 := fun_mk (st := sAbove) l17 c17 k17
  have b17 := F17.binds (ps := ["table", "group", "score"]) fun _ _ _ _ _ _ us hl => match us, hl with | [_, _, _], _ => rfl
  have F18 := fun_mk (st := sCell) l18 c18 k18
  have b18 := F18.binds (ps := ["table", "group", "score"]) fun _ _ _ _ _ _ us hl => match us, hl with | [_, _, _], _ => rfl
  have F19 := fun_mk (st := sPeople) l19 c19 k19
  have b19 := F19.binds (ps := ["table", "group"]) fun _ _ _ _ _ _ us hl => match us, hl with | [_, _], _ => rfl
  have F20 := fun_mk (st := sIfpick) l20 c20 k20
  have b20 := F20.binds (ps := ["table", "group", "score", "kind"]) fun _ _ _ _ _ _ us hl => match us, hl with | [_, _, _, _], _ => rfl
  have F21 := fun_mk (st := sState) l21 c21 k21
  have b21 := F21.binds (ps := ["table"]) fun _ _ _ _ _ _ us hl => match us, hl with | [_], _ => rfl
  have F22 := fun_mk (st := sBegun) l22 c22 k22
  have b22 := F22.binds (ps := ["table", "call"]) fun _ _ _ _ _ _ us hl => match us, hl with | [_, _], _ => rfl
  have F23 := fun_mk (st := sEnd) l23 c23 k23
  have b23 := F23.binds (ps := ["calls", "start"]) fun _ _ _ _ _ _ us hl => match us, hl with | [_, _], _ => rfl
  have F24 := fun_mk (st := sAns) l24 c24 k24
  have b24 := F24.binds (ps := ["calls"]) fun _ _ _ _ _ _ us hl => match us, hl with | [_], _ => rfl
  have F25 := fun_mk (st := sTinit) l25 c25 k25
  have b25 := F25.binds (ps := ["self", "scores"]) fun _ _ _ _ _ _ us hl => match us, hl with | [_, _], _ => rfl
  have F26 := fun_mk (st := sHasG) l26 c26 k26
  have b26 := F26.binds (ps := ["self", "group"]) fun _ _ _ _ _ _ us hl => match us, hl with | [_, _], _ => rfl
  have F27 := fun_mk (st := sHasC) l27 c27 k27
  have b27 := F27.binds (ps := ["self", "group", "score"]) fun _ _ _ _ _ _ us hl => match us, hl with | [_, _, _], _ => rfl
  have F28 := fun_mk (st := sFits) l28 c28 k28
  have b28 := F28.binds (ps := ["self", "row"]) fun _ _ _ _ _ _ us hl => match us, hl with | [_, _], _ => rfl
  have F29 := fun_mk (st := sSetC) l29 c29 k29
  have b29 := F29.binds (ps := ["self", "group", "score", "so", "not_so"]) fun _ _ _ _ _ _ us hl => match us, hl with | [_, _, _, _, _], _ => rfl
  have F30 := fun_mk (st := sSetR) l30 c30 k30
  have b30 := F30.binds (ps := ["self", "group", "row"]) fun _ _ _ _ _ _ us hl => match us, hl with | [_, _, _], _ => rfl
  have F31 := fun_mk (st := sChoP) l31 c31 k31
  have b31 := F31.binds (ps := ["self", "group"]) fun _ _ _ _ _ _ us hl => match us, hl with | [_, _], _ => rfl
  have F32 := fun_mk (st := sRate) l32 c32 k32
  have b32 := F32.binds (ps := ["self", "kind", "group"]) fun _ _ _ _ _ _ us hl => match us, hl with | [_, _, _], _ => rfl
  have F33 := fun_mk (st := sBoth) l33 c33 k33
  have b33 := F33.binds (ps := ["self", "kind"]) fun _ _ _ _ _ _ us hl => match us, hl with | [_, _], _ => rfl
  have F34 := fun_mk (st := sAlik) l34 c34 k34
  have b34 := F34.binds (ps := ["self", "kind"]) fun _ _ _ _ _ _ us hl => match us, hl with | [_, _], _ => rfl
  have F35 := fun_mk (st := sFlip) l35 c35 k35
  have b35 := F35.binds (ps := ["self", "kind", "group", "score"]) fun _ _ _ _ _ _ us hl => match us, hl with | [_, _, _, _], _ => rfl
  have F36 := fun_mk (st := sParts) l36 c36 k36
  have b36 := F36.binds (ps := ["self", "group", "row"]) fun _ _ _ _ _ _ us hl => match us, hl with | [_, _, _], _ => rfl
  have F37 := fun_mk (st := sRuleR) l37 c37 k37
  have b37 := F37.binds (ps := ["self", "group", "row"]) fun _ _ _ _ _ _ us hl => match us, hl with | [_, _, _], _ => rfl
  have F38 := fun_mk (st := sPartR) l38 c38 k38
  have b38 := F38.binds (ps := ["self", "group"]) fun _ _ _ _ _ _ us hl => match us, hl with | [_, _], _ => rfl
  have F39 := fun_mk (st := sBestR) l39 c39 k39
  have b39 := F39.binds (ps := ["self"]) fun _ _ _ _ _ _ us hl => match us, hl with | [_], _ => rfl
  have F40 := fun_mk (st := sSinit) l40 c40 k40
  have b40 := F40.binds (ps := ["self"]) fun _ _ _ _ _ _ us hl => match us, hl with | [_], _ => rfl
  have F41 := fun_mk (st := sSbeg) l41 c41 k41
  have b41 := F41.binds (ps := ["self", "scores"]) fun _ _ _ _ _ _ us hl => match us, hl with | [_, _], _ => rfl
  have F42 := fun_mk (st := sSans) l42 c42 k42
  have b42 := F42.binds (ps := ["self", "call"]) fun _ _ _ _ _ _ us hl => match us, hl with | [_, _], _ => rfl
  have T : TxtT K mg C := ⟨⟨pgC, hdC, poC, saC⟩, nC0, nC1, nC2, nC3, ⟨_, PySem.W.mg_of X G v0⟩, ⟨_, PySem.W.mg_of X G v1⟩⟩
  have Xc : TxtC mg := ⟨⟨_, PySem.W.mg_of X G v2⟩, ⟨_, PySem.W.mg_of X G v3⟩, ⟨_, PySem.W.mg_of X G v4⟩, ⟨_, PySem.W.mg_of X G v5⟩, ⟨_, PySem.W.mg_of X G v6⟩, ⟨_, PySem.W.mg_of X G v7⟩⟩
  have S : TxtS K mg CS C := ⟨⟨pgCS, hdCS, poCS, saCS⟩, nCS0, PySem.W.mg_of X G gC, ⟨_, PySem.W.mg_of X G v8⟩⟩
  have Nn : TxtN mg := ⟨⟨_, PySem.W.mg_of X G v9⟩, ⟨_, PySem.W.mg_of X G v10⟩, ⟨_, PySem.W.mg_of X G v11⟩, ⟨_, PySem.W.mg_of X G v12⟩, ⟨_, PySem.W.mg_of X G v13⟩, ⟨_, PySem.W.mg_of X G v14⟩, ⟨_, PySem.W.mg_of X G v15⟩, ⟨_, PySem.W.mg_of X G v16⟩, ⟨_, PySem.W.mg_of X G v17⟩, ⟨_, PySem.W.mg_of X G v18⟩, ⟨_, PySem.W.mg_of X G v19⟩, ⟨_, PySem.W.mg_of X G v20⟩⟩
  have tA : ∀ H, SqT K H aT (argsZ.map V.int) := fun H => .inr ⟨oA, itA, nA, lA, cA, dA, zA, vA⟩
  refine ⟨PySem.W.fnOf "answers" "answers" (defArgs sAns) (defBody sAns) (defScope sAns) .none kV24 dc24 pm24 an24 cd24 ct24, fun s us hu => match us, hu with | [_], _ => .of_eq rfl, fun base _ _ => ?_⟩
  have o1 := ok_short (P := P) (w := w) (base := base) F1 (PySem.W.mg_none_of X G b_abs)
  have o2 := ok_diff F2 o1 b1 k1 (PySem.W.mg_of X G a1)
  have o3 := ok_sum (P := P) (w := w) (base := base) F3 (PySem.W.mg_none_of X G b_sum) (PySem.W.mg_none_of X G b_range) (PySem.W.mg_none_of X G b_len)
  have o5 := ok_rateOf F5 (PySem.W.mg_none_of X G b_sum) o1 b1 k1 (PySem.W.mg_of X G a1) o3 b3 k3 (PySem.W.mg_of X G a3)
  have o25 := ok_tinit (P := P) (w := w) (base := base) F25 T
  have o26 := ok_hasG (P := P) (w := w) (base := base) F26 T
  have o27 := ok_hasC F27 T o26 b26 ⟨a26, i26, k26⟩
  have o28 := ok_fits (P := P) (w := w) (base := base) F28 T (PySem.W.mg_none_of X G b_len) (PySem.W.mg_none_of X G b_all)
  have o29 := ok_setC (P := P) (w := w) (base := base) F29 T
  have o30 := ok_setR (P := P) (w := w) (base := base) F30 T (PySem.W.mg_none_of X G b_list)
  have o31 := ok_choP F31 T o3 b3 k3 (PySem.W.mg_of X G a3)
  have o32 := ok_rate F32 T o5 b5 k5 (PySem.W.mg_of X G a5)
  have o33 := ok_both F33 T o32 b32 ⟨a32, i32, k32⟩
  have o6 := ok_same (P := P) (w := w) (base := base) (mg := mg) F6
  have o34 := ok_alik F34 T o32 b32 ⟨a32, i32, k32⟩ o6 b6 k6 (PySem.W.mg_of X G a6)
  have o8 := ok_told (P := P) (w := w) (base := base) F8 Xc
  have o9 := ok_count F9 T Xc o27 b27 ⟨a27, i27, k27⟩ o29 b29 ⟨a29, i29, k29⟩
  have o10 := ok_rule F10 T Xc o26 b26 ⟨a26, i26, k26⟩ o28 b28 ⟨a28, i28, k28⟩ o30 b30 ⟨a30, i30, k30⟩ o31 b31 ⟨a31, i31, k31⟩
  have o11 := ok_crate F11 T Xc o26 b26 ⟨a26, i26, k26⟩ o32 b32 ⟨a32, i32, k32⟩ o8 b8 k8 (PySem.W.mg_of X G a8)
  have o12 := ok_calike F12 T Xc o33 b33 ⟨a33, i33, k33⟩ o34 b34 ⟨a34, i34, k34⟩
  have o13 := ok_cgap F13 T Xc o33 b33 ⟨a33, i33, k33⟩ o32 b32 ⟨a32, i32, k32⟩ o2 b2 k2 (PySem.W.mg_of X G a2) o8 b8 k8 (PySem.W.mg_of X G a8)
  have o14 := ok_cwhich F14 T o34 b34 ⟨a34, i34, k34⟩ (PySem.W.mg_none_of X G b_range) (PySem.W.mg_none_of X G b_len)
  have o18 := ok_cell F18 T Xc o27 b27 ⟨a27, i27, k27⟩
  have o19 := ok_people F19 T Xc (PySem.W.mg_none_of X G b_sum) o26 b26 ⟨a26, i26, k26⟩
  have o21 := ok_state (P := P) (w := w) (base := base) F21 T
  have o35 := ok_flip F35 T (PySem.W.mg_none_of X G b_list) o5 b5 k5 (PySem.W.mg_of X G a5)
  have o20 := ok_ifpick F20 T Xc o27 b27 ⟨a27, i27, k27⟩ o35 b35 ⟨a35, i35, k35⟩ o8 b8 k8 (PySem.W.mg_of X G a8)
  have o17 := ok_above F17 T Xc (PySem.W.mg_none_of X G b_range) o27 b27 ⟨a27, i27, k27⟩ o30 b30 ⟨a30, i30, k30⟩ o31 b31 ⟨a31, i31, k31⟩
  have o4 := ok_allR (P := P) (w := w) (base := base) F4 (PySem.W.mg_none_of X G b_len)
  have o36 := ok_parts F36 T (PySem.W.mg_none_of X G b_sum) o3 b3 k3 (PySem.W.mg_of X G a3)
  have o37 := ok_ruleR F37 T (PySem.W.mg_none_of X G b_range) o5 b5 k5 (PySem.W.mg_of X G a5)
  have o7 := ok_sameC F7 (PySem.W.mg_none_of X G b_range) (PySem.W.mg_none_of X G b_len) o6 b6 k6 (PySem.W.mg_of X G a6)
  have o38 := ok_partR F38 T o4 b4 k4 (PySem.W.mg_of X G a4) o36 b36 ⟨a36, i36, k36⟩ o37 b37 ⟨a37, i37, k37⟩
  have o39 := ok_bestR F39 T o38 b38 ⟨a38, i38, k38⟩ o7 b7 k7 (PySem.W.mg_of X G a7)
  have o15 := ok_best F15 T Xc o39 b39 ⟨a39, i39, k39⟩
  have o16 := ok_take F16 T Xc o39 b39 ⟨a39, i39, k39⟩ o30 b30 ⟨a30, i30, k30⟩
  have o22 := ok_begun (C := C) F22 Nn ⟨_, _, o9, b9, k9, (PySem.W.mg_of X G a9)⟩ ⟨_, _, o10, b10, k10, (PySem.W.mg_of X G a10)⟩ ⟨_, _, o11, b11, k11, (PySem.W.mg_of X G a11)⟩ ⟨_, _, o12, b12, k12, (PySem.W.mg_of X G a12)⟩ ⟨_, _, o13, b13, k13, (PySem.W.mg_of X G a13)⟩ ⟨_, _, o14, b14, k14, (PySem.W.mg_of X G a14)⟩ ⟨_, _, o15, b15, k15, (PySem.W.mg_of X G a15)⟩ ⟨_, _, o16, b16, k16, (PySem.W.mg_of X G a16)⟩ ⟨_, _, o17, b17, k17, (PySem.W.mg_of X G a17)⟩ ⟨_, _, o18, b18, k18, (PySem.W.mg_of X G a18)⟩ ⟨_, _, o19, b19, k19, (PySem.W.mg_of X G a19)⟩ ⟨_, _, o20, b20, k20, (PySem.W.mg_of X G a20)⟩ ⟨_, _, o21, b21, k21, (PySem.W.mg_of X G a21)⟩
  have o40 := ok_sinit (P := P) (w := w) (base := base) F40 S
  have o41 := ok_sbeg F41 S Xc ⟨mkC, a25, i25, kcC⟩ o25 b25
  have o42 := ok_sans (n := 5) F42 S Xc o41 b41 ⟨a41, i41, k41⟩ o22 b22 k22 (PySem.W.mg_of X G a22)
  have o23 := ok_end (P := P) (w := w) (base := base) F23 ⟨_, PySem.W.mg_of X G v10⟩ (PySem.W.mg_of X G aA) tA
  exact ok_ans (n := 6) F24 S (PySem.W.mg_none_of X G b_len) (PySem.W.mg_of X G gCS) ⟨mkCS, a40, i40, kcCS⟩ o40 b40 o23 b23 k23 (PySem.W.mg_of X G a23) o42 b42 ⟨a42, i42, k42⟩
end TG

set_option Elab.async false
open PySem PySem.W PyProof.Rows
set_option maxRecDepth 100000 in
set_option maxHeartbeats 8000000 in
theorem PySem.Challenge.cw_twogroups_s01_answers_holds : PySem.Challenge.rw_twogroups_s01_answers.Holds := by
  w_on; k_headS; (case hw => exact ⟨[.list []], by decide +kernel, by decide +kernel⟩)
  k_fillS
  refine L2.walk_specK (r := PySem.Challenge.rw_twogroups_s01_answers) (k := 10) (CX := L2.CX0) (ps := ["calls"]) (sp := TG.spAns) (by decide +kernel) rfl rfl ⟨rfl, by decide, by decide⟩ (fun w h Y => PySem.W.kIn_of Y) ?F ?S (fun _ _ _ _ z => z)
  case F =>
    intro w mg fa h Y KX G hmg
    refine' TG.all_mk KX G hmg ?gC ?gCS ?a1 ?l1 ?c1 ?k1 ?a2 ?l2 ?c2 ?k2 ?a3 ?l3 ?c3 ?k3 ?a4 ?l4 ?c4 ?k4 ?a5 ?l5 ?c5 ?k5 ?a6 ?l6 ?c6 ?k6 ?a7 ?l7 ?c7 ?k7 ?a8 ?l8 ?c8 ?k8 ?a9 ?l9 ?c9 ?k9 ?a10 ?l10 ?c10 ?k10 ?a11 ?l11 ?c11 ?k11 ?a12 ?l12 ?c12 ?k12 ?a13 ?l13 ?c13 ?k13 ?a14 ?l14 ?c14 ?k14 ?a15 ?l15 ?c15 ?k15 ?a16 ?l16 ?c16 ?k16 ?a17 ?l17 ?c17 ?k17 ?a18 ?l18 ?c18 ?k18 ?a19 ?l19 ?c19 ?k19 ?a20 ?l20 ?c20 ?k20 ?a21 ?l21 ?c21 ?k21 ?a22 ?l22 ?c22 ?k22 ?a23 ?l23 ?c23 ?k23 ?a24 ?l24 ?c24 ?k24 ?a25 ?i25 ?l25 ?c25 ?k25 ?a26 ?i26 ?l26 ?c26 ?k26 ?a27 ?i27 ?l27 ?c27 ?k27 ?a28 ?i28 ?l28 ?c28 ?k28 ?a29 ?i29 ?l29 ?c29 ?k29 ?a30 ?i30 ?l30 ?c30 ?k30 ?a31 ?i31 ?l31 ?c31 ?k31 ?a32 ?i32 ?l32 ?c32 ?k32 ?a33 ?i33 ?l33 ?c33 ?k33 ?a34 ?i34 ?l34 ?c34 ?k34 ?a35 ?i35 ?l35 ?c35 ?k35 ?a36 ?i36 ?l36 ?c36 ?k36 ?a37 ?i37 ?l37 ?c37 ?k37 ?a38 ?i38 ?l38 ?c38 ?k38 ?a39 ?i39 ?l39 ?c39 ?k39 ?a40 ?i40 ?l40 ?c40 ?k40 ?a41 ?i41 ?l41 ?c41 ?k41 ?a42 ?i42 ?l42 ?c42 ?k42 ?pgC ?hdC ?poC ?saC ?mkC ?kcC ?nC0 ?nC1 ?nC2 ?nC3 ?pgCS ?hdCS ?poCS ?saCS ?mkCS ?kcCS ?nCS0 ?v0 ?v1 ?v2 ?v3 ?v4 ?v5 ?v6 ?v7 ?v8 ?v9 ?v10 ?v11 ?v12 ?v13 ?v14 ?v15 ?v16 ?v17 ?v18 ?v19 ?v20 ?b_abs ?b_sum ?b_range ?b_len ?b_all ?b_list ?aA ?lA ?cA ?dA ?zA ?vA
    (case gC => k_is)
    (case gCS => k_is)
    (case a1 => k_is)
    (case l1 => k_is)
    (case c1 => k_is)
    (case k1 => k_is)
    (case a2 => k_is)
    (case l2 => k_is)
    (case c2 => k_is)
    (case k2 => k_is)
    (case a3 => k_is)
    (case l3 => k_is)
    (case c3 => k_is)
    (case k3 => k_is)
    (case a4 => k_is)
    (case l4 => k_is)
    (case c4 => k_is)
    (case k4 => k_is)
    (case a5 => k_is)
    (case l5 => k_is)
    (case c5 => k_is)
    (case k5 => k_is)
    (case a6 => k_is)
    (case l6 => k_is)
    (case c6 => k_is)
    (case k6 => k_is)
    (case a7 => k_is)
    (case l7 => k_is)
    (case c7 => k_is)
    (case k7 => k_is)
    (case a8 => k_is)
    (case l8 => k_is)
    (case c8 => k_is)
    (case k8 => k_is)
    (case a9 => k_is)
    (case l9 => k_is)
    (case c9 => k_is)
    (case k9 => k_is)
    (case a10 => k_is)
    (case l10 => k_is)
    (case c10 => k_is)
    (case k10 => k_is)
    (case a11 => k_is)
    (case l11 => k_is)
    (case c11 => k_is)
    (case k11 => k_is)
    (case a12 => k_is)
    (case l12 => k_is)
    (case c12 => k_is)
    (case k12 => k_is)
    (case a13 => k_is)
    (case l13 => k_is)
    (case c13 => k_is)
    (case k13 => k_is)
    (case a14 => k_is)
    (case l14 => k_is)
    (case c14 => k_is)
    (case k14 => k_is)
    (case a15 => k_is)
    (case l15 => k_is)
    (case c15 => k_is)
    (case k15 => k_is)
    (case a16 => k_is)
    (case l16 => k_is)
    (case c16 => k_is)
    (case k16 => k_is)
    (case a17 => k_is)
    (case l17 => k_is)
    (case c17 => k_is)
    (case k17 => k_is)
    (case a18 => k_is)
    (case l18 => k_is)
    (case c18 => k_is)
    (case k18 => k_is)
    (case a19 => k_is)
    (case l19 => k_is)
    (case c19 => k_is)
    (case k19 => k_is)
    (case a20 => k_is)
    (case l20 => k_is)
    (case c20 => k_is)
    (case k20 => k_is)
    (case a21 => k_is)
    (case l21 => k_is)
    (case c21 => k_is)
    (case k21 => k_is)
    (case a22 => k_is)
    (case l22 => k_is)
    (case c22 => k_is)
    (case k22 => k_is)
    (case a23 => k_is)
    (case l23 => k_is)
    (case c23 => k_is)
    (case k23 => k_is)
    (case a24 => k_is)
    (case l24 => k_is)
    (case c24 => k_is)
    (case k24 => k_is)
    (case a25 => k_is)
    (case i25 => k_is)
    (case l25 => k_is)
    (case c25 => k_is)
    (case k25 => k_is)
    (case a26 => k_is)
    (case i26 => k_is)
    (case l26 => k_is)
    (case c26 => k_is)
    (case k26 => k_is)
    (case a27 => k_is)
    (case i27 => k_is)
    (case l27 => k_is)
    (case c27 => k_is)
    (case k27 => k_is)
    (case a28 => k_is)
    (case i28 => k_is)
    (case l28 => k_is)
    (case c28 => k_is)
    (case k28 => k_is)
    (case a29 => k_is)
    (case i29 => k_is)
    (case l29 => k_is)
    (case c29 => k_is)
    (case k29 => k_is)
    (case a30 => k_is)
    (case i30 => k_is)
    (case l30 => k_is)
    (case c30 => k_is)
    (case k30 => k_is)
    (case a31 => k_is)
    (case i31 => k_is)
    (case l31 => k_is)
    (case c31 => k_is)
    (case k31 => k_is)
    (case a32 => k_is)
    (case i32 => k_is)
    (case l32 => k_is)
    (case c32 => k_is)
    (case k32 => k_is)
    (case a33 => k_is)
    (case i33 => k_is)
    (case l33 => k_is)
    (case c33 => k_is)
    (case k33 => k_is)
    (case a34 => k_is)
    (case i34 => k_is)
    (case l34 => k_is)
    (case c34 => k_is)
    (case k34 => k_is)
    (case a35 => k_is)
    (case i35 => k_is)
    (case l35 => k_is)
    (case c35 => k_is)
    (case k35 => k_is)
    (case a36 => k_is)
    (case i36 => k_is)
    (case l36 => k_is)
    (case c36 => k_is)
    (case k36 => k_is)
    (case a37 => k_is)
    (case i37 => k_is)
    (case l37 => k_is)
    (case c37 => k_is)
    (case k37 => k_is)
    (case a38 => k_is)
    (case i38 => k_is)
    (case l38 => k_is)
    (case c38 => k_is)
    (case k38 => k_is)
    (case a39 => k_is)
    (case i39 => k_is)
    (case l39 => k_is)
    (case c39 => k_is)
    (case k39 => k_is)
    (case a40 => k_is)
    (case i40 => k_is)
    (case l40 => k_is)
    (case c40 => k_is)
    (case k40 => k_is)
    (case a41 => k_is)
    (case i41 => k_is)
    (case l41 => k_is)
    (case c41 => k_is)
    (case k41 => k_is)
    (case a42 => k_is)
    (case i42 => k_is)
    (case l42 => k_is)
    (case c42 => k_is)
    (case k42 => k_is)
    (case pgC => k_is)
    (case hdC => k_is)
    (case poC => k_is)
    (case saC => k_is)
    (case mkC => k_is)
    (case kcC => k_is)
    (case nC0 => k_is)
    (case nC1 => k_is)
    (case nC2 => k_is)
    (case nC3 => k_is)
    (case pgCS => k_is)
    (case hdCS => k_is)
    (case poCS => k_is)
    (case saCS => k_is)
    (case mkCS => k_is)
    (case kcCS => k_is)
    (case nCS0 => k_is)
    (case v0 => k_is)
    (case v1 => k_is)
    (case v2 => k_is)
    (case v3 => k_is)
    (case v4 => k_is)
    (case v5 => k_is)
    (case v6 => k_is)
    (case v7 => k_is)
    (case v8 => k_is)
    (case v9 => k_is)
    (case v10 => k_is)
    (case v11 => k_is)
    (case v12 => k_is)
    (case v13 => k_is)
    (case v14 => k_is)
    (case v15 => k_is)
    (case v16 => k_is)
    (case v17 => k_is)
    (case v18 => k_is)
    (case v19 => k_is)
    (case v20 => k_is)
    (case b_abs => k_is)
    (case b_sum => k_is)
    (case b_range => k_is)
    (case b_len => k_is)
    (case b_all => k_is)
    (case b_list => k_is)
    (case aA => k_is)
    (case lA => k_is)
    (case cA => rfl)
    (case dA => rfl)
    (case zA => decide)
    (case vA => exact .cons ⟨_, rfl⟩ (.cons ⟨_, rfl⟩ (.cons ⟨_, rfl⟩ (.cons ⟨_, rfl⟩ (.cons ⟨_, rfl⟩ (.cons ⟨_, rfl⟩ (.cons ⟨_, rfl⟩ (.cons ⟨_, rfl⟩ (.cons ⟨_, rfl⟩ (.cons ⟨_, rfl⟩ (.cons ⟨_, rfl⟩ (.cons ⟨_, rfl⟩ (.cons ⟨_, rfl⟩ (.cons ⟨_, rfl⟩ (.nil)))))))))))))))
  case S =>
    intro K H xs a hO hwi hask hx
    cases hx with
    | cons h1 h2 =>
      cases h2
      cases h1 with
      | lst hs ha =>
        have e := L2.ints_dw a.1 _ ha
        subst e
        have q : ((Codec.inLen 0 10320 a.1 && a.1.all (Codec.inInt 0 4294967295)) && true) = true := hwi
        rw [Bool.and_eq_true, Bool.and_eq_true] at q
        refine ⟨_, a.1, rfl, hs, hask, fun z hz => ?_, fun H' p hp => .lst (L2.SqL.of hp) (L2.dw_ints _)⟩
        have := List.all_eq_true.mp q.1.2 z hz
        exact (Codec.inInt_iff.mp this).1

