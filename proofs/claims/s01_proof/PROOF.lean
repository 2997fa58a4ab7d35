import PyProof.Rows.All
import Wide.All
import OpenK.AllK
import Wide.FinOn
import Open.SpecLaws
import KE.OsGo
import HandS.ForSpec
import HandS.ForMost
import HandS.Wide
import HandS.Flow
import HandS.Strs
import HandS.SetFor
import HandS.CallLocal
import HandS.Zip
import PySem.Challenge.RW_faircosts_s01_answers
set_option Elab.async false
set_option linter.all false
set_option maxRecDepth 100000
set_option maxHeartbeats 4000000
namespace My
/-! ## 1. Fractions and their sizes -/
/-- both numbers of a fraction below a power of two -/
structure Sz (n : Nat) (q : Rat) : Prop where
  num : q.num.natAbs < 2 ^ n
  den : q.den < 2 ^ n
theorem mk_num {u : Int} {l : Nat} (h : 0 < l) : (mkRat u l).num = u / ((Nat.gcd u.natAbs l : Nat) : Int) := by
  rw [Rat.num_mkRat, if_neg (by omega), Nat.gcd_comm]
theorem mk_den {u : Int} {l : Nat} (h : 0 < l) : (mkRat u l).den = l / Nat.gcd u.natAbs l := by
  rw [Rat.den_mkRat, if_neg (by omega), Nat.gcd_comm]
theorem mk_den_le {u : Int} {l : Nat} (h : 0 < l) : (mkRat u l).den ≤ l := by
  rw [mk_den h]
  exact Nat.div_le_self _ _
theorem mk_num_le {u : Int} {l : Nat} (h : 0 < l) : (mkRat u l).num.natAbs ≤ u.natAbs := by
  rw [mk_num h]
  exact Int.natAbs_ediv_le_natAbs _ _
theorem Sz.mk_ {u : Int} {l n : Nat} (h : 0 < l) (hu : u.natAbs < 2 ^ n) (hl : l < 2 ^ n) : Sz n (mkRat u l) :=
  ⟨Nat.lt_of_le_of_lt (mk_num_le h) hu, Nat.lt_of_le_of_lt (mk_den_le h) hl⟩
theorem Sz.mono {m n : Nat} {q : Rat} (h : Sz m q) (hm : m ≤ n) : Sz n q :=
  ⟨Nat.lt_of_lt_of_le h.num (Nat.pow_le_pow_right (by decide) hm), Nat.lt_of_lt_of_le h.den (Nat.pow_le_pow_right (by decide) hm)⟩
theorem mul_pow {a b m n : Nat} (ha : a < 2 ^ m) (hb : b < 2 ^ n) : a * b < 2 ^ (m + n) := by
  rw [Nat.pow_add]
  exact Nat.mul_lt_mul'' ha hb
theorem nat_mul_pow {a : Int} {b m n : Nat} (ha : a.natAbs < 2 ^ m) (hb : b < 2 ^ n) : (a * (b : Int)).natAbs < 2 ^ (m + n) := by
  rw [Int.natAbs_mul]
  exact mul_pow ha hb
theorem Sz.add {m n : Nat} {p q : Rat} (hp : Sz m p) (hq : Sz n q) : Sz (m + n + 1) (p + q) := by
  rw [Rat.add_def']
  have h1 : (p.num * (q.den : Int)).natAbs < 2 ^ (m + n) := nat_mul_pow hp.num hq.den
  have h2 : (q.num * (p.den : Int)).natAbs < 2 ^ (m + n) := by
    rw [Nat.add_comm]
    exact nat_mul_pow hq.num hp.den
  have h3 := mul_pow hp.den hq.den
  refine Sz.mk_ (Nat.mul_pos p.den_pos q.den_pos) ?_ ?_
  · rw [Nat.pow_succ]
    omega
  · rw [Nat.pow_succ]
    omega
theorem Sz.neg {m : Nat} {p : Rat} (hp : Sz m p) : Sz m (-p) := ⟨by rw [Rat.neg_num, Int.natAbs_neg]; exact hp.num, hp.den⟩
theorem Sz.sub {m n : Nat} {p q : Rat} (hp : Sz m p) (hq : Sz n q) : Sz (m + n + 1) (p - q) := by
  rw [Rat.sub_eq_add_neg]
  exact hp.add hq.neg
theorem Sz.mul {m n : Nat} {p q : Rat} (hp : Sz m p) (hq : Sz n q) : Sz (m + n) (p * q) := by
  rw [Rat.mul_def']
  refine Sz.mk_ (Nat.mul_pos p.den_pos q.den_pos) ?_ (mul_pow hp.den hq.den)
  rw [Int.natAbs_mul]
  exact mul_pow hp.num hq.num
theorem div_eq {p q : Rat} (hq : 0 < q) : p / q = mkRat (p.num * (q.den : Int)) (p.den * q.num.toNat) := by
  have hn : 0 < q.num := by
    have := (Rat.lt_iff 0 q).mp hq
    simpa using this
  have e : ((q.num.toNat : Nat) : Int) = q.num := Int.toNat_of_nonneg (Int.le_of_lt hn)
  have h1 : p / q = p * q⁻¹ := rfl
  have h2 : q⁻¹ = mkRat (q.den : Int) q.num.toNat := by
    rw [Rat.inv_def, ← Rat.divInt_ofNat, e]
  rw [h1, h2]
  conv => lhs; rw [← Rat.mkRat_self p]
  rw [Rat.mkRat_mul_mkRat]
theorem num_pos_of {q : Rat} (hq : 0 < q) : 0 < q.num := by
  have := (Rat.lt_iff 0 q).mp hq
  simpa using this
theorem Sz.div {m n : Nat} {p q : Rat} (hp : Sz m p) (hq : Sz n q) (h : 0 < q) : Sz (m + n) (p / q) := by
  have hn := num_pos_of h
  have h2 := hq.num
  rw [div_eq h]
  refine Sz.mk_ (Nat.mul_pos p.den_pos (by omega)) (nat_mul_pow hp.num hq.den) (mul_pow hp.den (by omega))
theorem Sz.int {n : Nat} {z : Int} (h : z.natAbs < 2 ^ n) (h0 : 0 < n) : Sz n (z : Rat) := by
  refine ⟨by rw [Rat.num_intCast]; exact h, ?_⟩
  rw [Rat.den_intCast]
  exact Nat.one_lt_two_pow (by omega)
theorem Sz.zero {n : Nat} (h0 : 0 < n) : Sz n 0 := ⟨by
  rw [Rat.zero_num]
  exact Nat.pow_pos (by decide), by
  rw [Rat.zero_den]
  exact Nat.one_lt_two_pow (by omega)⟩
theorem Sz.one {n : Nat} (h0 : 0 < n) : Sz n 1 := ⟨by
  rw [Rat.one_num]
  exact Nat.one_lt_two_pow (by omega), by
  rw [Rat.one_den]
  exact Nat.one_lt_two_pow (by omega)⟩
/-- a fraction that, so many times, is a whole number -/
theorem den_le_of {q : Rat} {D : Nat} {z : Int} (hD : 0 < D) (h : q * (D : Rat) = (z : Rat)) : q.den ≤ D := by
  have hD' : (D : Rat) ≠ 0 := by
    intro e
    have := Rat.natCast_pos.mpr hD
    rw [e] at this
    exact Rat.lt_irrefl this
  have e : q = mkRat z D := by
    rw [Rat.mkRat_eq_div, ← h, Rat.mul_div_cancel hD']
  rw [e]
  exact mk_den_le hD
theorem num_le_of {q : Rat} {B : Nat} (h0 : 0 ≤ q) (h : q ≤ (B : Rat)) : q.num.natAbs ≤ B * q.den := by
  have h1 := (Rat.le_iff q (B : Rat)).mp h
  have h2 := Rat.num_nonneg.mpr h0
  rw [Rat.num_natCast, Rat.den_natCast] at h1
  have e : ((B * q.den : Nat) : Int) = (B : Int) * (q.den : Int) := Int.natCast_mul _ _
  simp only [Int.mul_one, Int.natCast_one] at h1
  omega
end My
namespace My
open Krdf (Table)
/-! ## 2. Cells, orders -/
abbrev Cells := List (Nat × Nat)
def so (cs : Cells) : List Int := cs.map fun c => (c.1 : Int)
def oth (cs : Cells) : List Int := cs.map fun c => (c.2 : Int)
def siz (cs : Cells) : List Int := cs.map fun c => (c.1 : Int) + (c.2 : Int)
def gai (u v : Nat) (cs : Cells) : List Int := cs.map fun c => (u : Int) * (c.1 : Int) - (v : Int) * (c.2 : Int)
theorem getD_map {α β : Type} (f : α → β) (l : List α) (s : Nat) (a : α) (b : β) (h : f a = b) : (l.map f).getD s b = f (l.getD s a) := by
  rw [List.getD_eq_getElem?_getD, List.getD_eq_getElem?_getD, List.getElem?_map]
  cases l[s]? with
  | none => exact h.symm
  | some x => rfl
theorem so_at (cs : Cells) (s : Nat) : (so cs).getD s 0 = ((cs.getD s (0, 0)).1 : Int) := getD_map _ cs s (0, 0) 0 rfl
theorem oth_at (cs : Cells) (s : Nat) : (oth cs).getD s 0 = ((cs.getD s (0, 0)).2 : Int) := getD_map _ cs s (0, 0) 0 rfl
theorem siz_at (cs : Cells) (s : Nat) : (siz cs).getD s 0 = ((cs.getD s (0, 0)).1 : Int) + ((cs.getD s (0, 0)).2 : Int) := getD_map _ cs s (0, 0) 0 rfl
theorem gai_at (u v : Nat) (cs : Cells) (s : Nat) : (gai u v cs).getD s 0 = (u : Int) * ((cs.getD s (0, 0)).1 : Int) - (v : Int) * ((cs.getD s (0, 0)).2 : Int) := getD_map _ cs s (0, 0) 0 (by simp)
def rowOf (t : Table) (g : Nat) : Cells := t.cells.getD g []
theorem cell_eq (t : Table) (g s : Nat) : t.cell g s = (rowOf t g).getD s (0, 0) := rfl
/-- is a ahead of b -/
def ahead (runs rises : List Int) (a b : Nat) : Bool := decide (rises.getD b 0 * runs.getD a 0 < rises.getD a 0 * runs.getD b 0)
def anyIn (cs : Cells) : List Nat := (List.range cs.length).filter fun s => decide (cs.getD s (0, 0) ≠ (0, 0))
def steep (cs : Cells) (runs rises : List Int) : List Nat := (anyIn cs).foldl (fun l s => Krdh.insert (ahead runs rises) s l) []
theorem some_eq {t : Table} {g : Nat} (h : (rowOf t g).length = t.k) : Krdh.some_ t g = anyIn (rowOf t g) := by
  unfold Krdh.some_ anyIn Table.scores
  rw [h]
  refine List.filter_congr fun s _ => ?_
  rw [cell_eq]
  refine decide_eq_decide.mpr ?_
  rcases (rowOf t g).getD s (0, 0) with ⟨a, b⟩
  simp only [ne_eq, Prod.mk.injEq]
  omega
theorem down_eq {t : Table} {g : Nat} : Krdh.before t g true = ahead (oth (rowOf t g)) (so (rowOf t g)) := by
  funext a b
  unfold Krdh.before ahead
  simp only [if_true, so_at, oth_at, cell_eq]
  refine decide_eq_decide.mpr ?_
  exact_mod_cast Iff.rfl
theorem up_eq {t : Table} {g : Nat} : Krdh.before t g false = ahead (so (rowOf t g)) (oth (rowOf t g)) := by
  funext a b
  unfold Krdh.before ahead
  simp only [so_at, oth_at, cell_eq, Bool.false_eq_true, if_false]
  refine decide_eq_decide.mpr ?_
  rw [Int.mul_comm, Int.mul_comm ((((rowOf t g).getD a (0, 0)).2 : Int))]
  exact_mod_cast Iff.rfl
theorem ordered_down {t : Table} {g : Nat} (h : (rowOf t g).length = t.k) : Krdh.ordered t g true = steep (rowOf t g) (oth (rowOf t g)) (so (rowOf t g)) := by
  unfold Krdh.ordered steep
  rw [some_eq h, down_eq]
theorem ordered_up {t : Table} {g : Nat} (h : (rowOf t g).length = t.k) : Krdh.ordered t g false = steep (rowOf t g) (so (rowOf t g)) (oth (rowOf t g)) := by
  unfold Krdh.ordered steep
  rw [some_eq h, up_eq]
theorem gain_at {t : Table} {p : Krdi.Pays} {g s : Nat} : Krdi.cellGain t p g s = (gai p.gain p.loss (rowOf t g)).getD s 0 := by
  rw [gai_at]
  rfl
theorem size_at {t : Table} {g s : Nat} : ((Krdi.size t g s : Nat) : Int) = (siz (rowOf t g)).getD s 0 := by
  rw [siz_at]
  unfold Krdi.size
  rw [cell_eq]
  exact_mod_cast rfl
theorem byGain_eq {t : Table} {p : Krdi.Pays} {g : Nat} (h : (rowOf t g).length = t.k) : Krdi.byGain t p g = steep (rowOf t g) (siz (rowOf t g)) (gai p.gain p.loss (rowOf t g)) := by
  unfold Krdi.byGain steep
  rw [some_eq h]
  have e : (fun a b => decide (Krdi.cellGain t p g b * (Krdi.size t g a : Int) < Krdi.cellGain t p g a * (Krdi.size t g b : Int))) = ahead (siz (rowOf t g)) (gai p.gain p.loss (rowOf t g)) := by
    funext a b
    unfold ahead
    rw [gain_at, gain_at, size_at, size_at]
  rw [e]
/-! an order holds each score once -/
theorem insert_perm (f : Nat → Nat → Bool) (x : Nat) : ∀ l : List Nat, (Krdh.insert f x l).Perm (x :: l)
  | [] => List.Perm.refl _
  | y :: l => by
    unfold Krdh.insert
    split
    · exact List.Perm.refl _
    · exact ((insert_perm f x l).cons y).trans (List.Perm.swap x y l)
theorem fold_perm (f : Nat → Nat → Bool) : ∀ (l acc : List Nat), (l.foldl (fun l s => Krdh.insert f s l) acc).Perm (l ++ acc)
  | [], acc => List.Perm.refl _
  | x :: l, acc => by
    rw [List.foldl_cons]
    refine (fold_perm f l _).trans ?_
    refine ((insert_perm f x acc).append_left l).trans ?_
    exact List.perm_middle
theorem steep_perm (cs : Cells) (runs rises : List Int) : (steep cs runs rises).Perm (anyIn cs) := by
  have h := fold_perm (ahead runs rises) (anyIn cs) []
  rw [List.append_nil] at h
  exact h
theorem anyIn_nodup (cs : Cells) : (anyIn cs).Nodup := List.nodup_range.filter _
theorem steep_nodup (cs : Cells) (runs rises : List Int) : (steep cs runs rises).Nodup := (steep_perm cs runs rises).nodup_iff.mpr (anyIn_nodup cs)
theorem mem_steep {cs : Cells} {runs rises : List Int} {s : Nat} : s ∈ steep cs runs rises ↔ s < cs.length ∧ cs.getD s (0, 0) ≠ (0, 0) := by
  rw [(steep_perm cs runs rises).mem_iff]
  unfold anyIn
  simp only [List.mem_filter, List.mem_range, decide_eq_true_eq]
/-- those with nobody who turned out not so stand ahead -/
def Zf (runs : List Int) (l : List Nat) : Prop := l.Pairwise fun a b => runs.getD b 0 = 0 → runs.getD a 0 = 0
theorem zf_insert {runs rises : List Int} {x : Nat} (hx : runs.getD x 0 = 0 → 0 < rises.getD x 0) (h0 : ∀ y, 0 ≤ runs.getD y 0) (h1 : ∀ y, 0 ≤ rises.getD y 0) : ∀ {l : List Nat}, Zf runs l → Zf runs (Krdh.insert (ahead runs rises) x l)
  | [], _ => List.pairwise_singleton _ _
  | y :: l, h => by
    unfold Zf at h
    rw [List.pairwise_cons] at h
    unfold Krdh.insert
    by_cases c : ahead runs rises x y = true
    · rw [if_pos c]
      unfold ahead at c
      have c' := of_decide_eq_true c
      unfold Zf
      rw [List.pairwise_cons]
      refine ⟨fun b hb e => ?_, List.pairwise_cons.mpr h⟩
      by_cases z : runs.getD y 0 = 0
      · rw [z, Int.mul_zero] at c'
        exact absurd c' (Int.not_lt.mpr (Int.mul_nonneg (h1 y) (h0 x)))
      · rcases List.mem_cons.mp hb with rfl | hb
        · exact absurd e z
        · exact absurd (h.1 b hb e) z
    · rw [if_neg c]
      unfold Zf
      rw [List.pairwise_cons]
      refine ⟨fun b hb e => ?_, zf_insert hx h0 h1 h.2⟩
      have hb' := (insert_perm (ahead runs rises) x l).mem_iff.mp hb
      rcases List.mem_cons.mp hb' with rfl | hb'
      · unfold ahead at c
        have c' : ¬ (rises.getD y 0 * runs.getD b 0 < rises.getD b 0 * runs.getD y 0) := fun z => c (decide_eq_true z)
        rw [e, Int.mul_zero] at c'
        have p := hx e
        have q := h0 y
        by_cases z : runs.getD y 0 = 0
        · exact z
        · exact absurd (Int.mul_pos p (by omega)) c'
      · exact h.1 b hb' e
theorem zf_fold {runs rises : List Int} (h0 : ∀ y, 0 ≤ runs.getD y 0) (h1 : ∀ y, 0 ≤ rises.getD y 0) : ∀ (l acc : List Nat), (∀ x ∈ l, runs.getD x 0 = 0 → 0 < rises.getD x 0) → Zf runs acc → Zf runs (l.foldl (fun l s => Krdh.insert (ahead runs rises) s l) acc)
  | [], _, _, h => h
  | x :: l, acc, hx, h => by
    rw [List.foldl_cons]
    exact zf_fold h0 h1 l _ (fun y hy => hx y (List.mem_cons_of_mem _ hy)) (zf_insert (hx x List.mem_cons_self) h0 h1 h)
theorem zf_steep (cs : Cells) : Zf (oth cs) (steep cs (oth cs) (so cs)) := by
  refine zf_fold (fun y => ?_) (fun y => ?_) _ _ (fun x hx e => ?_) List.Pairwise.nil
  · rw [oth_at]
    omega
  · rw [so_at]
    omega
  · unfold anyIn at hx
    have h := of_decide_eq_true (List.mem_filter.mp hx).2
    rw [oth_at] at e
    rw [so_at]
    generalize cs.getD x (0, 0) = y at h e ⊢
    rcases y with ⟨a, b⟩
    simp only [ne_eq, Prod.mk.injEq] at h e ⊢
    omega
/-! ## 3. Chosen in an order till so many are -/
def tk (runs : List Int) : List Nat → Rat → List Rat → List Rat
  | [], _, c => c
  | s :: l, x, c => if x < ((runs.getD s 0 : Int) : Rat) then c.set s (x / ((runs.getD s 0 : Int) : Rat)) else tk runs l (x - ((runs.getD s 0 : Int) : Rat)) (c.set s 1)
theorem set_zero {c : List Rat} {s : Nat} (h : c.getD s 0 = 0) : c.set s 0 = c := by
  refine List.ext_getElem? fun i => ?_
  rw [List.getElem?_set]
  split
  · rename_i e
    subst e
    split
    · rename_i hl
      rw [List.getD_eq_getElem?_getD] at h
      rw [List.getElem?_eq_getElem hl] at h ⊢
      exact congrArg some h.symm
    · rename_i hl
      rw [List.getElem?_eq_none (by omega)]
  · rfl
theorem getD_set_ne {c : List Rat} {s s' : Nat} {v : Rat} (h : s ≠ s') : (c.set s v).getD s' 0 = c.getD s' 0 := by
  rw [List.getD_eq_getElem?_getD, List.getD_eq_getElem?_getD, List.getElem?_set_ne h]
theorem fillBy_rest {m : Nat → Nat} {all : Nat} : ∀ (l : List Nat) (c : List Rat), (∀ s ∈ l, c.getD s 0 = 0) → 0 < all → Krdi.fillBy m all l 0 c = c
  | [], _, _, _ => rfl
  | s :: l, c, hc, ha => by
    unfold Krdi.fillBy
    have ih := fillBy_rest (m := m) l c (fun s' hs => hc s' (List.mem_cons_of_mem _ hs)) ha
    have hs := hc s List.mem_cons_self
    dsimp only
    split
    · exact ih
    · rename_i hw
      split
      · rename_i hw2
        exfalso
        refine hw (Rat.le_antisymm hw2 ?_)
        rw [Rat.div_def]
        exact Rat.mul_nonneg Rat.natCast_nonneg (by
          have := Rat.inv_pos.mpr (Rat.natCast_pos.mpr ha)
          exact Rat.le_of_lt this)
      · rw [Rat.div_def, Rat.zero_mul, set_zero hs]
        exact ih
theorem fillBy_tk {m : Nat → Nat} {all : Nat} {runs : List Int} (hr : ∀ s, runs.getD s 0 = (m s : Int)) (ha : 0 < all) : ∀ (l : List Nat) (x : Rat) (c : List Rat), l.Nodup → (∀ s ∈ l, 0 < m s) → (∀ s ∈ l, c.getD s 0 = 0) →
    Krdi.fillBy m all l x c = tk runs l (x * (all : Rat)) c
  | [], _, _, _, _, _ => rfl
  | s :: l, x, c, hn, hm, hc => by
    have hs := hm s List.mem_cons_self
    rw [List.nodup_cons] at hn
    have a0 : (0 : Rat) < (all : Rat) := Rat.natCast_pos.mpr ha
    have m0 : (0 : Rat) < (m s : Rat) := Rat.natCast_pos.mpr hs
    have ane : (all : Rat) ≠ 0 := Rat.ne_of_gt a0
    have hc' : ∀ v, ∀ s' ∈ l, (c.set s v).getD s' 0 = 0 := fun v s' h' => by
      have ne : s ≠ s' := fun e => hn.1 (by rw [e]; exact h')
      rw [getD_set_ne ne]
      exact hc s' (List.mem_cons_of_mem _ h')
    unfold Krdi.fillBy tk
    dsimp only
    rw [hr s]
    have w0 : (0 : Rat) < (m s : Rat) / (all : Rat) := by
      rw [Rat.lt_div_iff a0, Rat.zero_mul]
      exact m0
    rw [if_neg (Rat.ne_of_gt w0)]
    have cc : (((m s : Nat) : Int) : Rat) = (m s : Rat) := rfl
    rw [cc]
    have key : x < (m s : Rat) / (all : Rat) ↔ x * (all : Rat) < (m s : Rat) := Rat.lt_div_iff a0
    by_cases h : x * (all : Rat) < (m s : Rat)
    · rw [if_pos h, if_neg (Rat.not_le.mpr (key.mpr h)), fillBy_rest l _ (hc' _) ha]
      congr 1
      grind
    · rw [if_neg h, if_pos (Rat.not_lt.mp fun z => h (key.mp z))]
      rw [fillBy_tk hr ha l _ _ hn.2 (fun s' h' => hm s' (List.mem_cons_of_mem _ h')) (hc' _)]
      congr 1
      grind
theorem w_zero {n all : Nat} (ha : 0 < all) : (n : Rat) / (all : Rat) = 0 ↔ n = 0 := by
  have a0 : (0 : Rat) < (all : Rat) := Rat.natCast_pos.mpr ha
  constructor
  · intro h
    have e : (n : Rat) = 0 := by
      have := Rat.div_mul_cancel (a := (n : Rat)) (Rat.ne_of_gt a0)
      rw [h, Rat.zero_mul] at this
      exact this.symm
    exact_mod_cast e
  · rintro rfl
    rw [Rat.div_def]
    exact Rat.zero_mul _
theorem fillBy_some {m : Nat → Nat} {all : Nat} (ha : 0 < all) : ∀ (l : List Nat) (x : Rat) (c : List Rat), Krdi.fillBy m all l x c = Krdi.fillBy m all (l.filter fun s => decide (0 < m s)) x c
  | [], _, _ => rfl
  | s :: l, x, c => by
    by_cases h : 0 < m s
    · rw [List.filter_cons, if_pos (decide_eq_true h)]
      unfold Krdi.fillBy
      dsimp only
      rw [fillBy_some ha l, fillBy_some ha l, fillBy_some ha l]
    · rw [List.filter_cons, if_neg (fun z => h (of_decide_eq_true z))]
      conv => lhs; unfold Krdi.fillBy
      dsimp only
      rw [if_pos ((w_zero ha).mpr (by omega))]
      exact fillBy_some ha l x c
theorem fill_up {t : Table} {g : Nat} (ha : 0 < t.no g) : ∀ (l : List Nat) (x : Rat) (c : List Rat), l.Nodup → (∀ s ∈ l, c.getD s 0 = 0) → Krdh.fill t g false l x c = Krdi.fillBy (fun s => (t.cell g s).2) (t.no g) l x c
  | [], _, _, _, _ => rfl
  | s :: l, x, c, hn, hc => by
    rw [List.nodup_cons] at hn
    have hc' : ∀ v, ∀ s' ∈ l, (c.set s v).getD s' 0 = 0 := fun v s' h' => by
      have ne : s ≠ s' := fun e => hn.1 (by rw [e]; exact h')
      rw [getD_set_ne ne]
      exact hc s' (List.mem_cons_of_mem _ h')
    unfold Krdh.fill Krdi.fillBy
    dsimp only
    rw [fill_up ha l _ _ hn.2 (hc' _), fill_up ha l _ _ hn.2 (hc' _), fill_up ha l _ _ hn.2 (hc' _)]
    simp only [Bool.false_eq_true, if_false]
    rw [set_zero (hc s List.mem_cons_self)]
theorem fill_rest {t : Table} {g : Nat} {b : Bool} (ha : 0 < t.no g) : ∀ (l : List Nat) (c : List Rat), (∀ s ∈ l, c.getD s 0 = 0) → (∀ s ∈ l, 0 < (t.cell g s).2) → Krdh.fill t g b l 0 c = c
  | [], _, _, _ => rfl
  | s :: l, c, hc, hm => by
    have hs := hm s List.mem_cons_self
    have a0 : (0 : Rat) < (t.no g : Rat) := Rat.natCast_pos.mpr ha
    have w0 : (0 : Rat) < ((t.cell g s).2 : Rat) / (t.no g : Rat) := by
      rw [Rat.lt_div_iff a0, Rat.zero_mul]
      exact Rat.natCast_pos.mpr hs
    unfold Krdh.fill
    dsimp only
    rw [if_neg (Rat.ne_of_gt w0), if_neg (Rat.not_le.mpr w0), Rat.div_def, Rat.zero_mul, set_zero (hc s List.mem_cons_self)]
    exact fill_rest ha l c (fun s' h' => hc s' (List.mem_cons_of_mem _ h')) (fun s' h' => hm s' (List.mem_cons_of_mem _ h'))
theorem fill_tk {t : Table} {g : Nat} {runs : List Int} (hr : ∀ s, runs.getD s 0 = ((t.cell g s).2 : Int)) (ha : 0 < t.no g) : ∀ (l : List Nat) (x : Rat) (c : List Rat), l.Nodup → Zf runs l → (∀ s ∈ l, c.getD s 0 = 0) → 0 ≤ x →
    Krdh.fill t g true l x c = tk runs l (x * (t.no g : Rat)) c
  | [], _, _, _, _, _, _ => rfl
  | s :: l, x, c, hn, hz, hc, hx => by
    rw [List.nodup_cons] at hn
    unfold Zf at hz
    rw [List.pairwise_cons] at hz
    have a0 : (0 : Rat) < (t.no g : Rat) := Rat.natCast_pos.mpr ha
    have ane : (t.no g : Rat) ≠ 0 := Rat.ne_of_gt a0
    have xa : 0 ≤ x * (t.no g : Rat) := Rat.mul_nonneg hx (Rat.le_of_lt a0)
    have hc' : ∀ v, ∀ s' ∈ l, (c.set s v).getD s' 0 = 0 := fun v s' h' => by
      have ne : s ≠ s' := fun e => hn.1 (by rw [e]; exact h')
      rw [getD_set_ne ne]
      exact hc s' (List.mem_cons_of_mem _ h')
    unfold Krdh.fill tk
    dsimp only
    have cc : ((runs.getD s 0 : Int) : Rat) = ((t.cell g s).2 : Rat) := by rw [hr s]; rfl
    rw [cc]
    by_cases z : (t.cell g s).2 = 0
    · rw [if_pos ((w_zero ha).mpr z), z]
      have e0 : (((0 : Nat) : Nat) : Rat) = 0 := rfl
      rw [e0, if_neg (Rat.not_lt.mpr xa), if_pos rfl]
      rw [fill_tk hr ha l x _ hn.2 hz.2 (hc' _) hx]
      congr 1
      grind
    · rw [if_neg (fun e => z ((w_zero ha).mp e))]
      have m0 : (0 : Rat) < ((t.cell g s).2 : Rat) := Rat.natCast_pos.mpr (by omega)
      have key : x < ((t.cell g s).2 : Rat) / (t.no g : Rat) ↔ x * (t.no g : Rat) < ((t.cell g s).2 : Rat) := Rat.lt_div_iff a0
      have later : ∀ s' ∈ l, 0 < (t.cell g s').2 := fun s' h' => by
        have h1 := hz.1 s' h'
        rw [hr, hr] at h1
        omega
      by_cases h : x * (t.no g : Rat) < ((t.cell g s).2 : Rat)
      · rw [if_pos h, if_neg (Rat.not_le.mpr (key.mpr h)), fill_rest ha l _ (hc' _) later]
        congr 1
        grind
      · have h2 := Rat.not_lt.mp fun z => h (key.mp z)
        rw [if_neg h, if_pos h2]
        rw [fill_tk hr ha l _ _ hn.2 hz.2 (hc' _) ((Rat.le_iff_sub_nonneg _ _).mp h2)]
        congr 1
        grind
end My
namespace My
open Krdf (Table)
/-! ## 4. Sums -/
theorem range_map {α β : Type} (f : α → β) (cs : List α) (d : α) : (List.range cs.length).map (fun s => f (cs.getD s d)) = cs.map f := by
  refine List.ext_getElem (by simp) fun i h1 h2 => ?_
  simp only [List.getElem_map, List.getElem_range]
  rw [List.getD_eq_getElem?_getD, List.getElem?_eq_getElem (by simpa using h1)]
  rfl
theorem foldl_add_int : ∀ (l : List Int) (a : Int), l.foldl (· + ·) a = a + l.sum
  | [], a => by simp
  | x :: l, a => by
    rw [List.foldl_cons, foldl_add_int l, List.sum_cons]
    omega
theorem foldl_add_nat : ∀ (l : List Nat) (a : Nat), ((l.foldl (· + ·) a : Nat) : Int) = (a : Int) + (l.map fun n : Nat => (n : Int)).sum
  | [], a => by simp
  | x :: l, a => by
    rw [List.foldl_cons, foldl_add_nat l, List.map_cons, List.sum_cons]
    omega
theorem yes_eq {t : Table} {g : Nat} (h : (rowOf t g).length = t.k) : ((t.yes g : Nat) : Int) = (so (rowOf t g)).sum := by
  unfold Table.yes Krdf.sumN Table.scores
  rw [foldl_add_nat, ← h]
  have e := range_map (fun c : Nat × Nat => c.1) (rowOf t g) (0, 0)
  simp only [cell_eq]
  rw [e]
  unfold so
  rw [List.map_map]
  simp [Function.comp_def]
theorem no_eq {t : Table} {g : Nat} (h : (rowOf t g).length = t.k) : ((t.no g : Nat) : Int) = (oth (rowOf t g)).sum := by
  unfold Table.no Krdf.sumN Table.scores
  rw [foldl_add_nat, ← h]
  have e := range_map (fun c : Nat × Nat => c.2) (rowOf t g) (0, 0)
  simp only [cell_eq]
  rw [e]
  unfold oth
  rw [List.map_map]
  simp [Function.comp_def]
theorem siz_sum : ∀ cs : Cells, (siz cs).sum = (so cs).sum + (oth cs).sum
  | [] => rfl
  | c :: cs => by
    have ih := siz_sum cs
    unfold siz so oth at ih ⊢
    rw [List.map_cons, List.map_cons, List.map_cons, List.sum_cons, List.sum_cons, List.sum_cons, ih]
    omega
theorem total_eq {t : Table} {g : Nat} (h : (rowOf t g).length = t.k) : ((Krdi.total t g : Nat) : Int) = (siz (rowOf t g)).sum := by
  unfold Krdi.total
  rw [siz_sum, ← yes_eq h, ← no_eq h]
  exact Int.natCast_add _ _
/-- each fraction times its weight, all together -/
def wsum (c : List Rat) (ws : List Int) : Rat := ((c.zip ws).map fun p => p.1 * (p.2 : Rat)).foldl (· + ·) 0
theorem wsum_eq {c : List Rat} {ws : List Int} {n : Nat} (hc : c.length = n) (hw : ws.length = n) (f : Nat → Rat) (hf : ∀ s, f s = ((ws.getD s 0 : Int) : Rat)) : Krdh.sum ((List.range n).map fun s => c.getD s 0 * f s) = wsum c ws := by
  unfold Krdh.sum wsum
  congr 1
  refine List.ext_getElem (by simp [hc, hw]) fun i h1 h2 => ?_
  simp only [List.length_map, List.length_range] at h1
  simp only [List.getElem_map, List.getElem_range, List.getElem_zip, hf]
  rw [List.getD_eq_getElem?_getD, List.getElem?_eq_getElem (by omega), List.getD_eq_getElem?_getD, List.getElem?_eq_getElem (by omega)]
  rfl
section
variable {t : Table} {g : Nat} {c : List Rat}
theorem len_so (cs : Cells) : (so cs).length = cs.length := List.length_map _
theorem len_oth (cs : Cells) : (oth cs).length = cs.length := List.length_map _
theorem len_siz (cs : Cells) : (siz cs).length = cs.length := List.length_map _
theorem len_gai (u v : Nat) (cs : Cells) : (gai u v cs).length = cs.length := List.length_map _
theorem gains_eq {p : Krdi.Pays} (h : (rowOf t g).length = t.k) (hc : c.length = t.k) : Krdi.gains t p g c = wsum c (gai p.gain p.loss (rowOf t g)) := by
  unfold Krdi.gains Table.scores
  exact wsum_eq hc (by rw [len_gai, h]) _ fun s => by rw [gain_at]
theorem picked_eq (h : (rowOf t g).length = t.k) (hc : c.length = t.k) : Krdi.picked t g c = wsum c (siz (rowOf t g)) / (((siz (rowOf t g)).sum : Int) : Rat) := by
  unfold Krdi.picked Table.scores
  rw [wsum_eq hc (by rw [len_siz, h]) _ fun s => (by rw [← size_at]; rfl), ← total_eq h]
  rfl
theorem right_eq (h : (rowOf t g).length = t.k) (hc : c.length = t.k) : Krdh.right t g c = wsum c (so (rowOf t g)) / (((so (rowOf t g)).sum : Int) : Rat) := by
  unfold Krdh.right Table.scores
  rw [wsum_eq hc (by rw [len_so, h]) _ fun s => (by rw [so_at, ← cell_eq]; rfl), ← yes_eq h]
  rfl
theorem wrong_eq (h : (rowOf t g).length = t.k) (hc : c.length = t.k) : Krdh.wrong t g c = wsum c (oth (rowOf t g)) / (((oth (rowOf t g)).sum : Int) : Rat) := by
  unfold Krdh.wrong Table.scores
  rw [wsum_eq hc (by rw [len_oth, h]) _ fun s => (by rw [oth_at, ← cell_eq]; rfl), ← no_eq h]
  rfl
end
/-! ## 5. Steps -/
/-- how many are chosen once none, one, two .. are -/
def stops (runs : List Int) : Int → List Nat → List Int
  | a, [] => [a]
  | a, s :: l => a :: stops runs (a + runs.getD s 0) l
def runSum (runs : List Int) (l : List Nat) : Int := (l.map fun s => runs.getD s 0).sum
theorem stops_snoc (runs : List Int) (s : Nat) : ∀ (l : List Nat) (a : Int), stops runs a (l ++ [s]) = stops runs a l ++ [a + runSum runs l + runs.getD s 0]
  | [], a => by simp [stops, runSum]
  | x :: l, a => by
    show a :: stops runs _ (l ++ [s]) = a :: (stops runs _ l ++ _)
    rw [stops_snoc runs s l]
    simp only [runSum, List.map_cons, List.sum_cons]
    congr 3
    omega
theorem stops_last (runs : List Int) : ∀ (l : List Nat) (a : Int), (stops runs a l).getLast? = some (a + runSum runs l)
  | [], a => by simp [stops, runSum]
  | x :: l, a => by
    show (a :: stops runs _ l).getLast? = _
    rw [List.getLast?_cons, stops_last runs l]
    simp only [runSum, List.map_cons, List.sum_cons, Option.getD_some]
    congr 1
    omega
theorem stops_len (runs : List Int) : ∀ (l : List Nat) (a : Int), (stops runs a l).length = l.length + 1
  | [], a => rfl
  | x :: l, a => by
    show (a :: stops runs _ l).length = _
    rw [List.length_cons, stops_len runs l]
    rfl
theorem steps_eq {m : Nat → Nat} {all : Nat} {runs : List Int} (hr : ∀ s, runs.getD s 0 = (m s : Int)) (l : List Nat) : Krdi.steps m all l = (stops runs 0 l).map fun z : Int => (z : Rat) / (all : Rat) := by
  have key : ∀ (l : List Nat) (a : Int) (acc : List Rat), (l.foldl (fun (a : Rat × List Rat) s => let x := a.1 + (m s : Rat) / (all : Rat)
      (x, a.2 ++ [x])) ((a : Rat) / (all : Rat), acc ++ [(a : Rat) / (all : Rat)])).2 = acc ++ (stops runs a l).map fun z : Int => (z : Rat) / (all : Rat) := by
    intro l
    induction l with
    | nil => intro a acc; rfl
    | cons s l ih =>
      intro a acc
      rw [List.foldl_cons]
      have e : (a : Rat) / (all : Rat) + (m s : Rat) / (all : Rat) = ((a + runs.getD s 0 : Int) : Rat) / (all : Rat) := by
        rw [hr s, Rat.intCast_add]
        have : (((m s : Nat) : Int) : Rat) = (m s : Rat) := rfl
        rw [this, Rat.div_def, Rat.div_def, Rat.div_def, Rat.add_mul]
      dsimp only
      rw [e, ih]
      show _ = acc ++ ((a : Rat) / (all : Rat) :: _)
      rw [List.append_assoc]
      rfl
  have h := key l 0 []
  unfold Krdi.steps
  have z : ((0 : Int) : Rat) / (all : Rat) = 0 := by rw [Rat.div_def]; exact Rat.zero_mul _
  rw [z] at h
  exact h
/-! ## 6. Lists in order -/
def SS (l : List Rat) : Prop := l.Pairwise (· < ·)
theorem lt_tr {a b c : Rat} (h1 : a < b) (h2 : b < c) : a < c := by grind
theorem mem_insertRat {x y : Rat} : ∀ {l : List Rat}, y ∈ Krdh.insertRat x l ↔ y = x ∨ y ∈ l
  | [] => by simp [Krdh.insertRat]
  | z :: l => by
    unfold Krdh.insertRat
    split
    · simp
    · split
      · rename_i e
        subst e
        simp
      · rw [List.mem_cons, mem_insertRat (l := l), List.mem_cons]
        grind
theorem ss_insertRat {x : Rat} : ∀ {l : List Rat}, SS l → SS (Krdh.insertRat x l)
  | [], _ => List.pairwise_singleton _ _
  | z :: l, h => by
    have h' := List.pairwise_cons.mp h
    unfold Krdh.insertRat
    split
    · rename_i c
      refine List.pairwise_cons.mpr ⟨fun b hb => ?_, h⟩
      rcases List.mem_cons.mp hb with rfl | hb
      · exact c
      · exact lt_tr c (h'.1 b hb)
    · split
      · exact h
      · rename_i c d
        refine List.pairwise_cons.mpr ⟨fun b hb => ?_, ss_insertRat h'.2⟩
        rcases mem_insertRat.mp hb with rfl | hb
        · grind
        · exact h'.1 b hb
theorem mem_sorted {y : Rat} : ∀ {l acc : List Rat}, y ∈ l.foldl (fun k x => Krdh.insertRat x k) acc ↔ y ∈ l ∨ y ∈ acc
  | [], acc => by simp
  | x :: l, acc => by
    rw [List.foldl_cons, mem_sorted (l := l), mem_insertRat, List.mem_cons]
    grind
theorem ss_sorted : ∀ {l acc : List Rat}, SS acc → SS (l.foldl (fun k x => Krdh.insertRat x k) acc)
  | [], _, h => h
  | x :: l, acc, h => by
    rw [List.foldl_cons]
    exact ss_sorted (l := l) (ss_insertRat h)
theorem ss_same : ∀ {l k : List Rat}, SS l → SS k → (∀ x, x ∈ l ↔ x ∈ k) → l = k
  | [], [], _, _, _ => rfl
  | [], y :: k, _, _, h => by
    have := (h y).mpr List.mem_cons_self
    cases this
  | x :: l, [], _, _, h => by
    have := (h x).mp List.mem_cons_self
    cases this
  | x :: l, y :: k, hl, hk, h => by
    have hl' := List.pairwise_cons.mp hl
    have hk' := List.pairwise_cons.mp hk
    have e : x = y := by
      have h1 := (h x).mp List.mem_cons_self
      have h2 := (h y).mpr List.mem_cons_self
      rcases List.mem_cons.mp h1 with h1 | h1
      · exact h1
      · rcases List.mem_cons.mp h2 with h2 | h2
        · exact h2.symm
        · have a := hk'.1 x h1
          have b := hl'.1 y h2
          grind
    subst e
    congr 1
    refine ss_same hl'.2 hk'.2 fun z => ?_
    constructor
    · intro hz
      have := (h z).mp (List.mem_cons_of_mem _ hz)
      rcases List.mem_cons.mp this with rfl | this
      · exact absurd (hl'.1 z hz) Rat.lt_irrefl
      · exact this
    · intro hz
      have := (h z).mpr (List.mem_cons_of_mem _ hz)
      rcases List.mem_cons.mp this with rfl | this
      · exact absurd (hk'.1 z hz) Rat.lt_irrefl
      · exact this
theorem sorted_congr {l k : List Rat} (h : ∀ x, x ∈ l ↔ x ∈ k) : Krdi.sorted l = Krdi.sorted k := by
  refine ss_same (ss_sorted List.Pairwise.nil) (ss_sorted List.Pairwise.nil) fun x => ?_
  unfold Krdi.sorted
  rw [mem_sorted, mem_sorted, h]
end My
namespace My
open Krdf (Table)
/-! ## 7. Marks -/
theorem mk_lt {z w : Int} {D : Nat} (hD : 0 < D) (h : z < w) : mkRat z D < mkRat w D := by
  have d0 : (0 : Rat) < (D : Rat) := Rat.natCast_pos.mpr hD
  rw [Rat.mkRat_eq_div, Rat.mkRat_eq_div, Rat.div_lt_iff d0, Rat.div_mul_cancel (Rat.ne_of_gt d0)]
  exact Rat.intCast_lt_intCast.mpr h
theorem mk_scale {z : Int} {A B : Nat} (hB : 0 < B) : mkRat (z * (B : Int)) (A * B) = (z : Rat) / (A : Rat) := by
  rw [Rat.mkRat_mul_right (by omega), Rat.mkRat_eq_div]
theorem marks_mk {S T zs : List Int} {A B : Nat} (hA : 0 < A) (hB : 0 < B) (h1 : zs.Pairwise (· < ·)) (h2 : ∀ z, z ∈ zs ↔ z ∈ (S.map fun s => s * (B : Int)) ++ (T.map fun s => s * (A : Int))) :
    zs.map (fun z => mkRat z (A * B)) = Krdi.sorted ((S.map fun s : Int => (s : Rat) / (A : Rat)) ++ (T.map fun s : Int => (s : Rat) / (B : Rat))) := by
  have hD : 0 < A * B := Nat.mul_pos hA hB
  refine ss_same ?_ (ss_sorted List.Pairwise.nil) fun x => ?_
  · unfold SS
    rw [List.pairwise_map]
    exact h1.imp fun h => mk_lt hD h
  · unfold Krdi.sorted
    rw [mem_sorted]
    simp only [List.mem_map, List.mem_append, List.not_mem_nil, or_false, h2]
    constructor
    · rintro ⟨z, (⟨s, hs, rfl⟩ | ⟨s, hs, rfl⟩), rfl⟩
      · exact .inl ⟨s, hs, (mk_scale hB).symm⟩
      · refine .inr ⟨s, hs, ?_⟩
        rw [Nat.mul_comm]
        exact (mk_scale hA).symm
    · rintro (⟨s, hs, rfl⟩ | ⟨s, hs, rfl⟩)
      · exact ⟨_, .inl ⟨s, hs, rfl⟩, mk_scale hB⟩
      · refine ⟨_, .inr ⟨s, hs, rfl⟩, ?_⟩
        rw [Nat.mul_comm]
        exact mk_scale hA
theorem head_stops (runs : List Int) (a : Int) : ∀ l : List Nat, a ∈ stops runs a l
  | [] => List.mem_cons_self
  | _ :: _ => List.mem_cons_self
theorem stops_some {runs : List Int} (h0 : ∀ s, 0 ≤ runs.getD s 0) (x : Int) : ∀ (l : List Nat) (a : Int), x ∈ stops runs a l ↔ x ∈ stops runs a (l.filter fun s => decide (0 < runs.getD s 0))
  | [], a => Iff.rfl
  | s :: l, a => by
    by_cases h : 0 < runs.getD s 0
    · rw [List.filter_cons, if_pos (decide_eq_true h)]
      unfold stops
      rw [List.mem_cons, List.mem_cons, stops_some h0 x l]
    · rw [List.filter_cons, if_neg (fun z => h (of_decide_eq_true z))]
      have e : runs.getD s 0 = 0 := by
        have := h0 s
        omega
      have e2 : stops runs a (s :: l) = a :: stops runs a l := by
        show a :: stops runs (a + runs.getD s 0) l = _
        rw [e, Int.add_zero]
      rw [e2, List.mem_cons, stops_some h0 x l]
      constructor
      · rintro (rfl | h)
        · exact head_stops _ _ _
        · exact h
      · exact .inr
theorem runSum_some {runs : List Int} (h0 : ∀ s, 0 ≤ runs.getD s 0) : ∀ l : List Nat, runSum runs (l.filter fun s => decide (0 < runs.getD s 0)) = runSum runs l
  | [] => rfl
  | s :: l => by
    have ih := runSum_some h0 l
    have hs := h0 s
    by_cases h : 0 < runs.getD s 0
    · rw [List.filter_cons, if_pos (decide_eq_true h)]
      unfold runSum at ih ⊢
      rw [List.map_cons, List.map_cons, List.sum_cons, List.sum_cons, ih]
    · rw [List.filter_cons, if_neg (fun z => h (of_decide_eq_true z)), ih]
      unfold runSum
      rw [List.map_cons, List.sum_cons]
      omega
theorem stops_ge {runs : List Int} (h0 : ∀ s, 0 ≤ runs.getD s 0) (x : Int) : ∀ (l : List Nat) (a : Int), x ∈ stops runs a l → a ≤ x ∧ x ≤ a + runSum runs l
  | [], a, h => by
    unfold stops at h
    have := List.mem_singleton.mp h
    subst this
    simp [runSum]
  | s :: l, a, h => by
    have hs := h0 s
    have hp : 0 ≤ runSum runs l := by
      unfold runSum
      have : ∀ k : List Nat, 0 ≤ (k.map fun s => runs.getD s 0).sum := by
        intro k
        induction k with
        | nil => simp
        | cons y k ih =>
          rw [List.map_cons, List.sum_cons]
          have := h0 y
          omega
      exact this l
    have e : runSum runs (s :: l) = runs.getD s 0 + runSum runs l := by
      unfold runSum
      rw [List.map_cons, List.sum_cons]
    rw [e]
    have h' : x = a ∨ x ∈ stops runs (a + runs.getD s 0) l := List.mem_cons.mp h
    rcases h' with rfl | h
    · omega
    · have := stops_ge h0 x l _ h
      omega
theorem perm_sum {l k : List Int} (h : l.Perm k) : l.sum = k.sum := by
  induction h with
  | nil => rfl
  | cons x _ ih => rw [List.sum_cons, List.sum_cons, ih]
  | swap x y l =>
    rw [List.sum_cons, List.sum_cons, List.sum_cons, List.sum_cons]
    omega
  | trans _ _ ih1 ih2 => exact ih1.trans ih2
/-- over an order a run adds up to all of it -/
theorem runSum_all {cs : Cells} {runs a b : List Int} (hl : runs.length = cs.length) (hz : ∀ s, cs.getD s (0, 0) = (0, 0) → runs.getD s 0 = 0) : runSum runs (steep cs a b) = runs.sum := by
  have h1 : runSum runs (steep cs a b) = runSum runs (anyIn cs) := perm_sum ((steep_perm cs a b).map _)
  rw [h1]
  have h2 : ∀ l : List Nat, runSum runs (l.filter fun s => decide (cs.getD s (0, 0) ≠ (0, 0))) = runSum runs l := by
    intro l
    induction l with
    | nil => rfl
    | cons s l ih =>
      by_cases h : cs.getD s (0, 0) ≠ (0, 0)
      · rw [List.filter_cons, if_pos (decide_eq_true h)]
        unfold runSum at ih ⊢
        rw [List.map_cons, List.map_cons, List.sum_cons, List.sum_cons, ih]
      · rw [List.filter_cons, if_neg (fun z => h (of_decide_eq_true z)), ih]
        have := hz s (Decidable.not_not.mp h)
        unfold runSum
        rw [List.map_cons, List.sum_cons]
        omega
  unfold anyIn
  rw [h2]
  unfold runSum
  rw [← hl, range_map (fun z : Int => z) runs 0, List.map_id']
/-! ## 8. The best -/
theorem ss_head {l : List Rat} {a : Rat} (h : SS l) (ha : a ∈ l) (hl : ∀ x ∈ l, a ≤ x) : l.head? = some a := by
  cases l with
  | nil => cases ha
  | cons y l =>
    have h' := List.pairwise_cons.mp h
    rcases List.mem_cons.mp ha with rfl | ha
    · rfl
    · have h1 := h'.1 a ha
      have h2 := hl y List.mem_cons_self
      exact absurd h1 (Rat.not_lt.mpr h2)
def weave (f : Rat → Rat → List Rat) : List Rat → List Rat
  | [] => []
  | [p] => [p]
  | p :: q :: l => p :: (f p q ++ weave f (q :: l))
def Mid (f : Rat → Rat → List Rat) : Prop := ∀ p q, p < q → f p q = [] ∨ ∃ c, f p q = [c] ∧ p < c ∧ c < q
theorem weave_ss {f : Rat → Rat → List Rat} (hf : Mid f) : ∀ (l : List Rat), SS l → SS (weave f l) ∧ ∀ x ∈ weave f l, ∀ y, l.head? = some y → y ≤ x
  | [], _ => ⟨List.Pairwise.nil, fun x h => by cases h⟩
  | [p], _ => ⟨List.pairwise_singleton _ _, fun x h y hy => by
      have := List.mem_singleton.mp h
      subst this
      cases hy
      exact Rat.le_refl⟩
  | p :: q :: l, h => by
    have h' := List.pairwise_cons.mp h
    have ih := weave_ss hf (q :: l) h'.2
    have pq : p < q := h'.1 q List.mem_cons_self
    have big : ∀ x ∈ weave f (q :: l), q ≤ x := fun x hx => ih.2 x hx q rfl
    unfold weave
    rcases hf p q pq with e | ⟨c, e, c1, c2⟩
    · rw [e, List.nil_append]
      refine ⟨List.pairwise_cons.mpr ⟨fun x hx => ?_, ih.1⟩, fun x hx y hy => ?_⟩
      · have := big x hx
        grind
      · cases hy
        rcases List.mem_cons.mp hx with rfl | hx
        · exact Rat.le_refl
        · have := big x hx
          grind
    · rw [e]
      refine ⟨List.pairwise_cons.mpr ⟨fun x hx => ?_, List.pairwise_cons.mpr ⟨fun x hx => ?_, ih.1⟩⟩, fun x hx y hy => ?_⟩
      · rcases List.mem_cons.mp hx with rfl | hx
        · exact c1
        · have := big x hx
          grind
      · have := big x hx
        grind
      · cases hy
        rcases List.mem_cons.mp hx with rfl | hx
        · exact Rat.le_refl
        · rcases List.mem_cons.mp hx with rfl | hx
          · grind
          · have := big x hx
            grind
theorem mem_weave {f : Rat → Rat → List Rat} {x : Rat} : ∀ {l : List Rat}, x ∈ weave f l ↔ x ∈ l ∨ x ∈ (List.zip l l.tail).flatMap fun y => f y.1 y.2
  | [] => by simp [weave]
  | [p] => by simp [weave]
  | p :: q :: l => by
    unfold weave
    rw [List.mem_cons, List.mem_append, mem_weave (l := q :: l)]
    have e : List.zip (p :: q :: l) (p :: q :: l).tail = (p, q) :: List.zip (q :: l) (q :: l).tail := rfl
    rw [e, List.flatMap_cons, List.mem_append, List.mem_cons (a := x) (b := p)]
    grind
theorem candidates_eq {t : Table} (hf : Mid (Krdh.crossing t)) : Krdh.candidates t = weave (Krdh.crossing t) (Krdh.marks t) := by
  have hm : SS (Krdh.marks t) := ss_sorted List.Pairwise.nil
  unfold Krdh.candidates
  dsimp only
  refine ss_same (ss_sorted hm) (weave_ss hf _ hm).1 fun x => ?_
  rw [mem_sorted, mem_weave, or_comm]
theorem signs {a b : Rat} (h : a * b < 0) : (0 < a ∧ b < 0) ∨ (a < 0 ∧ 0 < b) := by
  by_cases ha : 0 < a
  · exact .inl ⟨ha, (Rat.mul_neg_iff_of_pos_left ha).mp h⟩
  · by_cases hb : 0 < b
    · exact .inr ⟨(Rat.mul_neg_iff_of_pos_right hb).mp h, hb⟩
    · exfalso
      have h1 : 0 ≤ -a := by grind
      have h2 : 0 ≤ -b := by grind
      have := Rat.mul_nonneg h1 h2
      grind
theorem share_mid {a b : Rat} (h : a * b < 0) : 0 < a / (a - b) ∧ a / (a - b) < 1 := by
  rcases signs h with ⟨ha, hb⟩ | ⟨ha, hb⟩
  · have d : 0 < a - b := by grind
    rw [Rat.lt_div_iff d, Rat.div_lt_iff d]
    grind
  · have d : 0 < b - a := by grind
    have e : a / (a - b) = (-a) / (b - a) := by
      have h1 : b - a ≠ 0 := Rat.ne_of_gt d
      have h2 : a - b ≠ 0 := by grind
      grind
    rw [e, Rat.lt_div_iff d, Rat.div_lt_iff d]
    grind
theorem cross_between {p q a b : Rat} (h : a * b < 0) (pq : p < q) : p < p + (q - p) * a / (a - b) ∧ p + (q - p) * a / (a - b) < q := by
  have ⟨h1, h2⟩ := share_mid h
  have e : (q - p) * a / (a - b) = (q - p) * (a / (a - b)) := by
    rw [Rat.div_def, Rat.div_def, Rat.mul_assoc]
  have d : 0 < q - p := by grind
  rw [e]
  have h3 := Rat.mul_pos d h1
  have h4 := Rat.mul_pos d (show 0 < 1 - a / (a - b) by grind)
  constructor
  · grind
  · grind
/-- where both cross, told without signs -/
theorem cross_form {p q a b : Rat} (h : a * b < 0) : p + a.abs / (a.abs + b.abs) * (q - p) = p + (q - p) * a / (a - b) := by
  have e : (q - p) * a / (a - b) = a / (a - b) * (q - p) := by
    rw [Rat.div_def, Rat.div_def, Rat.mul_comm (q - p) a, Rat.mul_assoc, Rat.mul_assoc, Rat.mul_comm (q - p)]
  rw [e]
  rcases signs h with ⟨ha, hb⟩ | ⟨ha, hb⟩
  · rw [Rat.abs_of_nonneg (Rat.le_of_lt ha), Rat.abs_of_nonpos (Rat.le_of_lt hb), ← Rat.sub_eq_add_neg]
  · rw [Rat.abs_of_nonpos (Rat.le_of_lt ha), Rat.abs_of_nonneg (Rat.le_of_lt hb)]
    have h1 : -a + b ≠ 0 := by grind
    have h2 : a - b ≠ 0 := by grind
    have e2 : -a / (-a + b) = a / (a - b) := by grind
    rw [e2]
theorem cross_mid (t : Table) : Mid (Krdh.crossing t) := by
  intro p q h
  unfold Krdh.crossing
  dsimp only
  generalize Krdh.upper t 0 p - Krdh.upper t 1 p = a
  generalize Krdh.upper t 0 q - Krdh.upper t 1 q = b
  split
  · rename_i hab
    exact .inr ⟨_, rfl, cross_between hab h⟩
  · exact .inl rfl
theorem best_eq (t : Table) (u v : Nat) : Krdh.best t u v = (Krdi.bestOf (Krdh.candidates t) (fun x => Krdh.worth t u v x (Krdh.least t x)), Krdh.least t (Krdi.bestOf (Krdh.candidates t) (fun x => Krdh.worth t u v x (Krdh.least t x)))) := by
  unfold Krdh.best Krdi.bestOf
  have key : ∀ (l : List Rat) (b : Rat), l.foldl (fun (b : Rat × Rat) x => if Krdh.worth t u v b.1 b.2 < Krdh.worth t u v x (Krdh.least t x) then (x, Krdh.least t x) else b) (b, Krdh.least t b) =
      (l.foldl (fun b x => if Krdh.worth t u v b (Krdh.least t b) < Krdh.worth t u v x (Krdh.least t x) then x else b) b, Krdh.least t (l.foldl (fun b x => if Krdh.worth t u v b (Krdh.least t b) < Krdh.worth t u v x (Krdh.least t x) then x else b) b)) := by
    intro l
    induction l with
    | nil => intro b; rfl
    | cons x l ih =>
      intro b
      rw [List.foldl_cons, List.foldl_cons]
      dsimp only
      split
      · exact ih x
      · exact ih b
  exact key _ 0
end My
namespace My
open Krdf (Table)
/-! ## 9. Where a score is put in -/
def ipos (f : Nat → Nat → Bool) (x : Nat) : List Nat → Nat
  | [] => 0
  | y :: l => if f x y then 0 else ipos f x l + 1
theorem ipos_le {f : Nat → Nat → Bool} {x : Nat} : ∀ l : List Nat, ipos f x l ≤ l.length
  | [] => Nat.le_refl _
  | y :: l => by
    unfold ipos
    have := ipos_le (f := f) (x := x) l
    split
    · exact Nat.zero_le _
    · rw [List.length_cons]
      omega
theorem ipos_before {f : Nat → Nat → Bool} {x : Nat} : ∀ {l : List Nat} {i y : Nat}, l[i]? = some y → i < ipos f x l → f x y = false
  | [], i, y, h, _ => by simp at h
  | z :: l, 0, y, h, hi => by
    have e : z = y := Option.some.inj h
    subst e
    unfold ipos at hi
    split at hi
    · omega
    · rename_i c
      exact Bool.eq_false_iff.mpr c
  | z :: l, i + 1, y, h, hi => by
    unfold ipos at hi
    split at hi
    · omega
    · exact ipos_before (l := l) (i := i) h (by omega)
theorem ipos_at {f : Nat → Nat → Bool} {x : Nat} : ∀ {l : List Nat} {y : Nat}, l[ipos f x l]? = some y → f x y = true
  | [], y, h => by simp at h
  | z :: l, y, h => by
    unfold ipos at h
    split at h
    · rename_i c
      have e : z = y := Option.some.inj h
      subst e
      exact c
    · exact ipos_at (l := l) h
theorem insert_ipos {f : Nat → Nat → Bool} {x : Nat} : ∀ l : List Nat, Krdh.insert f x l = l.take (ipos f x l) ++ [x] ++ l.drop (ipos f x l)
  | [] => rfl
  | y :: l => by
    unfold Krdh.insert ipos
    split
    · rfl
    · rw [insert_ipos l]
      rfl
/-- the order of the scores below i -/
def steepTo (cs : Cells) (runs rises : List Int) (i : Nat) : List Nat := ((List.range i).filter fun s => decide (cs.getD s (0, 0) ≠ (0, 0))).foldl (fun l s => Krdh.insert (ahead runs rises) s l) []
theorem steepTo_all (cs : Cells) (runs rises : List Int) : steepTo cs runs rises cs.length = steep cs runs rises := rfl
theorem steepTo_in {cs : Cells} {runs rises : List Int} {i : Nat} (h : cs.getD i (0, 0) ≠ (0, 0)) : steepTo cs runs rises (i + 1) = Krdh.insert (ahead runs rises) i (steepTo cs runs rises i) := by
  unfold steepTo
  rw [List.range_succ, List.filter_append, List.foldl_append, List.filter_cons, if_pos (decide_eq_true h)]
  rfl
theorem steepTo_out {cs : Cells} {runs rises : List Int} {i : Nat} (h : ¬ cs.getD i (0, 0) ≠ (0, 0)) : steepTo cs runs rises (i + 1) = steepTo cs runs rises i := by
  unfold steepTo
  rw [List.range_succ, List.filter_append, List.foldl_append, List.filter_cons, if_neg (fun z => h (of_decide_eq_true z))]
  rfl
theorem steepTo_mem {cs : Cells} {runs rises : List Int} {i y : Nat} (h : y ∈ steepTo cs runs rises i) : y < i := by
  have p := fold_perm (ahead runs rises) ((List.range i).filter fun s => decide (cs.getD s (0, 0) ≠ (0, 0))) []
  rw [List.append_nil] at p
  have := p.mem_iff.mp h
  exact List.mem_range.mp (List.mem_filter.mp this).1
theorem steepTo_len {cs : Cells} {runs rises : List Int} {i : Nat} : (steepTo cs runs rises i).length ≤ i := by
  have p := fold_perm (ahead runs rises) ((List.range i).filter fun s => decide (cs.getD s (0, 0) ≠ (0, 0))) []
  rw [List.append_nil] at p
  have e := p.length_eq
  have := List.length_filter_le (fun s => decide (cs.getD s (0, 0) ≠ (0, 0))) (List.range i)
  rw [List.length_range] at this
  unfold steepTo
  omega
/-! ## 10. By kinds -/
def runK (kind : Nat) (cs : Cells) : List Int := if kind = 1 then siz cs else if kind = 2 then so cs else oth cs
def ordK (kind u v : Nat) (cs : Cells) : List Nat := if kind = 1 then steep cs (siz cs) (gai u v cs) else if kind = 2 then (steep cs (oth cs) (so cs)).filter fun s => decide (0 < (so cs).getD s 0) else steep cs (oth cs) (so cs)
def zeros (n : Nat) : List Rat := List.replicate n 0
def chK (kind u v : Nat) (cs : Cells) (x : Rat) : List Rat := tk (runK kind cs) (ordK kind u v cs) (x * (((runK kind cs).sum : Int) : Rat)) (zeros cs.length)
def stK (kind u v : Nat) (cs : Cells) : List Int := stops (runK kind cs) 0 (ordK kind u v cs)
theorem len_runK (kind : Nat) (cs : Cells) : (runK kind cs).length = cs.length := by
  unfold runK
  split
  · exact len_siz cs
  · split
    · exact len_so cs
    · exact len_oth cs
theorem mem_ordK {kind u v : Nat} {cs : Cells} {s : Nat} (h : s ∈ ordK kind u v cs) : s < cs.length := by
  unfold ordK at h
  split at h
  · exact (mem_steep.mp h).1
  · split at h
    · exact (mem_steep.mp (List.mem_filter.mp h).1).1
    · exact (mem_steep.mp h).1
theorem ordK_nodup {kind u v : Nat} {cs : Cells} : (ordK kind u v cs).Nodup := by
  unfold ordK
  split
  · exact steep_nodup _ _ _
  · split
    · exact (steep_nodup _ _ _).filter _
    · exact steep_nodup _ _ _
theorem steep_len {cs : Cells} {runs rises : List Int} : (steep cs runs rises).length ≤ cs.length := by
  rw [← steepTo_all]
  exact steepTo_len
theorem ordK_len {kind u v : Nat} {cs : Cells} : (ordK kind u v cs).length ≤ cs.length := by
  unfold ordK
  split
  · exact steep_len
  · split
    · exact Nat.le_trans (List.length_filter_le _ _) steep_len
    · exact steep_len
end My
namespace My
open Krdf (Table)
/-! ## 11. How great the chances' numbers are -/
theorem tk_sz {runs : List Int} {N : Nat} (h0 : 0 < N) (hr : ∀ s, (runs.getD s 0).natAbs < 2 ^ 20) : ∀ (l : List Nat) (x : Rat) (c : List Rat) (m : Nat), (∀ q ∈ c, Sz N q) → Sz m x → 0 ≤ x → m + 21 * l.length + 20 ≤ N → ∀ q ∈ tk runs l x c, Sz N q
  | [], _, _, _, hc, _, _, _ => hc
  | s :: l, x, c, m, hc, hx, hx0, hN => by
    have hrs : Sz 20 ((runs.getD s 0 : Int) : Rat) := Sz.int (hr s) (by decide)
    rw [List.length_cons] at hN
    unfold tk
    split
    · rename_i hlt
      intro q hq
      rcases List.mem_or_eq_of_mem_set hq with h | rfl
      · exact hc q h
      · have pos : (0 : Rat) < ((runs.getD s 0 : Int) : Rat) := by grind
        exact (hx.div hrs pos).mono (by omega)
    · rename_i hlt
      refine tk_sz h0 hr l _ _ (m + 20 + 1) ?_ (hx.sub hrs) (by grind) (by omega)
      intro q hq
      rcases List.mem_or_eq_of_mem_set hq with h | rfl
      · exact hc q h
      · exact Sz.one h0
theorem tk_len {runs : List Int} : ∀ (l : List Nat) (x : Rat) (c : List Rat), (tk runs l x c).length = c.length
  | [], _, _ => rfl
  | s :: l, x, c => by
    unfold tk
    split
    · rw [List.length_set]
    · rw [tk_len l, List.length_set]
theorem zeros_at (n s : Nat) : (zeros n).getD s 0 = 0 := by
  unfold zeros
  rw [List.getD_eq_getElem?_getD, List.getElem?_replicate]
  split <;> rfl
theorem none_zeros {t : Table} {n : Nat} (h : n = t.k) : Krdh.none_ t = zeros n := by
  unfold Krdh.none_ Table.scores zeros
  subst h
  refine List.ext_getElem (by simp) fun i h1 h2 => ?_
  simp
end My
namespace My
open Krdf (Table)
/-! ## 12. The marks of a kind -/
theorem run_zero {kind : Nat} {cs : Cells} {s : Nat} (h : cs.getD s (0, 0) = (0, 0)) : (runK kind cs).getD s 0 = 0 := by
  unfold runK
  split
  · rw [siz_at, h]; rfl
  · split
    · rw [so_at, h]; rfl
    · rw [oth_at, h]; rfl
theorem run_nn {kind : Nat} {cs : Cells} (s : Nat) : 0 ≤ (runK kind cs).getD s 0 := by
  unfold runK
  split
  · rw [siz_at]; omega
  · split
    · rw [so_at]; omega
    · rw [oth_at]; omega
theorem ord_sum {kind u v : Nat} {cs : Cells} : runSum (runK kind cs) (ordK kind u v cs) = (runK kind cs).sum := by
  unfold ordK
  split
  · exact runSum_all (len_runK _ _) fun s h => run_zero h
  · split
    · rename_i h1 h2
      have e : runK kind cs = so cs := by
        unfold runK
        rw [if_neg h1, if_pos h2]
      rw [e, runSum_some (runs := so cs) (fun s => by rw [so_at]; omega)]
      exact runSum_all (len_so cs) fun s h => by rw [so_at, h]; rfl
    · exact runSum_all (len_runK _ _) fun s h => run_zero h
theorem stK_last (kind u v : Nat) (cs : Cells) : (stK kind u v cs).getLast? = some (runK kind cs).sum := by
  unfold stK
  rw [stops_last, ord_sum, Int.zero_add]
theorem stK_in {kind u v : Nat} {cs : Cells} {z : Int} (h : z ∈ stK kind u v cs) : 0 ≤ z ∧ z ≤ (runK kind cs).sum := by
  have := stops_ge (fun s => run_nn s) z _ _ h
  rw [ord_sum] at this
  omega
theorem stK_zero (kind u v : Nat) (cs : Cells) : 0 ∈ stK kind u v cs := head_stops _ _ _
theorem stK_len {kind u v : Nat} {cs : Cells} : (stK kind u v cs).length ≤ cs.length + 1 := by
  unfold stK
  rw [stops_len]
  have := ordK_len (kind := kind) (u := u) (v := v) (cs := cs)
  omega
def tot (kind : Nat) (cs : Cells) : Nat := (runK kind cs).sum.toNat
def parts (kind u v : Nat) (cs : Cells) : List Rat := (stK kind u v cs).map fun s : Int => (s : Rat) / (tot kind cs : Rat)
def markK (kind u v : Nat) (c0 c1 : Cells) : List Rat := Krdi.sorted (parts kind u v c0 ++ parts kind u v c1)
theorem markK_ss {kind u v : Nat} {c0 c1 : Cells} : SS (markK kind u v c0 c1) := ss_sorted List.Pairwise.nil
theorem mem_markK {kind u v : Nat} {c0 c1 : Cells} {x : Rat} : x ∈ markK kind u v c0 c1 ↔ x ∈ parts kind u v c0 ∨ x ∈ parts kind u v c1 := by
  unfold markK Krdi.sorted
  rw [mem_sorted]
  simp
theorem part_in {kind u v : Nat} {cs : Cells} {x : Rat} (h : x ∈ parts kind u v cs) (h0 : 0 < (runK kind cs).sum) : 0 ≤ x ∧ x ≤ 1 := by
  unfold parts at h
  obtain ⟨z, hz, rfl⟩ := List.mem_map.mp h
  have ⟨h1, h2⟩ := stK_in hz
  have e : ((tot kind cs : Nat) : Int) = (runK kind cs).sum := by
    unfold tot
    omega
  have t0 : (0 : Rat) < (tot kind cs : Rat) := Rat.natCast_pos.mpr (by omega)
  have a1 : (0 : Rat) ≤ (z : Rat) := Rat.intCast_nonneg.mpr h1
  have a2 : (z : Rat) ≤ (tot kind cs : Rat) := by
    have : (z : Rat) ≤ (((tot kind cs : Nat) : Int) : Rat) := Rat.intCast_le_intCast.mpr (by omega)
    exact this
  have inv : 0 < (tot kind cs : Rat)⁻¹ := Rat.inv_pos.mpr t0
  constructor
  · rw [Rat.div_def]
    exact Rat.mul_nonneg a1 (Rat.le_of_lt inv)
  · have b := Rat.mul_le_mul_of_nonneg_right a2 (Rat.le_of_lt inv)
    rw [Rat.mul_inv_cancel _ (Rat.ne_of_gt t0)] at b
    rw [Rat.div_def]
    exact b
theorem mark_in {kind u v : Nat} {c0 c1 : Cells} {x : Rat} (h : x ∈ markK kind u v c0 c1) (h0 : 0 < (runK kind c0).sum) (h1 : 0 < (runK kind c1).sum) : 0 ≤ x ∧ x ≤ 1 := by
  rcases mem_markK.mp h with h | h
  · exact part_in h h0
  · exact part_in h h1
theorem mark_head {kind u v : Nat} {c0 c1 : Cells} (h0 : 0 < (runK kind c0).sum) (h1 : 0 < (runK kind c1).sum) : (markK kind u v c0 c1).head? = some 0 := by
  refine ss_head markK_ss ?_ fun x hx => (mark_in hx h0 h1).1
  rw [mem_markK]
  refine .inl ?_
  unfold parts
  refine List.mem_map.mpr ⟨0, stK_zero _ _ _ _, ?_⟩
  rw [Rat.div_def]
  exact Rat.zero_mul _
theorem part_sz {kind u v : Nat} {cs : Cells} {x : Rat} (h : x ∈ parts kind u v cs) (h0 : 0 < (runK kind cs).sum) (h1 : (runK kind cs).sum ≤ 792) : Sz 10 x := by
  unfold parts at h
  obtain ⟨z, hz, rfl⟩ := List.mem_map.mp h
  have ⟨a1, a2⟩ := stK_in hz
  have e : ((tot kind cs : Nat) : Int) = (runK kind cs).sum := by
    unfold tot
    omega
  rw [← Rat.mkRat_eq_div]
  exact Sz.mk_ (by omega) (by omega) (by omega)
theorem mark_sz {kind u v : Nat} {c0 c1 : Cells} {x : Rat} (h : x ∈ markK kind u v c0 c1) (h0 : 0 < (runK kind c0).sum) (h1 : 0 < (runK kind c1).sum) (b0 : (runK kind c0).sum ≤ 792) (b1 : (runK kind c1).sum ≤ 792) : Sz 10 x := by
  rcases mem_markK.mp h with h | h
  · exact part_sz h h0 b0
  · exact part_sz h h1 b1
theorem markK_made {kind u v : Nat} {c0 c1 : Cells} {zs : List Int} (h0 : 0 < (runK kind c0).sum) (h1 : 0 < (runK kind c1).sum) (ss : zs.Pairwise (· < ·))
    (mem : ∀ z, z ∈ zs ↔ z ∈ ((stK kind u v c0).map fun s => s * (runK kind c1).sum) ++ ((stK kind u v c1).map fun s => s * (runK kind c0).sum)) : zs.map (fun z => mkRat z (tot kind c0 * tot kind c1)) = markK kind u v c0 c1 := by
  have e0 : ((tot kind c0 : Nat) : Int) = (runK kind c0).sum := by
    unfold tot
    omega
  have e1 : ((tot kind c1 : Nat) : Int) = (runK kind c1).sum := by
    unfold tot
    omega
  refine marks_mk (by omega) (by omega) ss ?_
  rw [e0, e1]
  exact mem
end My
namespace My
open Krdf (Table)
/-! ## 13. Lower numbers -/
/-- so many times it is a whole number -/
def Dn (D : Nat) (q : Rat) : Prop := ∃ z : Int, q * (D : Rat) = (z : Rat)
theorem Dn.add {D : Nat} {p q : Rat} (hp : Dn D p) (hq : Dn D q) : Dn D (p + q) := by
  obtain ⟨a, ha⟩ := hp
  obtain ⟨b, hb⟩ := hq
  exact ⟨a + b, by rw [Rat.add_mul, ha, hb, Rat.intCast_add]⟩
theorem Dn.sub {D : Nat} {p q : Rat} (hp : Dn D p) (hq : Dn D q) : Dn D (p - q) := by
  obtain ⟨a, ha⟩ := hp
  obtain ⟨b, hb⟩ := hq
  exact ⟨a - b, by rw [Rat.intCast_sub, ← ha, ← hb]; grind⟩
theorem Dn.times {D : Nat} {p : Rat} (hp : Dn D p) (z : Int) : Dn D (p * (z : Rat)) := by
  obtain ⟨a, ha⟩ := hp
  refine ⟨a * z, ?_⟩
  rw [Rat.intCast_mul, ← ha]
  grind
theorem Dn.int {D : Nat} (z : Int) : Dn D (z : Rat) := ⟨z * (D : Int), by rw [Rat.intCast_mul]; rfl⟩
theorem Dn.zero {D : Nat} : Dn D 0 := Dn.int 0
theorem Dn.one {D : Nat} : Dn D 1 := Dn.int 1
theorem Dn.more {D : Nat} {p : Rat} (hp : Dn D p) (E : Nat) : Dn (D * E) p := by
  obtain ⟨a, ha⟩ := hp
  refine ⟨a * (E : Int), ?_⟩
  rw [Rat.intCast_mul, ← ha, Rat.natCast_mul]
  have : (((E : Nat) : Int) : Rat) = (E : Rat) := rfl
  rw [this]
  grind
theorem Dn.mul {D E : Nat} {p q : Rat} (hp : Dn D p) (hq : Dn E q) : Dn (D * E) (p * q) := by
  obtain ⟨a, ha⟩ := hp
  obtain ⟨b, hb⟩ := hq
  refine ⟨a * b, ?_⟩
  rw [Rat.intCast_mul, ← ha, ← hb, Rat.natCast_mul]
  grind
theorem Dn.self (q : Rat) : Dn q.den q := by
  refine ⟨q.num, ?_⟩
  have h : q = (q.num : Rat) / (q.den : Rat) := by
    rw [← Rat.mkRat_eq_div, Rat.mkRat_self]
  have d0 : (0 : Rat) < (q.den : Rat) := Rat.natCast_pos.mpr q.den_pos
  have e : (q.num : Rat) / (q.den : Rat) * (q.den : Rat) = (q.num : Rat) := Rat.div_mul_cancel (Rat.ne_of_gt d0)
  rw [← h] at e
  exact e
theorem Dn.le {D : Nat} {q : Rat} (h : Dn D q) (hD : 0 < D) : q.den ≤ D := by
  obtain ⟨z, h⟩ := h
  exact den_le_of hD h
/-- divided by a number that goes into E -/
theorem Dn.over {D E : Nat} {p : Rat} {r : Nat} (hp : Dn D p) (hr : 0 < r) (hE : r ∣ E) : Dn (D * E) (p / (r : Rat)) := by
  obtain ⟨a, ha⟩ := hp
  obtain ⟨e, rfl⟩ := hE
  have r0 : (r : Rat) ≠ 0 := Rat.ne_of_gt (Rat.natCast_pos.mpr hr)
  refine ⟨a * (e : Int), ?_⟩
  rw [Rat.intCast_mul, ← ha, Rat.natCast_mul, Rat.natCast_mul]
  have : (((e : Nat) : Int) : Rat) = (e : Rat) := rfl
  rw [this]
  grind
theorem Sz.of_unit {D n : Nat} {q : Rat} (h : Dn D q) (hD : 0 < D) (h0 : 0 ≤ q) (h1 : q ≤ 1) (hn : D < 2 ^ n) : Sz n q := by
  have d := h.le hD
  have e := num_le_of (B := 1) h0 (by exact h1)
  exact ⟨by omega, by omega⟩
/-! chances lie between 0 and 1 -/
def Un (q : Rat) : Prop := 0 ≤ q ∧ q ≤ 1
theorem tk_un {runs : List Int} : ∀ (l : List Nat) (x : Rat) (c : List Rat), (∀ q ∈ c, Un q) → 0 ≤ x → ∀ q ∈ tk runs l x c, Un q
  | [], _, _, hc, _ => hc
  | s :: l, x, c, hc, hx => by
    unfold tk
    split
    · rename_i hlt
      intro q hq
      rcases List.mem_or_eq_of_mem_set hq with h | rfl
      · exact hc q h
      · have pos : (0 : Rat) < ((runs.getD s 0 : Int) : Rat) := by grind
        have inv := Rat.inv_pos.mpr pos
        refine ⟨?_, Rat.le_of_lt ?_⟩
        · rw [Rat.div_def]
          exact Rat.mul_nonneg hx (Rat.le_of_lt inv)
        · rw [Rat.div_lt_iff pos, Rat.one_mul]
          exact hlt
    · rename_i hlt
      refine tk_un l _ _ ?_ (by grind)
      intro q hq
      rcases List.mem_or_eq_of_mem_set hq with h | rfl
      · exact hc q h
      · exact ⟨by decide, by decide⟩
theorem tk_dn {runs : List Int} {D E : Nat} (hE : ∀ s, 0 < runs.getD s 0 → (runs.getD s 0).toNat ∣ E) : ∀ (l : List Nat) (x : Rat) (c : List Rat), (∀ q ∈ c, Dn (D * E) q) → 0 ≤ x → Dn D x → ∀ q ∈ tk runs l x c, Dn (D * E) q
  | [], _, _, hc, _, _ => hc
  | s :: l, x, c, hc, hx, hd => by
    unfold tk
    split
    · rename_i hlt
      intro q hq
      rcases List.mem_or_eq_of_mem_set hq with h | rfl
      · exact hc q h
      · have pos : (0 : Rat) < ((runs.getD s 0 : Int) : Rat) := by grind
        have p2 : 0 < runs.getD s 0 := Rat.intCast_pos.mp pos
        have e : ((runs.getD s 0 : Int) : Rat) = (((runs.getD s 0).toNat : Nat) : Rat) := by
          have : (((runs.getD s 0).toNat : Nat) : Int) = runs.getD s 0 := Int.toNat_of_nonneg (Int.le_of_lt p2)
          conv => lhs; rw [← this]
          rfl
        rw [e]
        exact hd.over (by omega) (hE s p2)
    · rename_i hlt
      refine tk_dn hE l _ _ ?_ (by grind) (hd.sub (Dn.int _))
      intro q hq
      rcases List.mem_or_eq_of_mem_set hq with h | rfl
      · exact hc q h
      · exact Dn.one
theorem mem_zeros {n : Nat} {q : Rat} (h : q ∈ zeros n) : q = 0 := List.eq_of_mem_replicate h
theorem foldl_dn {D : Nat} : ∀ (l : List Rat) (a : Rat), Dn D a → (∀ q ∈ l, Dn D q) → Dn D (l.foldl (· + ·) a)
  | [], _, h, _ => h
  | x :: l, a, h, hl => by
    rw [List.foldl_cons]
    exact foldl_dn l _ (h.add (hl x List.mem_cons_self)) fun q hq => hl q (List.mem_cons_of_mem _ hq)
theorem wsum_dn {D : Nat} {c : List Rat} {ws : List Int} (h : ∀ q ∈ c, Dn D q) : Dn D (wsum c ws) := by
  unfold wsum
  refine foldl_dn _ _ Dn.zero fun q hq => ?_
  obtain ⟨p, hp, rfl⟩ := List.mem_map.mp hq
  exact (h p.1 (List.of_mem_zip hp).1).times p.2
theorem foldl_le : ∀ (l : List (Rat × Int)) (a : Rat) (b : Int), 0 ≤ a → a ≤ (b : Rat) → (∀ p ∈ l, Un p.1 ∧ 0 ≤ p.2) → 0 ≤ (l.map fun p => p.1 * (p.2 : Rat)).foldl (· + ·) a ∧ (l.map fun p => p.1 * (p.2 : Rat)).foldl (· + ·) a ≤ ((b + (l.map fun p => p.2).sum : Int) : Rat)
  | [], a, b, h0, h1, _ => by
    refine ⟨h0, ?_⟩
    simpa using h1
  | p :: l, a, b, h0, h1, hl => by
    rw [List.map_cons, List.foldl_cons, List.map_cons, List.sum_cons]
    have ⟨u, z⟩ := hl p List.mem_cons_self
    have z' : (0 : Rat) ≤ (p.2 : Rat) := Rat.intCast_nonneg.mpr z
    have m0 : 0 ≤ p.1 * (p.2 : Rat) := Rat.mul_nonneg u.1 z'
    have m1 : p.1 * (p.2 : Rat) ≤ 1 * (p.2 : Rat) := Rat.mul_le_mul_of_nonneg_right u.2 z'
    rw [Rat.one_mul] at m1
    have := foldl_le l (a + p.1 * (p.2 : Rat)) (b + p.2) (Rat.add_nonneg h0 m0) (by rw [Rat.intCast_add]; grind) fun q hq => hl q (List.mem_cons_of_mem _ hq)
    rw [← Int.add_assoc]
    exact this
theorem wsum_in {c : List Rat} {ws : List Int} (hc : ∀ q ∈ c, Un q) (hw : ∀ z ∈ ws, 0 ≤ z) (hl : c.length = ws.length) : 0 ≤ wsum c ws ∧ wsum c ws ≤ ((ws.sum : Int) : Rat) := by
  have h := foldl_le (c.zip ws) 0 0 (by decide) (by decide) fun p hp => ⟨hc p.1 (List.of_mem_zip hp).1, hw p.2 (List.of_mem_zip hp).2⟩
  rw [Int.zero_add] at h
  have e : ((c.zip ws).map fun p => p.2) = ws := List.map_snd_zip (by omega)
  rw [e] at h
  exact h
/-- a number that each of them goes into -/
def goes (l : List Int) : Nat := l.foldr (fun z a => (if 0 < z then z.toNat else 1) * a) 1
theorem goes_pos : ∀ l : List Int, 0 < goes l
  | [] => by decide
  | z :: l => by
    show 0 < (if 0 < z then z.toNat else 1) * goes l
    refine Nat.mul_pos ?_ (goes_pos l)
    split <;> omega
theorem goes_dvd : ∀ {l : List Int} {z : Int}, z ∈ l → 0 < z → z.toNat ∣ goes l
  | y :: l, z, h, hz => by
    show z.toNat ∣ (if 0 < y then y.toNat else 1) * goes l
    rcases List.mem_cons.mp h with rfl | h
    · rw [if_pos hz]
      exact Nat.dvd_mul_right _ _
    · exact Nat.dvd_trans (goes_dvd h hz) (Nat.dvd_mul_left _ _)
theorem goes_at {l : List Int} (s : Nat) (h : 0 < l.getD s 0) : (l.getD s 0).toNat ∣ goes l := by
  refine goes_dvd ?_ h
  rw [List.getD_eq_getElem?_getD] at h ⊢
  cases e : l[s]? with
  | none => rw [e] at h; exact absurd h (by decide)
  | some z => exact List.mem_of_getElem? e
theorem goes_le {B : Nat} (hB : 1 ≤ B) : ∀ {l : List Int}, (∀ z ∈ l, z ≤ (B : Int)) → goes l ≤ B ^ l.length
  | [], _ => Nat.le_refl _
  | z :: l, h => by
    show (if 0 < z then z.toNat else 1) * goes l ≤ B ^ (l.length + 1)
    rw [Nat.pow_succ, Nat.mul_comm (B ^ l.length)]
    refine Nat.mul_le_mul ?_ (goes_le hB fun y hy => h y (List.mem_cons_of_mem _ hy))
    have := h z List.mem_cons_self
    split <;> omega
end My
namespace My
open Krdf (Table)
/-! ## 14. The program's own numbers, by cells -/
structure CsOk (cs : Cells) : Prop where
  len : cs.length ≤ 4
  small : ∀ c ∈ cs, c.1 ≤ 99 ∧ c.2 ≤ 99
theorem sum_in {B : Int} : ∀ {l : List Int}, (∀ z ∈ l, 0 ≤ z ∧ z ≤ B) → 0 ≤ l.sum ∧ l.sum ≤ B * (l.length : Int)
  | [], _ => by simp
  | x :: l, h => by
    have ⟨h1, h2⟩ := sum_in (l := l) fun z hz => h z (List.mem_cons_of_mem _ hz)
    have ⟨h3, h4⟩ := h x List.mem_cons_self
    rw [List.sum_cons, List.length_cons]
    have e : B * ((l.length + 1 : Nat) : Int) = B * (l.length : Int) + B := by
      rw [Int.natCast_add, Int.mul_add]
      omega
    rw [e]
    omega
theorem so_in {cs : Cells} (h : CsOk cs) : ∀ z ∈ so cs, 0 ≤ z ∧ z ≤ 99 := fun z hz => by
  unfold so at hz
  obtain ⟨c, hc, rfl⟩ := List.mem_map.mp hz
  have := h.small c hc
  omega
theorem oth_in {cs : Cells} (h : CsOk cs) : ∀ z ∈ oth cs, 0 ≤ z ∧ z ≤ 99 := fun z hz => by
  unfold oth at hz
  obtain ⟨c, hc, rfl⟩ := List.mem_map.mp hz
  have := h.small c hc
  omega
theorem so_sum {cs : Cells} (h : CsOk cs) : 0 ≤ (so cs).sum ∧ (so cs).sum ≤ 396 := by
  have ⟨h1, h2⟩ := sum_in (so_in h)
  have := h.len
  rw [len_so] at h2
  omega
theorem oth_sum {cs : Cells} (h : CsOk cs) : 0 ≤ (oth cs).sum ∧ (oth cs).sum ≤ 396 := by
  have ⟨h1, h2⟩ := sum_in (oth_in h)
  have := h.len
  rw [len_oth] at h2
  omega
theorem chK3 (u v : Nat) (cs : Cells) (x : Rat) : chK 3 u v cs x = chK 3 0 0 cs x := by
  unfold chK ordK
  rfl
theorem chK_len (kind u v : Nat) (cs : Cells) (x : Rat) : (chK kind u v cs x).length = cs.length := by
  unfold chK
  rw [tk_len]
  unfold zeros
  rw [List.length_replicate]
theorem left_nn {kind : Nat} {cs : Cells} {x : Rat} (hx : 0 ≤ x) (hs : 0 ≤ (runK kind cs).sum) : 0 ≤ x * (((runK kind cs).sum : Int) : Rat) := Rat.mul_nonneg hx (Rat.intCast_nonneg.mpr hs)
theorem chK_un {kind u v : Nat} {cs : Cells} {x : Rat} (hx : 0 ≤ x) (hs : 0 ≤ (runK kind cs).sum) : ∀ q ∈ chK kind u v cs x, Un q :=
  tk_un _ _ _ (fun q hq => by rw [mem_zeros hq]; exact ⟨by decide, by decide⟩) (left_nn hx hs)
theorem chK_sz {kind u v m : Nat} {cs : Cells} {x : Rat} (hx : 0 ≤ x) (sx : Sz m x) (hs : 0 ≤ (runK kind cs).sum) (hb : (runK kind cs).sum ≤ 792) (hr : ∀ s, ((runK kind cs).getD s 0).natAbs < 2 ^ 20) (h4 : cs.length ≤ 4) : ∀ q ∈ chK kind u v cs x, Sz (m + 130) q := by
  have sw : Sz 20 (((runK kind cs).sum : Int) : Rat) := Sz.int (by omega) (by decide)
  have hl := ordK_len (kind := kind) (u := u) (v := v) (cs := cs)
  exact tk_sz (N := m + 130) (by omega) hr _ _ _ (m + 20) (fun q hq => by rw [mem_zeros hq]; exact Sz.zero (by omega)) (sx.mul sw) (left_nn hx hs) (by omega)
theorem chK_dn {kind u v : Nat} {cs : Cells} {x : Rat} (hx : 0 ≤ x) (hs : 0 ≤ (runK kind cs).sum) : ∀ q ∈ chK kind u v cs x, Dn (x.den * goes (runK kind cs)) q :=
  tk_dn (fun s h => goes_at s h) _ _ _ (fun q hq => by rw [mem_zeros hq]; exact Dn.zero) (left_nn hx hs) ((Dn.self x).times _)
/-- the y of the most for x -/
def upK (cs : Cells) (x : Rat) : Rat := wsum (chK 3 0 0 cs x) (so cs) / (((so cs).sum : Int) : Rat)
theorem over_int {D : Nat} {p : Rat} {z : Int} (hp : Dn D p) (hz : 0 < z) : Dn (D * z.toNat) (p / (z : Rat)) := by
  have e : ((z : Int) : Rat) = ((z.toNat : Nat) : Rat) := by
    have : ((z.toNat : Nat) : Int) = z := Int.toNat_of_nonneg (Int.le_of_lt hz)
    conv => lhs; rw [← this]
    rfl
  rw [e]
  exact hp.over (by omega) (Nat.dvd_refl _)
theorem unit_over {p : Rat} {z : Int} (h0 : 0 ≤ p) (h1 : p ≤ (z : Rat)) (hz : 0 < z) : Un (p / (z : Rat)) := by
  have pos : (0 : Rat) < (z : Rat) := Rat.intCast_pos.mpr hz
  have inv := Rat.inv_pos.mpr pos
  constructor
  · rw [Rat.div_def]
    exact Rat.mul_nonneg h0 (Rat.le_of_lt inv)
  · have b := Rat.mul_le_mul_of_nonneg_right h1 (Rat.le_of_lt inv)
    rw [Rat.mul_inv_cancel _ (Rat.ne_of_gt pos)] at b
    rw [Rat.div_def]
    exact b
theorem run3 (cs : Cells) : runK 3 cs = oth cs := rfl
theorem goes_small {cs : Cells} (h : CsOk cs) : goes (oth cs) < 2 ^ 27 := by
  have h1 := goes_le (B := 99) (by decide) (l := oth cs) fun z hz => (oth_in h z hz).2
  rw [len_oth] at h1
  have h2 : 99 ^ cs.length ≤ 99 ^ 4 := Nat.pow_le_pow_right (by decide) h.len
  have h3 : (99 : Nat) ^ 4 < 2 ^ 27 := by decide
  omega
theorem up_un {cs : Cells} {x : Rat} (h : CsOk cs) (hx : 0 ≤ x) (hp : 0 < (so cs).sum) : Un (upK cs x) := by
  have ⟨o0, _⟩ := oth_sum h
  have ⟨w0, w1⟩ := wsum_in (chK_un (kind := 3) (u := 0) (v := 0) (cs := cs) hx o0) (fun z hz => (so_in h z hz).1) (by rw [chK_len, len_so])
  exact unit_over w0 w1 hp
theorem up_sz {cs : Cells} {x : Rat} {m : Nat} (h : CsOk cs) (hx : 0 ≤ x) (sx : Sz m x) (hp : 0 < (so cs).sum) : Sz (m + 40) (upK cs x) := by
  have ⟨o0, _⟩ := oth_sum h
  have ⟨_, s1⟩ := so_sum h
  have d : Dn (x.den * goes (oth cs) * (so cs).sum.toNat) (upK cs x) := over_int (wsum_dn (chK_dn (kind := 3) hx o0)) hp
  have ⟨u0, u1⟩ := up_un h hx hp
  refine Sz.of_unit d (Nat.mul_pos (Nat.mul_pos x.den_pos (goes_pos _)) (by omega)) u0 u1 ?_
  have a := mul_pow (mul_pow sx.den (goes_small h)) (show (so cs).sum.toNat < 2 ^ 9 by omega)
  exact Nat.lt_of_lt_of_le a (Nat.pow_le_pow_right (by decide) (by omega))
def leastK (c0 c1 : Cells) (x : Rat) : Rat := if upK c1 x < upK c0 x then upK c1 x else upK c0 x
def leadK (c0 c1 : Cells) (x : Rat) : Rat := upK c0 x - upK c1 x
def crossK (c0 c1 : Cells) (p q : Rat) : List Rat := if leadK c0 c1 p * leadK c0 c1 q < 0 then [p + (leadK c0 c1 p).abs / ((leadK c0 c1 p).abs + (leadK c0 c1 q).abs) * (q - p)] else []
theorem num_sign {a b : Rat} : a.num * b.num < 0 ↔ a * b < 0 := by
  have h1 : ∀ q : Rat, 0 ≤ q.num ↔ 0 ≤ q := fun q => Rat.num_nonneg
  have h2 : ∀ q : Rat, 0 ≤ (-q).num ↔ 0 ≤ -q := fun q => Rat.num_nonneg
  have e : ∀ q : Rat, (-q).num = -q.num := fun q => Rat.neg_num q
  have pos : ∀ q : Rat, 0 < q.num ↔ 0 < q := fun q => ⟨fun h => by
    rcases Rat.le_iff_lt_or_eq.mp ((h1 q).mp (by omega)) with h' | h'
    · exact h'
    · rw [← h'] at h
      exact absurd h (by decide), fun h => num_pos_of h⟩
  have neg : ∀ q : Rat, q.num < 0 ↔ q < 0 := fun q => by
    have := pos (-q)
    rw [e] at this
    constructor
    · intro h
      have := this.mp (by omega)
      grind
    · intro h
      have := this.mpr (by grind)
      omega
  constructor
  · intro h
    by_cases ha : 0 < a.num
    · have hb : b.num < 0 := by
        rcases Int.lt_or_le b.num 0 with z | z
        · exact z
        · have := Int.mul_nonneg (Int.le_of_lt ha) z
          omega
      exact (Rat.mul_neg_iff_of_pos_left ((pos a).mp ha)).mpr ((neg b).mp hb)
    · by_cases ha0 : a.num = 0
      · rw [ha0, Int.zero_mul] at h
        omega
      · have ha' : a.num < 0 := by omega
        have hb : 0 < b.num := by
          rcases Int.lt_or_le 0 b.num with z | z
          · exact z
          · have := Int.mul_nonneg_of_nonpos_of_nonpos (Int.le_of_lt ha') z
            omega
        exact (Rat.mul_neg_iff_of_pos_right ((pos b).mp hb)).mpr ((neg a).mp ha')
  · intro h
    rcases signs h with ⟨ha, hb⟩ | ⟨ha, hb⟩
    · exact Int.mul_neg_of_pos_of_neg ((pos a).mpr ha) ((neg b).mpr hb)
    · exact Int.mul_neg_of_neg_of_pos ((neg a).mpr ha) ((pos b).mpr hb)
theorem cross_midK (c0 c1 : Cells) : Mid (crossK c0 c1) := by
  intro p q h
  unfold crossK
  split
  · rename_i hab
    refine .inr ⟨_, rfl, ?_⟩
    rw [cross_form hab]
    exact cross_between hab h
  · exact .inl rfl
def candK (kind u v : Nat) (c0 c1 : Cells) : List Rat := if kind = 3 then weave (crossK c0 c1) (markK kind u v c0 c1) else markK kind u v c0 c1
def worthK (u v : Nat) (c0 c1 : Cells) (x y : Rat) : Rat := (((u : Int) * ((so c0).sum + (so c1).sum) : Int) : Rat) * y - (((v : Int) * ((oth c0).sum + (oth c1).sum) : Int) : Rat) * x
def gainK (kind u v : Nat) (c0 c1 : Cells) (x : Rat) : Rat := if kind = 3 then worthK u v c0 c1 x (leastK c0 c1 x) else wsum (chK kind u v c0 x) (gai u v c0) + wsum (chK kind u v c1 x) (gai u v c1)
def bestK (kind u v : Nat) (c0 c1 : Cells) : Rat := Krdi.bestOf (candK kind u v c0 c1) (gainK kind u v c0 c1)
def freeK (u v : Nat) (c0 c1 : Cells) : Int := ((gai u v c0 ++ gai u v c1).filter fun z => decide (0 < z)).sum
def mostK (kind u v : Nat) (c0 c1 : Cells) : Rat := if kind = 0 then ((freeK u v c0 c1 : Int) : Rat) else gainK kind u v c0 c1 (bestK kind u v c0 c1)
def partK (kind u v : Nat) (c0 c1 : Cells) : Rat := if kind = 3 then leastK c0 c1 (bestK kind u v c0 c1) else bestK kind u v c0 c1
/-! sizes of candidates -/
theorem abs_sz {n : Nat} {q : Rat} (h : Sz n q) : Sz n q.abs := by
  by_cases z : 0 ≤ q
  · rw [Rat.abs_of_nonneg z]
    exact h
  · rw [Rat.abs_of_nonpos (Rat.le_of_lt (Rat.not_le.mp z))]
    exact h.neg
structure Full (c0 c1 : Cells) : Prop where
  ok0 : CsOk c0
  ok1 : CsOk c1
  so0 : 0 < (so c0).sum
  so1 : 0 < (so c1).sum
  oth0 : 0 < (oth c0).sum
  oth1 : 0 < (oth c1).sum
theorem Full.run0 {c0 c1 : Cells} (f : Full c0 c1) (kind : Nat) : 0 < (runK kind c0).sum := by
  have := f.so0
  have := f.oth0
  unfold runK
  split
  · rw [siz_sum]; omega
  · split <;> omega
theorem Full.run1 {c0 c1 : Cells} (f : Full c0 c1) (kind : Nat) : 0 < (runK kind c1).sum := by
  have := f.so1
  have := f.oth1
  unfold runK
  split
  · rw [siz_sum]; omega
  · split <;> omega
theorem run_le {kind : Nat} {cs : Cells} (h : CsOk cs) : (runK kind cs).sum ≤ 792 := by
  have := so_sum h
  have := oth_sum h
  unfold runK
  split
  · rw [siz_sum]; omega
  · split <;> omega
theorem lead_sz {c0 c1 : Cells} {x : Rat} {m : Nat} (f : Full c0 c1) (hx : 0 ≤ x) (sx : Sz m x) : Sz (2 * m + 81) (leadK c0 c1 x) := ((up_sz f.ok0 hx sx f.so0).sub (up_sz f.ok1 hx sx f.so1)).mono (by omega)
theorem Full.mark {c0 c1 : Cells} (f : Full c0 c1) {kind u v : Nat} {x : Rat} (h : x ∈ markK kind u v c0 c1) : 0 ≤ x ∧ x ≤ 1 ∧ Sz 10 x := by
  have ⟨a, b⟩ := mark_in h (f.run0 kind) (f.run1 kind)
  exact ⟨a, b, mark_sz h (f.run0 kind) (f.run1 kind) (run_le f.ok0) (run_le f.ok1)⟩
theorem sum_abs_pos {a b : Rat} (h : a * b < 0) : 0 < a.abs + b.abs := by
  rcases signs h with ⟨ha, hb⟩ | ⟨ha, hb⟩
  · rw [Rat.abs_of_nonneg (Rat.le_of_lt ha), Rat.abs_of_nonpos (Rat.le_of_lt hb)]
    grind
  · rw [Rat.abs_of_nonpos (Rat.le_of_lt ha), Rat.abs_of_nonneg (Rat.le_of_lt hb)]
    grind
theorem cross_sz {c0 c1 : Cells} {p q x : Rat} (f : Full c0 c1) (hp : 0 ≤ p) (sp : Sz 10 p) (hq : 0 ≤ q) (sq : Sz 10 q) (h : x ∈ crossK c0 c1 p q) : Sz 400 x := by
  unfold crossK at h
  split at h
  · rename_i hab
    have e := List.mem_singleton.mp h
    rw [e]
    have a := abs_sz (lead_sz f hp sp)
    have b := abs_sz (lead_sz f hq sq)
    exact (sp.add ((a.div (a.add b) (sum_abs_pos hab)).mul (sq.sub sp))).mono (by omega)
  · cases h
theorem zip_mem {l : List Rat} {y : Rat × Rat} (h : y ∈ List.zip l l.tail) : y.1 ∈ l ∧ y.2 ∈ l := ⟨(List.of_mem_zip h).1, List.mem_of_mem_tail (List.of_mem_zip h).2⟩
theorem zip_lt {l : List Rat} (hl : SS l) {y : Rat × Rat} (h : y ∈ List.zip l l.tail) : y.1 < y.2 := by
  match l, hl, h with
  | [], _, h => cases h
  | [p], _, h => cases h
  | p :: q :: r, hl, h =>
    have hl' := List.pairwise_cons.mp hl
    have e : List.zip (p :: q :: r) (p :: q :: r).tail = (p, q) :: List.zip (q :: r) (q :: r).tail := rfl
    rw [e] at h
    rcases List.mem_cons.mp h with rfl | h
    · exact hl'.1 q List.mem_cons_self
    · exact zip_lt (l := q :: r) hl'.2 h
theorem cand_in {kind u v : Nat} {c0 c1 : Cells} {x : Rat} (f : Full c0 c1) (h : x ∈ candK kind u v c0 c1) : 0 ≤ x ∧ x ≤ 1 ∧ Sz 400 x := by
  unfold candK at h
  split at h
  · rcases mem_weave.mp h with h | h
    · have ⟨a, b, c⟩ := f.mark h
      exact ⟨a, b, c.mono (by decide)⟩
    · obtain ⟨y, hy, hx⟩ := List.mem_flatMap.mp h
      have ⟨m1, m2⟩ := zip_mem hy
      have ⟨a1, b1, s1⟩ := f.mark m1
      have ⟨a2, b2, s2⟩ := f.mark m2
      have lt := zip_lt markK_ss hy
      rcases cross_midK c0 c1 y.1 y.2 lt with e | ⟨c, e, e1, e2⟩
      · rw [e] at hx
        cases hx
      · have hx' := hx
        rw [e] at hx
        have ex := List.mem_singleton.mp hx
        subst ex
        exact ⟨by grind, by grind, cross_sz f a1 s1 a2 s2 hx'⟩
  · have ⟨a, b, c⟩ := f.mark h
    exact ⟨a, b, c.mono (by decide)⟩
theorem weave_head {f : Rat → Rat → List Rat} : ∀ (l : List Rat), (weave f l).head? = l.head?
  | [] => rfl
  | [p] => rfl
  | p :: q :: l => rfl
theorem cand_head {kind u v : Nat} {c0 c1 : Cells} (f : Full c0 c1) : (candK kind u v c0 c1).head? = some 0 := by
  unfold candK
  split
  · rw [weave_head]
    exact mark_head (f.run0 kind) (f.run1 kind)
  · exact mark_head (f.run0 kind) (f.run1 kind)
theorem bestOf_mem {l : List Rat} {g : Rat → Rat} : ∀ b, b ∈ l ∨ b = 0 → l.foldl (fun b x => if g b < g x then x else b) b ∈ l ∨ l.foldl (fun b x => if g b < g x then x else b) b = 0 ∨ l.foldl (fun b x => if g b < g x then x else b) b = b := by
  intro b _
  have key : ∀ (k : List Rat) (b : Rat), k.foldl (fun b x => if g b < g x then x else b) b ∈ k ∨ k.foldl (fun b x => if g b < g x then x else b) b = b := by
    intro k
    induction k with
    | nil => exact fun b => .inr rfl
    | cons x k ih =>
      intro b
      rw [List.foldl_cons]
      split
      · rcases ih x with h | h
        · exact .inl (List.mem_cons_of_mem _ h)
        · exact .inl (by rw [h]; exact List.mem_cons_self)
      · rcases ih b with h | h
        · exact .inl (List.mem_cons_of_mem _ h)
        · exact .inr h
  rcases key l b with h | h
  · exact .inl h
  · exact .inr (.inr h)
theorem best_cand {kind u v : Nat} {c0 c1 : Cells} (f : Full c0 c1) : bestK kind u v c0 c1 ∈ candK kind u v c0 c1 := by
  have z : 0 ∈ candK kind u v c0 c1 := by
    have := cand_head (kind := kind) (u := u) (v := v) f
    exact List.mem_of_mem_head? (by rw [this]; rfl)
  unfold bestK Krdi.bestOf
  rcases bestOf_mem (l := candK kind u v c0 c1) (g := gainK kind u v c0 c1) 0 (.inr rfl) with h | h | h
  · exact h
  · rw [h]; exact z
  · rw [h]; exact z
end My
namespace My
open Krdf (Table)
/-! ## 15. More sizes; weaving; the best, one by one -/
theorem foldl_sz {n : Nat} : ∀ (l : List Rat) (a : Rat) (m : Nat), Sz m a → (∀ q ∈ l, Sz n q) → Sz (m + l.length * (n + 1)) (l.foldl (· + ·) a)
  | [], _, m, h, _ => by simpa using h
  | x :: l, a, m, h, hl => by
    rw [List.foldl_cons, List.length_cons]
    have := foldl_sz l (a + x) (m + n + 1) (h.add (hl x List.mem_cons_self)) fun q hq => hl q (List.mem_cons_of_mem _ hq)
    refine this.mono ?_
    rw [Nat.succ_mul]
    omega
theorem wsum_sz {c : List Rat} {ws : List Int} {n : Nat} (hc : ∀ q ∈ c, Sz n q) (hw : ∀ z ∈ ws, z.natAbs < 2 ^ 20) (hl : c.length ≤ 4) : Sz (4 * (n + 21) + 1) (wsum c ws) := by
  unfold wsum
  refine (foldl_sz (n := n + 20) _ 0 1 (Sz.zero (by decide)) fun q hq => ?_).mono ?_
  · obtain ⟨p, hp, rfl⟩ := List.mem_map.mp hq
    exact (hc p.1 (List.of_mem_zip hp).1).mul (Sz.int (hw p.2 (List.of_mem_zip hp).2) (by decide))
  · rw [List.length_map, List.length_zip]
    have : min c.length ws.length ≤ 4 := by omega
    have : min c.length ws.length * (n + 20 + 1) ≤ 4 * (n + 20 + 1) := Nat.mul_le_mul_right _ this
    omega
theorem weave_snoc {f : Rat → Rat → List Rat} {p q : Rat} : ∀ l : List Rat, weave f (l ++ [p] ++ [q]) = weave f (l ++ [p]) ++ f p q ++ [q]
  | [] => by simp [weave]
  | [a] => by simp [weave]
  | a :: b :: l => by
    have ih := weave_snoc (f := f) (p := p) (q := q) (b :: l)
    simp only [List.cons_append, weave] at ih ⊢
    rw [ih]
    simp
theorem take_two {l : List Rat} {i : Nat} {p q : Rat} (hp : l[i]? = some p) (hq : l[i + 1]? = some q) : l.take (i + 2) = l.take i ++ [p] ++ [q] ∧ l.take (i + 1) = l.take i ++ [p] := by
  have h1 : l.take (i + 1) = l.take i ++ [p] := by
    rw [List.take_add_one, hp]
    rfl
  refine ⟨?_, h1⟩
  rw [List.take_add_one, hq, h1]
  rfl
def pick (g : Rat → Rat) (b x : Rat) : Rat := if g b < g x then x else b
theorem best_more {l : List Rat} {g : Rat → Rat} {i : Nat} {x b : Rat} (h : l[i]? = some x) : (l.take (i + 1)).foldl (pick g) b = pick g ((l.take i).foldl (pick g) b) x := by
  have h1 : l.take (i + 1) = l.take i ++ [x] := by
    rw [List.take_add_one, h]
    rfl
  rw [h1, List.foldl_append]
  rfl
theorem bestK_eq (kind u v : Nat) (c0 c1 : Cells) : bestK kind u v c0 c1 = (candK kind u v c0 c1).foldl (pick (gainK kind u v c0 c1)) 0 := rfl
theorem pick_mem {l : List Rat} {g : Rat → Rat} {b x : Rat} (hb : b ∈ l) (hx : x ∈ l) : pick g b x ∈ l := by
  unfold pick
  split
  · exact hx
  · exact hb
theorem so_small {cs : Cells} (h : CsOk cs) : ∀ z ∈ so cs, z.natAbs < 2 ^ 20 := fun z hz => by
  have := so_in h z hz
  omega
theorem oth_small {cs : Cells} (h : CsOk cs) : ∀ z ∈ oth cs, z.natAbs < 2 ^ 20 := fun z hz => by
  have := oth_in h z hz
  omega
theorem siz_small {cs : Cells} (h : CsOk cs) : ∀ z ∈ siz cs, z.natAbs < 2 ^ 20 := fun z hz => by
  unfold siz at hz
  obtain ⟨c, hc, rfl⟩ := List.mem_map.mp hz
  have := h.small c hc
  omega
theorem gai_small {u v : Nat} {cs : Cells} (h : CsOk cs) (hu : u ≤ 100) (hv : v ≤ 100) : ∀ z ∈ gai u v cs, z.natAbs < 2 ^ 14 := fun z hz => by
  unfold gai at hz
  obtain ⟨c, hc, rfl⟩ := List.mem_map.mp hz
  have ⟨h1, h2⟩ := h.small c hc
  have a : u * c.1 ≤ 100 * 99 := Nat.mul_le_mul hu h1
  have b : v * c.2 ≤ 100 * 99 := Nat.mul_le_mul hv h2
  have ea : ((u * c.1 : Nat) : Int) = (u : Int) * (c.1 : Int) := Int.natCast_mul _ _
  have eb : ((v * c.2 : Nat) : Int) = (v : Int) * (c.2 : Int) := Int.natCast_mul _ _
  show ((u : Int) * (c.1 : Int) - (v : Int) * (c.2 : Int)).natAbs < 2 ^ 14
  omega
theorem runs_small {kind : Nat} {cs : Cells} (h : CsOk cs) (s : Nat) : ((runK kind cs).getD s 0).natAbs < 2 ^ 20 := by
  rw [List.getD_eq_getElem?_getD]
  cases e : (runK kind cs)[s]? with
  | none =>
    show (0 : Int).natAbs < 2 ^ 20
    decide
  | some z =>
    have hz := List.mem_of_getElem? e
    show z.natAbs < 2 ^ 20
    unfold runK at hz
    split at hz
    · exact siz_small h z hz
    · split at hz
      · exact so_small h z hz
      · exact oth_small h z hz
theorem run_nn_sum {kind : Nat} {cs : Cells} (h : CsOk cs) : 0 ≤ (runK kind cs).sum := by
  have := so_sum h
  have := oth_sum h
  unfold runK
  split
  · rw [siz_sum]; omega
  · split <;> omega
theorem ch_sz {kind u v m : Nat} {cs : Cells} {x : Rat} (h : CsOk cs) (hx : 0 ≤ x) (sx : Sz m x) : ∀ q ∈ chK kind u v cs x, Sz (m + 130) q := chK_sz hx sx (run_nn_sum h) (run_le h) (runs_small h) h.len
theorem least_sz {c0 c1 : Cells} {x : Rat} {m : Nat} (f : Full c0 c1) (hx : 0 ≤ x) (sx : Sz m x) : Sz (m + 40) (leastK c0 c1 x) := by
  unfold leastK
  split
  · exact up_sz f.ok1 hx sx f.so1
  · exact up_sz f.ok0 hx sx f.so0
theorem least_un {c0 c1 : Cells} {x : Rat} (f : Full c0 c1) (hx : 0 ≤ x) : Un (leastK c0 c1 x) := by
  unfold leastK
  split
  · exact up_un f.ok1 hx f.so1
  · exact up_un f.ok0 hx f.so0
theorem pay_sz {u : Nat} {a b : Int} (hu : u ≤ 100) (ha : 0 ≤ a) (ha2 : a ≤ 396) (hb : 0 ≤ b) (hb2 : b ≤ 396) : ((u : Int) * (a + b)).natAbs < 2 ^ 20 := by
  have h : u * (a + b).toNat ≤ 100 * 792 := Nat.mul_le_mul hu (by omega)
  have e : ((u * (a + b).toNat : Nat) : Int) = (u : Int) * (a + b) := by
    rw [Int.natCast_mul, Int.toNat_of_nonneg (by omega)]
  omega
theorem worth_sz {u v n : Nat} {c0 c1 : Cells} {x y : Rat} (f : Full c0 c1) (hu : u ≤ 100) (hv : v ≤ 100) (sx : Sz n x) (sy : Sz n y) : Sz (2 * n + 41) (worthK u v c0 c1 x y) := by
  have ⟨a0, a1⟩ := so_sum f.ok0
  have ⟨b0, b1⟩ := so_sum f.ok1
  have ⟨d0, d1⟩ := oth_sum f.ok0
  have ⟨e0, e1⟩ := oth_sum f.ok1
  have p : Sz 20 ((((u : Int) * ((so c0).sum + (so c1).sum) : Int)) : Rat) := Sz.int (pay_sz hu a0 a1 b0 b1) (by decide)
  have q : Sz 20 ((((v : Int) * ((oth c0).sum + (oth c1).sum) : Int)) : Rat) := Sz.int (pay_sz hv d0 d1 e0 e1) (by decide)
  unfold worthK
  exact ((p.mul sy).sub (q.mul sx)).mono (by omega)
theorem gai_small20 {u v : Nat} {cs : Cells} (h : CsOk cs) (hu : u ≤ 100) (hv : v ≤ 100) : ∀ z ∈ gai u v cs, z.natAbs < 2 ^ 20 := fun z hz => by
  have := gai_small h hu hv z hz
  omega
theorem gain_sz {kind u v : Nat} {c0 c1 : Cells} {x : Rat} (f : Full c0 c1) (hu : u ≤ 100) (hv : v ≤ 100) (hx : 0 ≤ x) (sx : Sz 400 x) : Sz 4500 (gainK kind u v c0 c1 x) := by
  unfold gainK
  split
  · exact (worth_sz f hu hv (sx.mono (show 400 ≤ 440 by decide)) (least_sz f hx sx)).mono (by decide)
  · have a := wsum_sz (ch_sz (kind := kind) (u := u) (v := v) f.ok0 hx sx) (gai_small20 f.ok0 hu hv) (by rw [chK_len]; exact f.ok0.len)
    have b := wsum_sz (ch_sz (kind := kind) (u := u) (v := v) f.ok1 hx sx) (gai_small20 f.ok1 hu hv) (by rw [chK_len]; exact f.ok1.len)
    exact (a.add b).mono (by decide)
end My
namespace My
open Krdf (Table)
/-! ## 16. The program's numbers are the specification's -/
structure Tab (t : Table) (c0 c1 : Cells) : Prop where
  cells : t.cells = [c0, c1]
  k0 : c0.length = t.k
  k1 : c1.length = t.k
theorem Tab.r0 {t : Table} {c0 c1 : Cells} (T : Tab t c0 c1) : rowOf t 0 = c0 := by
  unfold rowOf
  rw [T.cells]
  rfl
theorem Tab.r1 {t : Table} {c0 c1 : Cells} (T : Tab t c0 c1) : rowOf t 1 = c1 := by
  unfold rowOf
  rw [T.cells]
  rfl
section
variable {t : Table} {g : Nat}
theorem nat_cast_eq {n : Nat} {z : Int} (h : ((n : Nat) : Int) = z) : (n : Rat) = (z : Rat) := by
  rw [← h]
  rfl
theorem forPart_eq {p : Krdi.Pays} {x : Rat} (h : (rowOf t g).length = t.k) (h0 : 0 < (siz (rowOf t g)).sum) : Krdi.forPart t p g x = chK 1 p.gain p.loss (rowOf t g) x := by
  have te := total_eq h
  unfold Krdi.forPart
  rw [byGain_eq h, none_zeros h]
  rw [fillBy_tk (runs := siz (rowOf t g)) (fun s => size_at.symm) (by omega) _ _ _ (steep_nodup _ _ _) (fun s hs => ?_) (fun s _ => zeros_at _ _)]
  · rw [nat_cast_eq te]
    rfl
  · have := (mem_steep.mp hs).2
    have e := size_at (t := t) (g := g) (s := s)
    rw [siz_at] at e
    generalize (rowOf t g).getD s (0, 0) = y at this e
    rcases y with ⟨a, b⟩
    simp only [ne_eq, Prod.mk.injEq] at this e
    omega
theorem forHits_eq {u v : Nat} {x : Rat} (h : (rowOf t g).length = t.k) (h0 : 0 < (so (rowOf t g)).sum) : Krdi.forHits t g x = chK 2 u v (rowOf t g) x := by
  have te := yes_eq h
  have ha : 0 < t.yes g := by omega
  unfold Krdi.forHits
  rw [ordered_down h, none_zeros h, fillBy_some ha]
  have ef : (fun s => decide (0 < (t.cell g s).1)) = fun s => decide (0 < (so (rowOf t g)).getD s 0) := by
    funext s
    rw [so_at, cell_eq]
    exact decide_eq_decide.mpr (by omega)
  rw [ef]
  rw [fillBy_tk (runs := so (rowOf t g)) (fun s => by rw [so_at, cell_eq]) ha _ _ _ ((steep_nodup _ _ _).filter _) (fun s hs => ?_) (fun s _ => zeros_at _ _)]
  · rw [nat_cast_eq te]
    rfl
  · have := of_decide_eq_true (List.mem_filter.mp hs).2
    rw [so_at] at this
    rw [cell_eq]
    omega
theorem most_eq {u v : Nat} {x : Rat} (h : (rowOf t g).length = t.k) (h0 : 0 < (oth (rowOf t g)).sum) (hx : 0 ≤ x) : Krdh.most t g x = chK 3 u v (rowOf t g) x := by
  have te := no_eq h
  have ha : 0 < t.no g := by omega
  unfold Krdh.most
  rw [ordered_down h, none_zeros h]
  rw [fill_tk (runs := oth (rowOf t g)) (fun s => by rw [oth_at, cell_eq]) ha _ _ _ (steep_nodup _ _ _) (zf_steep _) (fun s _ => zeros_at _ _) hx]
  rw [nat_cast_eq te]
  rfl
/-- the fewest for x -/
def loCh (cs : Cells) (x : Rat) : List Rat := tk (oth cs) ((steep cs (so cs) (oth cs)).filter fun s => decide (0 < (oth cs).getD s 0)) (x * (((oth cs).sum : Int) : Rat)) (zeros cs.length)
theorem fewest_eq {x : Rat} (h : (rowOf t g).length = t.k) (h0 : 0 < (oth (rowOf t g)).sum) : Krdh.fewest t g x = loCh (rowOf t g) x := by
  have te := no_eq h
  have ha : 0 < t.no g := by omega
  unfold Krdh.fewest
  rw [ordered_up h, none_zeros h, fill_up ha _ _ _ (steep_nodup _ _ _) (fun s _ => zeros_at _ _), fillBy_some ha]
  have ef : (fun s => decide (0 < (t.cell g s).2)) = fun s => decide (0 < (oth (rowOf t g)).getD s 0) := by
    funext s
    rw [oth_at, cell_eq]
    exact decide_eq_decide.mpr (by omega)
  rw [ef]
  rw [fillBy_tk (runs := oth (rowOf t g)) (fun s => by rw [oth_at, cell_eq]) ha _ _ _ ((steep_nodup _ _ _).filter _) (fun s hs => ?_) (fun s _ => zeros_at _ _)]
  · rw [nat_cast_eq te]
    rfl
  · have := of_decide_eq_true (List.mem_filter.mp hs).2
    rw [oth_at] at this
    rw [cell_eq]
    omega
theorem upper_eq {x : Rat} (h : (rowOf t g).length = t.k) (h0 : 0 < (oth (rowOf t g)).sum) (hx : 0 ≤ x) : Krdh.upper t g x = upK (rowOf t g) x := by
  unfold Krdh.upper upK
  rw [most_eq (u := 0) (v := 0) h h0 hx, right_eq h (by rw [chK_len, h])]
end
section
variable {t : Table} {c0 c1 : Cells}
theorem least_eq (T : Tab t c0 c1) (f : Full c0 c1) {x : Rat} (hx : 0 ≤ x) : Krdh.least t x = leastK c0 c1 x := by
  unfold Krdh.least leastK
  have e0 : Krdh.upper t 0 x = upK c0 x := by
    rw [upper_eq (by rw [T.r0]; exact T.k0) (by rw [T.r0]; exact f.oth0) hx, T.r0]
  have e1 : Krdh.upper t 1 x = upK c1 x := by
    rw [upper_eq (by rw [T.r1]; exact T.k1) (by rw [T.r1]; exact f.oth1) hx, T.r1]
  rw [e0, e1]
  show (if upK c0 x ≤ upK c1 x then upK c0 x else upK c1 x) = _
  by_cases h : upK c1 x < upK c0 x
  · rw [if_pos h, if_neg (Rat.not_le.mpr h)]
  · rw [if_neg h, if_pos (Rat.not_lt.mp h)]
theorem lead_eq (T : Tab t c0 c1) (f : Full c0 c1) {x : Rat} (hx : 0 ≤ x) : Krdh.upper t 0 x - Krdh.upper t 1 x = leadK c0 c1 x := by
  unfold leadK
  rw [upper_eq (by rw [T.r0]; exact T.k0) (by rw [T.r0]; exact f.oth0) hx, T.r0, upper_eq (by rw [T.r1]; exact T.k1) (by rw [T.r1]; exact f.oth1) hx, T.r1]
theorem crossing_eq (T : Tab t c0 c1) (f : Full c0 c1) {p q : Rat} (hp : 0 ≤ p) (hq : 0 ≤ q) : Krdh.crossing t p q = crossK c0 c1 p q := by
  unfold Krdh.crossing crossK
  dsimp only
  rw [lead_eq T f hp, lead_eq T f hq]
  split
  · rename_i h
    rw [cross_form h]
  · rfl
theorem corners_eq {g : Nat} {cs : Cells} {u v : Nat} (hr : rowOf t g = cs) (h : cs.length = t.k) : Krdh.corners t g = parts 3 u v cs := by
  have e : Krdh.corners t g = Krdi.steps (fun s => (t.cell g s).2) (t.no g) (Krdh.ordered t g true) := rfl
  have hk : (rowOf t g).length = t.k := by rw [hr]; exact h
  rw [e, steps_eq (runs := oth cs) (fun s => by rw [oth_at, cell_eq, hr]), ordered_down hk, hr]
  have te := no_eq hk
  rw [hr] at te
  have e2 : t.no g = tot 3 cs := by
    unfold tot
    rw [run3, ← te]
    omega
  rw [e2]
  rfl
theorem marks_eq (T : Tab t c0 c1) (u v : Nat) : Krdh.marks t = markK 3 u v c0 c1 := by
  unfold markK Krdi.sorted Krdh.marks
  rw [corners_eq (u := u) (v := v) T.r0 T.k0, corners_eq (u := u) (v := v) T.r1 T.k1]
theorem weave_congr {f g : Rat → Rat → List Rat} : ∀ {l : List Rat}, (∀ p ∈ l, ∀ q ∈ l, f p q = g p q) → weave f l = weave g l
  | [], _ => rfl
  | [p], _ => rfl
  | p :: q :: l, h => by
    have ih := weave_congr (l := q :: l) fun a ha b hb => h a (List.mem_cons_of_mem _ ha) b (List.mem_cons_of_mem _ hb)
    unfold weave
    rw [ih, h p List.mem_cons_self q (List.mem_cons_of_mem _ List.mem_cons_self)]
theorem cand_eq (T : Tab t c0 c1) (f : Full c0 c1) (u v : Nat) : Krdh.candidates t = candK 3 u v c0 c1 := by
  rw [candidates_eq (cross_mid t), marks_eq T u v]
  unfold candK
  rw [if_pos rfl]
  exact weave_congr fun p hp q hq => crossing_eq T f (f.mark hp).1 (f.mark hq).1
theorem worth_eq (T : Tab t c0 c1) {u v : Nat} {x y : Rat} : Krdh.worth t u v x y = worthK u v c0 c1 x y := by
  have y0 := yes_eq (t := t) (g := 0) (by rw [T.r0]; exact T.k0)
  have y1 := yes_eq (t := t) (g := 1) (by rw [T.r1]; exact T.k1)
  have n0 := no_eq (t := t) (g := 0) (by rw [T.r0]; exact T.k0)
  have n1 := no_eq (t := t) (g := 1) (by rw [T.r1]; exact T.k1)
  rw [T.r0] at y0 n0
  rw [T.r1] at y1 n1
  unfold Krdh.worth worthK
  rw [← y0, ← y1, ← n0, ← n1]
  have e1 : (((u : Int) * (((t.yes 0 : Nat) : Int) + ((t.yes 1 : Nat) : Int)) : Int) : Rat) = (u : Rat) * ((t.yes 0 + t.yes 1 : Nat) : Rat) := by
    rw [Rat.intCast_mul, ← Int.natCast_add]
    rfl
  have e2 : (((v : Int) * (((t.no 0 : Nat) : Int) + ((t.no 1 : Nat) : Int)) : Int) : Rat) = (v : Rat) * ((t.no 0 + t.no 1 : Nat) : Rat) := by
    rw [Rat.intCast_mul, ← Int.natCast_add]
    rfl
  rw [e1, e2]
theorem bestOf_congr {f g : Rat → Rat} {l : List Rat} (h0 : f 0 = g 0) (h : ∀ x ∈ l, f x = g x) : Krdi.bestOf l f = Krdi.bestOf l g := by
  unfold Krdi.bestOf
  have key : ∀ (k : List Rat) (b : Rat), f b = g b → (∀ x ∈ k, f x = g x) → k.foldl (fun b x => if f b < f x then x else b) b = k.foldl (fun b x => if g b < g x then x else b) b := by
    intro k
    induction k with
    | nil => intro b _ _; rfl
    | cons x k ih =>
      intro b hb hk
      rw [List.foldl_cons, List.foldl_cons, hb, hk x List.mem_cons_self]
      split
      · exact ih x (hk x List.mem_cons_self) fun y hy => hk y (List.mem_cons_of_mem _ hy)
      · exact ih b hb fun y hy => hk y (List.mem_cons_of_mem _ hy)
  exact key l 0 h0 h
theorem best3_eq (T : Tab t c0 c1) (f : Full c0 c1) (u v : Nat) : Krdh.best t u v = (bestK 3 u v c0 c1, leastK c0 c1 (bestK 3 u v c0 c1)) := by
  have e : Krdi.bestOf (Krdh.candidates t) (fun x => Krdh.worth t u v x (Krdh.least t x)) = bestK 3 u v c0 c1 := by
    rw [cand_eq T f u v]
    unfold bestK
    have g : ∀ x : Rat, 0 ≤ x → Krdh.worth t u v x (Krdh.least t x) = gainK 3 u v c0 c1 x := fun x hx => by
      rw [worth_eq T, least_eq T f hx]
      rfl
    exact bestOf_congr (g 0 (by decide)) fun x hx => g x (cand_in f hx).1
  rw [best_eq, e]
  rw [least_eq T f (cand_in f (best_cand f)).1]
theorem gain1_eq (T : Tab t c0 c1) (f : Full c0 c1) {p : Krdi.Pays} {x : Rat} : Krdi.partGain t p x = gainK 1 p.gain p.loss c0 c1 x := by
  have h0 : (rowOf t 0).length = t.k := by rw [T.r0]; exact T.k0
  have h1 : (rowOf t 1).length = t.k := by rw [T.r1]; exact T.k1
  unfold Krdi.partGain gainK
  rw [if_neg (by decide), forPart_eq h0 (by rw [T.r0]; exact f.run0 1), forPart_eq h1 (by rw [T.r1]; exact f.run1 1), gains_eq h0 (by rw [chK_len, h0]), gains_eq h1 (by rw [chK_len, h1]), T.r0, T.r1]
theorem gain2_eq (T : Tab t c0 c1) (f : Full c0 c1) {p : Krdi.Pays} {x : Rat} : Krdi.hitGain t p x = gainK 2 p.gain p.loss c0 c1 x := by
  have h0 : (rowOf t 0).length = t.k := by rw [T.r0]; exact T.k0
  have h1 : (rowOf t 1).length = t.k := by rw [T.r1]; exact T.k1
  unfold Krdi.hitGain gainK
  rw [if_neg (by decide), forHits_eq (u := p.gain) (v := p.loss) h0 (by rw [T.r0]; exact f.so0), forHits_eq (u := p.gain) (v := p.loss) h1 (by rw [T.r1]; exact f.so1), gains_eq h0 (by rw [chK_len, h0]), gains_eq h1 (by rw [chK_len, h1]), T.r0, T.r1]
theorem steps1_eq {g : Nat} {cs : Cells} {p : Krdi.Pays} (hr : rowOf t g = cs) (h : cs.length = t.k) : Krdi.steps (Krdi.size t g) (Krdi.total t g) (Krdi.byGain t p g) = parts 1 p.gain p.loss cs := by
  have hk : (rowOf t g).length = t.k := by rw [hr]; exact h
  rw [steps_eq (runs := siz cs) (fun s => by rw [size_at, hr]), byGain_eq hk, hr]
  have te := total_eq hk
  rw [hr] at te
  have e2 : Krdi.total t g = tot 1 cs := by
    unfold tot
    have : runK 1 cs = siz cs := rfl
    rw [this, ← te]
    omega
  rw [e2]
  rfl
theorem steps2_mem {g : Nat} {cs : Cells} {u v : Nat} (hr : rowOf t g = cs) (h : cs.length = t.k) (x : Rat) : x ∈ Krdi.steps (fun s => (t.cell g s).1) (t.yes g) (Krdh.ordered t g true) ↔ x ∈ parts 2 u v cs := by
  have hk : (rowOf t g).length = t.k := by rw [hr]; exact h
  rw [steps_eq (runs := so cs) (fun s => by rw [so_at, cell_eq, hr]), ordered_down hk, hr]
  have te := yes_eq hk
  rw [hr] at te
  have e2 : t.yes g = tot 2 cs := by
    unfold tot
    have : runK 2 cs = so cs := rfl
    rw [this, ← te]
    omega
  rw [e2]
  unfold parts stK
  have e3 : runK 2 cs = so cs := rfl
  have e4 : ordK 2 u v cs = (steep cs (oth cs) (so cs)).filter fun s => decide (0 < (so cs).getD s 0) := rfl
  rw [e3, e4, List.mem_map, List.mem_map]
  have nn : ∀ s, 0 ≤ (so cs).getD s 0 := fun s => by rw [so_at]; omega
  constructor
  · rintro ⟨z, hz, rfl⟩
    exact ⟨z, (stops_some nn z _ _).mp hz, rfl⟩
  · rintro ⟨z, hz, rfl⟩
    exact ⟨z, (stops_some nn z _ _).mpr hz, rfl⟩
theorem bestPart_eq (T : Tab t c0 c1) (f : Full c0 c1) {p : Krdi.Pays} : Krdi.bestPart t p = bestK 1 p.gain p.loss c0 c1 := by
  unfold Krdi.bestPart bestK candK
  rw [if_neg (by decide), steps1_eq T.r0 T.k0, steps1_eq T.r1 T.k1]
  exact bestOf_congr (gain1_eq T f) fun x _ => gain1_eq T f
theorem bestHits_eq (T : Tab t c0 c1) (f : Full c0 c1) {p : Krdi.Pays} : Krdi.bestHits t p = bestK 2 p.gain p.loss c0 c1 := by
  unfold Krdi.bestHits bestK candK
  rw [if_neg (by decide)]
  have e : Krdi.sorted (Krdi.steps (fun s => (t.cell 0 s).1) (t.yes 0) (Krdh.ordered t 0 true) ++ Krdi.steps (fun s => (t.cell 1 s).1) (t.yes 1) (Krdh.ordered t 1 true)) = markK 2 p.gain p.loss c0 c1 := by
    unfold markK
    refine sorted_congr fun x => ?_
    rw [List.mem_append, List.mem_append, steps2_mem (u := p.gain) (v := p.loss) T.r0 T.k0, steps2_mem (u := p.gain) (v := p.loss) T.r1 T.k1]
  rw [e]
  exact bestOf_congr (gain2_eq T f) fun x _ => gain2_eq T f
theorem free_row {g : Nat} {cs : Cells} {p : Krdi.Pays} (hr : rowOf t g = cs) (h : cs.length = t.k) : Krdi.gains t p g (Krdi.freely t p g) = ((((gai p.gain p.loss cs).filter fun z => decide (0 < z)).sum : Int) : Rat) := by
  have hk : (rowOf t g).length = t.k := by rw [hr]; exact h
  have e : Krdi.freely t p g = (gai p.gain p.loss cs).map fun z => if 0 < z then (1 : Rat) else 0 := by
    unfold Krdi.freely Table.scores
    rw [← hk]
    have e1 : (fun s => if 0 < Krdi.cellGain t p g s then (1 : Rat) else 0) = fun s => (fun z : Int => if 0 < z then (1 : Rat) else 0) ((gai p.gain p.loss cs).getD s 0) := by
      funext s
      rw [gain_at, hr]
    rw [e1, hr, ← len_gai p.gain p.loss cs]
    exact range_map (fun z : Int => if 0 < z then (1 : Rat) else 0) _ 0
  rw [gains_eq hk (by rw [e, List.length_map, len_gai, h]), e, hr]
  generalize gai p.gain p.loss cs = L
  unfold wsum
  have key : ∀ (l : List Int) (a : Int), (((l.map fun z => if 0 < z then (1 : Rat) else 0).zip l).map fun p => p.1 * (p.2 : Rat)).foldl (· + ·) (a : Rat) = ((a + (l.filter fun z => decide (0 < z)).sum : Int) : Rat) := by
    intro l
    induction l with
    | nil => intro a; simp
    | cons z l ih =>
      intro a
      rw [List.map_cons, List.zip_cons_cons, List.map_cons, List.foldl_cons, List.filter_cons]
      by_cases hz : 0 < z
      · rw [if_pos hz, if_pos (decide_eq_true hz), List.sum_cons, ← Int.add_assoc, ← ih (a + z), Rat.intCast_add]
        rw [Rat.one_mul]
      · rw [if_neg hz, if_neg (fun q => hz (of_decide_eq_true q)), ← ih a]
        rw [Rat.zero_mul, Rat.add_zero]
  have := key L 0
  rw [Int.zero_add] at this
  exact this
theorem sum_app : ∀ (l k : List Int), (l ++ k).sum = l.sum + k.sum
  | [], k => by simp
  | x :: l, k => by
    rw [List.cons_append, List.sum_cons, List.sum_cons, sum_app l k]
    omega
theorem most_all (T : Tab t c0 c1) (f : Full c0 c1) {p : Krdi.Pays} {kind : Nat} (hk : kind ≤ 3) : Krdi.most t p kind = mostK kind p.gain p.loss c0 c1 := by
  unfold Krdi.most mostK
  by_cases k0 : kind = 0
  · subst k0
    rw [if_pos rfl, if_pos rfl, free_row T.r0 T.k0, free_row T.r1 T.k1, ← Rat.intCast_add]
    unfold freeK
    rw [List.filter_append, sum_app]
  · rw [if_neg k0, if_neg k0]
    by_cases k1 : kind = 1
    · subst k1
      rw [if_pos rfl, bestPart_eq T f, gain1_eq T f]
    · rw [if_neg k1]
      by_cases k2 : kind = 2
      · subst k2
        rw [if_pos rfl, bestHits_eq T f, gain2_eq T f]
      · rw [if_neg k2]
        have k3 : kind = 3 := by omega
        subst k3
        rw [best3_eq T f]
        dsimp only
        rw [worth_eq T]
        rfl
end
end My
namespace My
/-! ## 17. How a list of calls is read -/
abbrev asI (l : List Nat) : List Int := l.map fun n : Nat => (n : Int)
def wid (p : Nat) : Nat := ([1, 4, 2, 2, 2, 1, 1, 1, 1, 1, 2, 1, 1, 3, 3, 3, 0] : List Nat).getD p 0
/-- how many numbers stand behind a call's number -/
def behind (p : Nat) (r : List Nat) : Nat := if p = 4 then 3 + r.getD 2 0 else wid p
def arOf (p : Nat) (l : List Nat) : Option Krdi.Call := match p, l with
  | 0, [k] => some (.begin_ k)
  | 1, [g, s, y, n] => some (.count g s y n)
  | 2, [g, s] => some (.cell g s)
  | 3, [u, v] => some (.pays u v)
  | 4, g :: b :: _ :: l => some (.chances g b l)
  | 5, [g] => some (.gains g)
  | 6, [g] => some (.picked g)
  | 7, [q] => some (.most q)
  | 8, [q] => some (.part q)
  | 9, [q] => some (.costs q)
  | 10, [q, g] => some (.rule q g)
  | 11, [q] => some (.take_ q)
  | 12, [q] => some (.meets q)
  | 13, [g, a, b] => some (.forpart g a b)
  | 14, [g, a, b] => some (.forhits g a b)
  | 15, [q, u, v] => some (.ifpays q u v)
  | 16, [] => some .state
  | _, _ => none
theorem call0 {p : Nat} {r : List Nat} {n : Nat} (hs : PyKrdi.shape (p : Int) = some (n, 0)) : PyFlat.call PyKrdi.shape (asI (p :: r)) = if r.length < n then none else some ([(p : Int) :: asI (r.take n)], asI (r.drop n)) := by
  show (match PyKrdi.shape (p : Int) with
    | none => none
    | some (n, k) => if (asI r).length < n then none else match PyFlat.rows k ((asI r).drop n) with
      | none => none
      | some (xs, t) => some (((p : Int) :: (asI r).take n) :: xs, t)) = _
  rw [hs]
  have e : (asI r).length = r.length := List.length_map _
  dsimp only
  rw [e]
  split
  · rfl
  · show some _ = some _
    rw [← List.map_take, ← List.map_drop]
structure Read (p : Nat) (r : List Nat) (c : List (List Int)) (t : List Int) : Prop where
  le : behind p r ≤ r.length
  rest : t = asI (r.drop (behind p r))
  num : p ≤ 16
  call : arOf p (r.take (behind p r)) = some (KrdiNeutral.call (PyKrdi.whole c))
theorem read0 {p : Nat} {r : List Nat} {n : Nat} {c : List (List Int)} {t : List Int} (hs : PyKrdi.shape (p : Int) = some (n, 0)) (hb : behind p r = n) (hp : p ≤ 16) (h : PyFlat.call PyKrdi.shape (asI (p :: r)) = some (c, t))
    (ha : ∀ l : List Nat, l.length = n → arOf p l = some (KrdiNeutral.call (PyKrdi.whole [(p : Int) :: asI l]))) : Read p r c t := by
  rw [call0 hs] at h
  split at h
  · cases h
  · rename_i hl
    have e := Option.some.inj h
    have e1 : [(p : Int) :: asI (r.take n)] = c := congrArg Prod.fst e
    have e2 : asI (r.drop n) = t := congrArg Prod.snd e
    refine ⟨by omega, by rw [hb, e2], hp, ?_⟩
    rw [hb, ← e1]
    exact ha _ (by rw [List.length_take]; omega)
theorem read_call {p : Nat} {r : List Nat} {c : List (List Int)} {t : List Int} (h : PyFlat.call PyKrdi.shape (asI (p :: r)) = some (c, t)) : Read p r c t := by
  match p, h with
  | 0, h => exact read0 (n := 1) rfl rfl (by decide) h fun l hl => match l, hl with | [_], _ => rfl
  | 1, h => exact read0 (n := 4) rfl rfl (by decide) h fun l hl => match l, hl with | [_, _, _, _], _ => rfl
  | 2, h => exact read0 (n := 2) rfl rfl (by decide) h fun l hl => match l, hl with | [_, _], _ => rfl
  | 3, h => exact read0 (n := 2) rfl rfl (by decide) h fun l hl => match l, hl with | [_, _], _ => rfl
  | 5, h => exact read0 (n := 1) rfl rfl (by decide) h fun l hl => match l, hl with | [_], _ => rfl
  | 6, h => exact read0 (n := 1) rfl rfl (by decide) h fun l hl => match l, hl with | [_], _ => rfl
  | 7, h => exact read0 (n := 1) rfl rfl (by decide) h fun l hl => match l, hl with | [_], _ => rfl
  | 8, h => exact read0 (n := 1) rfl rfl (by decide) h fun l hl => match l, hl with | [_], _ => rfl
  | 9, h => exact read0 (n := 1) rfl rfl (by decide) h fun l hl => match l, hl with | [_], _ => rfl
  | 10, h => exact read0 (n := 2) rfl rfl (by decide) h fun l hl => match l, hl with | [_, _], _ => rfl
  | 11, h => exact read0 (n := 1) rfl rfl (by decide) h fun l hl => match l, hl with | [_], _ => rfl
  | 12, h => exact read0 (n := 1) rfl rfl (by decide) h fun l hl => match l, hl with | [_], _ => rfl
  | 13, h => exact read0 (n := 3) rfl rfl (by decide) h fun l hl => match l, hl with | [_, _, _], _ => rfl
  | 14, h => exact read0 (n := 3) rfl rfl (by decide) h fun l hl => match l, hl with | [_, _, _], _ => rfl
  | 15, h => exact read0 (n := 3) rfl rfl (by decide) h fun l hl => match l, hl with | [_, _, _], _ => rfl
  | 16, h => exact read0 (n := 0) rfl rfl (by decide) h fun l hl => match l, hl with | [], _ => rfl
  | 4, h =>
    match r, h with
    | [], h => cases h
    | [_], h => cases h
    | [_, _], h => cases h
    | g :: b :: m :: l, h =>
      have e : PyFlat.call PyKrdi.shape (asI (4 :: g :: b :: m :: l)) = match PyFlat.row (asI (m :: l)) with
        | none => none
        | some (x, s) => some ([[4, (g : Int), (b : Int)], x], s) := by
        show (match PyFlat.rows 1 (asI (m :: l)) with
          | none => none
          | some (xs, t) => some (((4 : Int) :: [(g : Int), (b : Int)]) :: xs, t)) = _
        unfold PyFlat.rows
        cases PyFlat.row (asI (m :: l)) with
        | none => rfl
        | some y => rfl
      rw [e] at h
      have er : PyFlat.row (asI (m :: l)) = if 0 ≤ (m : Int) ∧ (m : Int).toNat ≤ (asI l).length then some ((asI l).take (m : Int).toNat, (asI l).drop (m : Int).toNat) else none := rfl
      rw [er] at h
      split at h
      · cases h
      · rename_i x s hx
        split at hx
        · rename_i cond
          have el : (asI l).length = l.length := List.length_map _
          rw [Int.toNat_natCast, el] at cond
          rw [Int.toNat_natCast] at hx
          have e1 := Option.some.inj hx
          have x1 : (asI l).take m = x := congrArg Prod.fst e1
          have x2 : (asI l).drop m = s := congrArg Prod.snd e1
          have e2 := Option.some.inj h
          have c1 : [[4, (g : Int), (b : Int)], x] = c := congrArg Prod.fst e2
          have c2 : s = t := congrArg Prod.snd e2
          have eb : behind 4 (g :: b :: m :: l) = 3 + m := rfl
          refine ⟨?_, ?_, by decide, ?_⟩
          · rw [eb]
            show 3 + m ≤ l.length + 3
            omega
          · rw [eb, ← c2, ← x2, Nat.add_comm]
            show (asI l).drop m = asI (l.drop m)
            exact List.map_drop.symm
          · rw [eb, Nat.add_comm]
            show some (Krdi.Call.chances g b (l.take m)) = _
            rw [← c1, ← x1]
            show _ = some (Krdi.Call.chances g b (((asI l).take m).map Int.toNat))
            rw [← List.map_take, List.map_map]
            congr 2
            exact (List.map_id'' (fun n => rfl) _).symm
        · cases hx
  | n + 17, h =>
    exfalso
    have hs : PyKrdi.shape ((n + 17 : Nat) : Int) = none := by
      unfold PyKrdi.shape
      repeat rw [if_neg (by omega)]
    have e : PyFlat.call PyKrdi.shape (asI ((n + 17) :: r)) = none := by
      have e0 : asI ((n + 17) :: r) = ((n + 17 : Nat) : Int) :: asI r := rfl
      rw [e0]
      unfold PyFlat.call
      dsimp only
      rw [hs]
    rw [e] at h
    cases h
theorem calls_cons {f p : Nat} {r : List Nat} {raw : List (List (List Int))} (h : PyFlat.calls PyKrdi.shape f (asI (p :: r)) = some raw) : ∃ f' c raw', raw = c :: raw' ∧ behind p r ≤ r.length ∧ p ≤ 16 ∧ arOf p (r.take (behind p r)) = some (KrdiNeutral.call (PyKrdi.whole c)) ∧ PyFlat.calls PyKrdi.shape f' (asI (r.drop (behind p r))) = some raw' := by
  match f, h with
  | 0, h => cases h
  | f + 1, h =>
    have e : PyFlat.calls PyKrdi.shape (f + 1) (asI (p :: r)) = match PyFlat.call PyKrdi.shape (asI (p :: r)) with
      | none => none
      | some (c, t) => match PyFlat.calls PyKrdi.shape f t with
        | none => none
        | some cs => some (c :: cs) := rfl
    rw [e] at h
    cases hc : PyFlat.call PyKrdi.shape (asI (p :: r)) with
    | none => rw [hc] at h; cases h
    | some y =>
      obtain ⟨c, t⟩ := y
      rw [hc] at h
      have R := read_call hc
      dsimp only at h
      cases hr : PyFlat.calls PyKrdi.shape f t with
      | none => rw [hr] at h; cases h
      | some cs =>
        rw [hr] at h
        have e2 : c :: cs = raw := Option.some.inj h
        rw [R.rest] at hr
        exact ⟨f, c, cs, e2.symm, R.le, R.num, R.call, hr⟩
/-- what is still to be told -/
def still (x : Krdi.Abs) (raw : List (List (List Int))) : List Int := PyFlat.told (PyFlat.played KrdiNeutral.step x (raw.map PyKrdi.whole))
theorem still_nil (x : Krdi.Abs) : still x [] = [] := rfl
theorem still_cons (x : Krdi.Abs) (c : List (List Int)) (raw : List (List (List Int))) : still x (c :: raw) = (((KrdiNeutral.told (Krdi.act x (KrdiNeutral.call (PyKrdi.whole c))).2).length : Nat) : Int) :: KrdiNeutral.told (Krdi.act x (KrdiNeutral.call (PyKrdi.whole c))).2 ++ still (Krdi.act x (KrdiNeutral.call (PyKrdi.whole c))).1 raw := rfl
theorem answers_still {l : List Int} {raw : List (List (List Int))} (h : PyFlat.calls PyKrdi.shape l.length l = some raw) : PyKrdi.answers l = still none raw := by
  unfold PyKrdi.answers PyKrdi.calls
  rw [h]
  rfl
end My
namespace My
open Krdf (Table)
/-! ## 18. The fewest; chances for x and y -/
theorem loCh_len (cs : Cells) (x : Rat) : (loCh cs x).length = cs.length := by
  unfold loCh
  rw [tk_len]
  unfold zeros
  rw [List.length_replicate]
theorem loCh_un {cs : Cells} {x : Rat} (h : CsOk cs) (hx : 0 ≤ x) : ∀ q ∈ loCh cs x, Un q :=
  tk_un _ _ _ (fun q hq => by rw [mem_zeros hq]; exact ⟨by decide, by decide⟩) (left_nn (kind := 3) hx (oth_sum h).1)
theorem loCh_dn {cs : Cells} {x : Rat} (h : CsOk cs) (hx : 0 ≤ x) : ∀ q ∈ loCh cs x, Dn (x.den * goes (oth cs)) q :=
  tk_dn (fun s h => goes_at s h) _ _ _ (fun q hq => by rw [mem_zeros hq]; exact Dn.zero) (left_nn (kind := 3) hx (oth_sum h).1) ((Dn.self x).times _)
theorem loCh_sz {m : Nat} {cs : Cells} {x : Rat} (h : CsOk cs) (hx : 0 ≤ x) (sx : Sz m x) : ∀ q ∈ loCh cs x, Sz (m + 130) q := by
  have ⟨o0, o1⟩ := oth_sum h
  have sw : Sz 20 (((oth cs).sum : Int) : Rat) := Sz.int (by omega) (by decide)
  have hl := List.length_filter_le (fun s => decide (0 < (oth cs).getD s 0)) (steep cs (so cs) (oth cs))
  have sl := steep_len (cs := cs) (runs := so cs) (rises := oth cs)
  have h4 := h.len
  exact tk_sz (N := m + 130) (by omega) (runs_small (kind := 3) h) _ _ _ (m + 20) (fun q hq => by rw [mem_zeros hq]; exact Sz.zero (by omega)) (sx.mul sw) (left_nn (kind := 3) hx o0) (by omega)
/-- the y of the fewest for x -/
def lowK (cs : Cells) (x : Rat) : Rat := wsum (loCh cs x) (so cs) / (((so cs).sum : Int) : Rat)
theorem low_un {cs : Cells} {x : Rat} (h : CsOk cs) (hx : 0 ≤ x) (hp : 0 < (so cs).sum) : Un (lowK cs x) := by
  have ⟨w0, w1⟩ := wsum_in (loCh_un h hx) (fun z hz => (so_in h z hz).1) (by rw [loCh_len, len_so])
  exact unit_over w0 w1 hp
theorem low_dn {cs : Cells} {x : Rat} (h : CsOk cs) (hx : 0 ≤ x) (hp : 0 < (so cs).sum) : Dn (x.den * goes (oth cs) * (so cs).sum.toNat) (lowK cs x) := over_int (wsum_dn (loCh_dn h hx)) hp
theorem up_dn {cs : Cells} {x : Rat} (h : CsOk cs) (hx : 0 ≤ x) (hp : 0 < (so cs).sum) : Dn (x.den * goes (oth cs) * (so cs).sum.toNat) (upK cs x) := over_int (wsum_dn (chK_dn (kind := 3) hx (oth_sum h).1)) hp
theorem dn_small {cs : Cells} {x : Rat} {m : Nat} (h : CsOk cs) (sx : Sz m x) : x.den * goes (oth cs) * (so cs).sum.toNat < 2 ^ (m + 36) := by
  have ⟨_, s1⟩ := so_sum h
  have a := mul_pow (mul_pow sx.den (goes_small h)) (show (so cs).sum.toNat < 2 ^ 9 by omega)
  exact Nat.lt_of_lt_of_le a (Nat.pow_le_pow_right (by decide) (by omega))
theorem dn_pos {cs : Cells} {x : Rat} (hp : 0 < (so cs).sum) : 0 < x.den * goes (oth cs) * (so cs).sum.toNat := Nat.mul_pos (Nat.mul_pos x.den_pos (goes_pos _)) (by omega)
theorem low_sz {cs : Cells} {x : Rat} {m : Nat} (h : CsOk cs) (hx : 0 ≤ x) (sx : Sz m x) (hp : 0 < (so cs).sum) : Sz (m + 40) (lowK cs x) := by
  have ⟨u0, u1⟩ := low_un h hx hp
  exact (Sz.of_unit (low_dn h hx hp) (dn_pos hp) u0 u1 (dn_small h sx)).mono (by omega)
theorem lower_eq {t : Table} {g : Nat} {x : Rat} (h : (rowOf t g).length = t.k) (h0 : 0 < (oth (rowOf t g)).sum) : Krdh.lower t g x = lowK (rowOf t g) x := by
  unfold Krdh.lower lowK
  rw [fewest_eq h h0, right_eq h (by rw [loCh_len, h])]
/-- how much of the most -/
def mixK (cs : Cells) (x y : Rat) : Rat := if upK cs x = lowK cs x then 0 else (y - lowK cs x) / (upK cs x - lowK cs x)
def chFor (cs : Cells) (x y : Rat) : List Rat := List.zipWith (fun a b => mixK cs x y * a + (1 - mixK cs x y) * b) (chK 3 0 0 cs x) (loCh cs x)
theorem chFor_len (cs : Cells) (x y : Rat) : (chFor cs x y).length = cs.length := by
  unfold chFor
  rw [List.length_zipWith, chK_len, loCh_len, Nat.min_self]
theorem chancesFor_eq {t : Table} {g : Nat} {x y : Rat} (h : (rowOf t g).length = t.k) (h0 : 0 < (oth (rowOf t g)).sum) (hx : 0 ≤ x) : Krdh.chancesFor t g x y = chFor (rowOf t g) x y := by
  unfold Krdh.chancesFor chFor mixK Table.scores
  dsimp only
  rw [lower_eq h h0, upper_eq h h0 hx, most_eq (u := 0) (v := 0) h h0 hx, fewest_eq h h0]
  refine List.ext_getElem ?_ fun i h1 h2 => ?_
  · rw [List.length_map, List.length_range, List.length_zipWith, chK_len, loCh_len, Nat.min_self, h]
  · rw [List.length_map, List.length_range] at h1
    rw [List.getElem_map, List.getElem_range, List.getElem_zipWith]
    rw [List.getD_eq_getElem?_getD, List.getElem?_eq_getElem (by rw [chK_len, h]; exact h1), List.getD_eq_getElem?_getD, List.getElem?_eq_getElem (by rw [loCh_len, h]; exact h1)]
    rfl
/-! its numbers are not great -/
/-- a quotient of two parts with one lower number -/
theorem quot_sz {D n : Nat} {a b : Rat} (ha : Dn D a) (hb : Dn D b) (hD : 0 < D) (hn : D < 2 ^ n) (hb0 : b ≠ 0) (a1 : -1 ≤ a) (a2 : a ≤ 1) (b1 : -1 ≤ b) (b2 : b ≤ 1) : Sz n (a / b) := by
  have D0 : (0 : Rat) < (D : Rat) := Rat.natCast_pos.mpr hD
  have bound : ∀ (q : Rat) (z : Int), q * (D : Rat) = (z : Rat) → -1 ≤ q → q ≤ 1 → -(D : Int) ≤ z ∧ z ≤ (D : Int) := by
    intro q z e h1 h2
    constructor
    · have h3 : (-1 : Rat) * (D : Rat) ≤ q * (D : Rat) := Rat.mul_le_mul_of_nonneg_right h1 (Rat.le_of_lt D0)
      rw [e] at h3
      have e2 : ((-(D : Int) : Int) : Rat) = (-1 : Rat) * (D : Rat) := by
        rw [Rat.intCast_neg]
        have : (((D : Nat) : Int) : Rat) = (D : Rat) := rfl
        rw [this]
        grind
      rw [← e2] at h3
      exact Rat.intCast_le_intCast.mp h3
    · have h3 : q * (D : Rat) ≤ 1 * (D : Rat) := Rat.mul_le_mul_of_nonneg_right h2 (Rat.le_of_lt D0)
      rw [e, Rat.one_mul] at h3
      exact Rat.intCast_le_intCast.mp (show (z : Rat) ≤ (((D : Nat) : Int) : Rat) from h3)
  obtain ⟨za, ea⟩ := ha
  obtain ⟨zb, eb⟩ := hb
  have ⟨p1, p2⟩ := bound a za ea a1 a2
  have ⟨q1, q2⟩ := bound b zb eb b1 b2
  have zb0 : zb ≠ 0 := fun e => by
    rw [e] at eb
    rcases Rat.mul_eq_zero.mp (show b * (D : Rat) = 0 from eb) with h | h
    · exact hb0 h
    · exact absurd h (Rat.ne_of_gt D0)
  have dn : (D : Rat) ≠ 0 := Rat.ne_of_gt D0
  have q : a / b = (za : Rat) / (zb : Rat) := by
    rw [← ea, ← eb]
    grind
  rw [q]
  by_cases pos : 0 < zb
  · have e : ((zb.natAbs : Nat) : Rat) = (zb : Rat) := by
      have h1 : ((zb.natAbs : Nat) : Int) = zb := by omega
      have h2 : ((zb.natAbs : Nat) : Rat) = (((zb.natAbs : Nat) : Int) : Rat) := rfl
      rw [h2, h1]
    rw [← e, ← Rat.mkRat_eq_div]
    exact Sz.mk_ (by omega) (by omega) (by omega)
  · have e : (za : Rat) / (zb : Rat) = ((-za : Int) : Rat) / ((zb.natAbs : Nat) : Rat) := by
      have h1 : ((zb.natAbs : Nat) : Int) = -zb := by omega
      have h2 : ((zb.natAbs : Nat) : Rat) = (((zb.natAbs : Nat) : Int) : Rat) := rfl
      have nz : (zb : Rat) ≠ 0 := fun h => zb0 (by exact_mod_cast h)
      rw [h2, h1, Rat.intCast_neg, Rat.intCast_neg]
      grind
    rw [e, ← Rat.mkRat_eq_div]
    exact Sz.mk_ (by omega) (by omega) (by omega)
theorem diff_in {a b : Rat} (ha : Un a) (hb : Un b) : -1 ≤ a - b ∧ a - b ≤ 1 := by
  obtain ⟨h1, h2⟩ := ha
  obtain ⟨h3, h4⟩ := hb
  constructor <;> grind
theorem mix_sz {cs : Cells} {x y : Rat} {m E : Nat} (h : CsOk cs) (hx : 0 ≤ x) (sx : Sz m x) (hp : 0 < (so cs).sum) (hE : 0 < E) (hE2 : E < 2 ^ 36) (dy : Dn (x.den * goes (oth cs) * (so cs).sum.toNat * E) y) (uy : Un y) : Sz (m + 72) (mixK cs x y) := by
  unfold mixK
  split
  · exact Sz.zero (by omega)
  · rename_i ne
    have l := (low_dn h hx hp).more E
    have u := (up_dn h hx hp).more E
    have ⟨a1, a2⟩ := diff_in uy (low_un h hx hp)
    have ⟨b1, b2⟩ := diff_in (up_un h hx hp) (low_un h hx hp)
    have small := mul_pow (dn_small h sx) hE2
    exact (quot_sz (n := m + 72) (dy.sub l) (u.sub l) (Nat.mul_pos (dn_pos hp) hE) (Nat.lt_of_lt_of_le small (Nat.pow_le_pow_right (by decide) (by omega))) (by grind) a1 a2 b1 b2)
theorem unit_sz {cs : Cells} {x : Rat} {m : Nat} {q : Rat} (h : CsOk cs) (sx : Sz m x) (d : Dn (x.den * goes (oth cs)) q) (u : Un q) : Sz (m + 28) q := by
  refine Sz.of_unit d (Nat.mul_pos x.den_pos (goes_pos _)) u.1 u.2 ?_
  exact Nat.lt_of_lt_of_le (mul_pow sx.den (goes_small h)) (Nat.pow_le_pow_right (by decide) (by omega))
theorem chFor_sz {cs : Cells} {x y : Rat} {m E : Nat} (h : CsOk cs) (hx : 0 ≤ x) (sx : Sz m x) (hp : 0 < (so cs).sum) (hE : 0 < E) (hE2 : E < 2 ^ 36) (dy : Dn (x.den * goes (oth cs) * (so cs).sum.toNat * E) y) (uy : Un y) : ∀ q ∈ chFor cs x y, Sz (4 * m + 210) q := by
  have k := mix_sz h hx sx hp hE hE2 dy uy
  intro q hq
  unfold chFor at hq
  obtain ⟨i, hi, rfl⟩ := List.getElem_of_mem hq
  rw [List.getElem_zipWith]
  rw [List.length_zipWith] at hi
  have m1 := List.getElem_mem (l := chK 3 0 0 cs x) (n := i) (by omega)
  have m2 := List.getElem_mem (l := loCh cs x) (n := i) (by omega)
  have s1 := unit_sz h sx (chK_dn (kind := 3) hx (oth_sum h).1 _ m1) (chK_un (kind := 3) hx (oth_sum h).1 _ m1)
  have s2 := unit_sz h sx (loCh_dn h hx _ m2) (loCh_un h hx _ m2)
  exact ((k.mul s1).add (((Sz.one (n := 1) (by decide)).sub k).mul s2)).mono (by omega)
/-! the best of both alike, in a group -/
theorem least_dn0 {c0 c1 : Cells} {x : Rat} (f : Full c0 c1) (hx : 0 ≤ x) : Dn (x.den * goes (oth c0) * (so c0).sum.toNat * (goes (oth c1) * (so c1).sum.toNat)) (leastK c0 c1 x) := by
  unfold leastK
  split
  · have h := (up_dn f.ok1 hx f.so1).more (goes (oth c0) * (so c0).sum.toNat)
    have e : x.den * goes (oth c1) * (so c1).sum.toNat * (goes (oth c0) * (so c0).sum.toNat) = x.den * goes (oth c0) * (so c0).sum.toNat * (goes (oth c1) * (so c1).sum.toNat) := by
      simp only [Nat.mul_assoc, Nat.mul_comm, Nat.mul_left_comm]
    rw [e] at h
    exact h
  · exact (up_dn f.ok0 hx f.so0).more _
theorem least_dn1 {c0 c1 : Cells} {x : Rat} (f : Full c0 c1) (hx : 0 ≤ x) : Dn (x.den * goes (oth c1) * (so c1).sum.toNat * (goes (oth c0) * (so c0).sum.toNat)) (leastK c0 c1 x) := by
  have h := least_dn0 f hx
  have e : x.den * goes (oth c0) * (so c0).sum.toNat * (goes (oth c1) * (so c1).sum.toNat) = x.den * goes (oth c1) * (so c1).sum.toNat * (goes (oth c0) * (so c0).sum.toNat) := by
    simp only [Nat.mul_assoc, Nat.mul_comm, Nat.mul_left_comm]
  rw [e] at h
  exact h
theorem gy_small {cs : Cells} (h : CsOk cs) (hp : 0 < (so cs).sum) : 0 < goes (oth cs) * (so cs).sum.toNat ∧ goes (oth cs) * (so cs).sum.toNat < 2 ^ 36 := by
  have ⟨_, s1⟩ := so_sum h
  exact ⟨Nat.mul_pos (goes_pos _) (by omega), mul_pow (goes_small h) (show (so cs).sum.toNat < 2 ^ 9 by omega)⟩
/-- the chances of the most of a kind, in a group -/
def ruleK (kind u v : Nat) (c0 c1 : Cells) (cs : Cells) : List Rat :=
  if kind = 0 then (gai u v cs).map (fun z : Int => if 0 < z then (1 : Rat) else 0)
  else if kind = 3 then chFor cs (bestK 3 u v c0 c1) (leastK c0 c1 (bestK 3 u v c0 c1))
  else chK kind u v cs (bestK kind u v c0 c1)
theorem ruleK_len (kind u v : Nat) (c0 c1 cs : Cells) : (ruleK kind u v c0 c1 cs).length = cs.length := by
  unfold ruleK
  split
  · rw [List.length_map, len_gai]
  · split
    · exact chFor_len _ _ _
    · exact chK_len _ _ _ _ _
theorem ruleK_sz {kind u v : Nat} {c0 c1 cs : Cells} (f : Full c0 c1) (hc : cs = c0 ∨ cs = c1) : ∀ q ∈ ruleK kind u v c0 c1 cs, Sz 1900 q := by
  have okc : CsOk cs := by
    rcases hc with rfl | rfl
    · exact f.ok0
    · exact f.ok1
  intro q hq
  unfold ruleK at hq
  split at hq
  · obtain ⟨z, _, rfl⟩ := List.mem_map.mp hq
    split
    · exact Sz.one (by decide)
    · exact Sz.zero (by decide)
  · split at hq
    · have ⟨b0, _, bs⟩ := cand_in f (best_cand (kind := 3) (u := u) (v := v) f)
      have un := least_un f b0
      rcases hc with rfl | rfl
      · have ⟨e1, e2⟩ := gy_small f.ok1 f.so1
        exact (chFor_sz f.ok0 b0 bs f.so0 e1 e2 (least_dn0 f b0) un q hq).mono (by decide)
      · have ⟨e1, e2⟩ := gy_small f.ok0 f.so0
        exact (chFor_sz f.ok1 b0 bs f.so1 e1 e2 (least_dn1 f b0) un q hq).mono (by decide)
    · have ⟨b0, _, bs⟩ := cand_in f (best_cand (kind := kind) (u := u) (v := v) f)
      exact (ch_sz okc b0 bs q hq).mono (by decide)
theorem freely_eq {t : Table} {g : Nat} {cs : Cells} {p : Krdi.Pays} (hr : rowOf t g = cs) (h : cs.length = t.k) : Krdi.freely t p g = (gai p.gain p.loss cs).map fun z : Int => if 0 < z then (1 : Rat) else 0 := by
  have hk : (rowOf t g).length = t.k := by rw [hr]; exact h
  unfold Krdi.freely Table.scores
  rw [← hk]
  have e1 : (fun s => if 0 < Krdi.cellGain t p g s then (1 : Rat) else 0) = fun s => (fun z : Int => if 0 < z then (1 : Rat) else 0) ((gai p.gain p.loss cs).getD s 0) := by
    funext s
    rw [gain_at, hr]
  rw [e1, hr, ← len_gai p.gain p.loss cs]
  exact range_map (fun z : Int => if 0 < z then (1 : Rat) else 0) _ 0
theorem rule_row {t : Table} {c0 c1 cs : Cells} (T : Tab t c0 c1) (f : Full c0 c1) {p : Krdi.Pays} {kind g : Nat} (hk : kind ≤ 3) (hr : rowOf t g = cs) (h : cs.length = t.k) (o0 : 0 < (oth cs).sum) (s0 : 0 < (so cs).sum) : (if kind = 0 then Krdi.freely t p g else if kind = 1 then Krdi.forPart t p g (Krdi.bestPart t p) else if kind = 2 then Krdi.forHits t g (Krdi.bestHits t p) else let b := Krdh.best t p.gain p.loss
    Krdh.chancesFor t g b.1 b.2) = ruleK kind p.gain p.loss c0 c1 cs := by
  have hl : (rowOf t g).length = t.k := by rw [hr]; exact h
  have z0 : 0 < (siz cs).sum := by rw [siz_sum]; omega
  unfold ruleK
  by_cases k0 : kind = 0
  · rw [if_pos k0, if_pos k0, freely_eq hr h]
  · rw [if_neg k0, if_neg k0]
    by_cases k1 : kind = 1
    · subst k1
      rw [if_pos rfl, if_neg (by decide), bestPart_eq T f, forPart_eq hl (by rw [hr]; exact z0), hr]
    · rw [if_neg k1]
      by_cases k2 : kind = 2
      · subst k2
        rw [if_pos rfl, if_neg (by decide), bestHits_eq T f, forHits_eq (u := p.gain) (v := p.loss) hl (by rw [hr]; exact s0), hr]
      · have k3 : kind = 3 := by omega
        subst k3
        rw [if_neg k2, if_pos rfl, best3_eq T f]
        dsimp only
        rw [chancesFor_eq hl (by rw [hr]; exact o0) (cand_in f (best_cand f)).1, hr]
theorem rules_eq {t : Table} {c0 c1 : Cells} (T : Tab t c0 c1) (f : Full c0 c1) {p : Krdi.Pays} {kind : Nat} (hk : kind ≤ 3) : Krdi.rules t p kind = [ruleK kind p.gain p.loss c0 c1 c0, ruleK kind p.gain p.loss c0 c1 c1] := by
  have e0 := rule_row (p := p) T f hk T.r0 T.k0 f.oth0 f.so0
  have e1 := rule_row (p := p) T f hk T.r1 T.k1 f.oth1 f.so1
  rw [← e0, ← e1]
  rfl
end My
namespace My
open Krdf (Table)
/-! ## 19. The most is no less than the fewest -/
theorem foldl_shift : ∀ (l : List Rat) (a : Rat), l.foldl (· + ·) a = a + l.foldl (· + ·) 0
  | [], a => by
    show a = a + 0
    grind
  | x :: l, a => by
    rw [List.foldl_cons, List.foldl_cons, foldl_shift l (a + x), foldl_shift l (0 + x)]
    grind
theorem wsum_cons (x : Rat) (c : List Rat) (z : Int) (ws : List Int) : wsum (x :: c) (z :: ws) = x * (z : Rat) + wsum c ws := by
  unfold wsum
  rw [List.zip_cons_cons, List.map_cons, List.foldl_cons, foldl_shift]
  grind
theorem wsum_set : ∀ (c : List Rat) (ws : List Int) (s : Nat) (q : Rat), s < c.length → c.length = ws.length → c.getD s 0 = 0 → wsum (c.set s q) ws = wsum c ws + q * ((ws.getD s 0 : Int) : Rat)
  | [], _, _, _, h, _, _ => absurd h (Nat.not_lt_zero _)
  | x :: c, [], _, _, _, hl, _ => absurd hl (by simp)
  | x :: c, z :: ws, 0, q, _, _, h0 => by
    have e : x = 0 := h0
    subst e
    show wsum (q :: c) (z :: ws) = wsum (0 :: c) (z :: ws) + q * ((z : Int) : Rat)
    rw [wsum_cons, wsum_cons]
    grind
  | x :: c, z :: ws, s + 1, q, h, hl, h0 => by
    show wsum (x :: c.set s q) (z :: ws) = wsum (x :: c) (z :: ws) + q * ((ws.getD s 0 : Int) : Rat)
    have ih := wsum_set c ws s q (by simpa using h) (by simpa using hl) h0
    rw [wsum_cons, wsum_cons, ih]
    grind
theorem getD_set_self {c : List Rat} {s : Nat} {q : Rat} (h : s < c.length) : (c.set s q).getD s 0 = q := by
  rw [List.getD_eq_getElem?_getD, List.getElem?_set_self h]
  rfl
theorem tk_out {runs : List Int} {t : Nat} : ∀ (l : List Nat) (x : Rat) (c : List Rat), t ∉ l → (tk runs l x c).getD t 0 = c.getD t 0
  | [], _, _, _ => rfl
  | s :: l, x, c, h => by
    have ne : s ≠ t := fun e => h (by rw [e]; exact List.mem_cons_self)
    have hl : t ∉ l := fun e => h (List.mem_cons_of_mem _ e)
    unfold tk
    split
    · exact getD_set_ne ne
    · rw [tk_out l _ _ hl, getD_set_ne ne]
theorem runSum_cons (runs : List Int) (s : Nat) (l : List Nat) : runSum runs (s :: l) = runs.getD s 0 + runSum runs l := by
  unfold runSum
  rw [List.map_cons, List.sum_cons]
/-- so many are chosen -/
theorem tk_sum {runs : List Int} : ∀ (l : List Nat) (x : Rat) (c : List Rat), l.Nodup → (∀ s ∈ l, s < c.length) → c.length = runs.length → (∀ s ∈ l, c.getD s 0 = 0) → 0 ≤ x → x ≤ ((runSum runs l : Int) : Rat) → wsum (tk runs l x c) runs = wsum c runs + x
  | [], x, c, _, _, _, _, h0, h1 => by
    have e : ((runSum runs [] : Int) : Rat) = 0 := rfl
    rw [e] at h1
    show wsum c runs = wsum c runs + x
    grind
  | s :: l, x, c, nd, hl, hc, hz, h0, h1 => by
    have ⟨n1, n2⟩ := List.nodup_cons.mp nd
    have hs := hl s List.mem_cons_self
    unfold tk
    split
    · rename_i lt
      rw [wsum_set c runs s _ hs hc (hz s List.mem_cons_self)]
      have pos : (0 : Rat) < ((runs.getD s 0 : Int) : Rat) := by grind
      rw [Rat.div_mul_cancel (Rat.ne_of_gt pos)]
    · rename_i ge
      rw [runSum_cons, Rat.intCast_add] at h1
      rw [tk_sum l _ _ n2 (fun t ht => by rw [List.length_set]; exact hl t (List.mem_cons_of_mem _ ht)) (by rw [List.length_set]; exact hc) (fun t ht => by
        rw [getD_set_ne (fun e => n1 (by rw [e]; exact ht))]
        exact hz t (List.mem_cons_of_mem _ ht)) (by grind) (by grind), wsum_set c runs s _ hs hc (hz s List.mem_cons_self)]
      grind
/-- the steepest first -/
def Srt (runs rises : List Int) (l : List Nat) : Prop := l.Pairwise fun a b => rises.getD b 0 * runs.getD a 0 ≤ rises.getD a 0 * runs.getD b 0
theorem cross_tr {px qx py qy pb qb : Int} (hpy : 0 ≤ py) (hqx : 0 ≤ qx) (hqy : 0 ≤ qy) (hqb : 0 ≤ qb) (h1 : py * qx < px * qy) (h2 : pb * qy ≤ py * qb) : pb * qx ≤ px * qb := by
  have qy0 : 0 < qy := by
    rcases Int.lt_or_eq_of_le hqy with h | h
    · exact h
    · rw [← h, Int.mul_zero] at h1
      exact absurd h1 (Int.not_lt.mpr (Int.mul_nonneg hpy hqx))
  have a := Int.mul_le_mul_of_nonneg_right h2 hqx
  have b := Int.mul_le_mul_of_nonneg_right (Int.le_of_lt h1) hqb
  have c : pb * qx * qy ≤ px * qb * qy := by grind
  exact Int.le_of_mul_le_mul_right c qy0
theorem srt_insert {runs rises : List Int} {x : Nat} (h0 : ∀ y, 0 ≤ runs.getD y 0) (h1 : ∀ y, 0 ≤ rises.getD y 0) : ∀ {l : List Nat}, Srt runs rises l → Srt runs rises (Krdh.insert (ahead runs rises) x l)
  | [], _ => List.pairwise_singleton _ _
  | y :: l, h => by
    unfold Srt at h
    rw [List.pairwise_cons] at h
    unfold Krdh.insert
    by_cases c : ahead runs rises x y = true
    · rw [if_pos c]
      unfold ahead at c
      have c' := of_decide_eq_true c
      unfold Srt
      rw [List.pairwise_cons]
      refine ⟨fun b hb => ?_, List.pairwise_cons.mpr h⟩
      rcases List.mem_cons.mp hb with rfl | hb
      · exact Int.le_of_lt c'
      · exact cross_tr (h1 y) (h0 x) (h0 y) (h0 b) c' (h.1 b hb)
    · rw [if_neg c]
      unfold Srt
      rw [List.pairwise_cons]
      refine ⟨fun b hb => ?_, srt_insert h0 h1 h.2⟩
      have hb' := (insert_perm (ahead runs rises) x l).mem_iff.mp hb
      rcases List.mem_cons.mp hb' with rfl | hb'
      · unfold ahead at c
        exact Int.not_lt.mp fun z => c (decide_eq_true z)
      · exact h.1 b hb'
theorem srt_fold {runs rises : List Int} (h0 : ∀ y, 0 ≤ runs.getD y 0) (h1 : ∀ y, 0 ≤ rises.getD y 0) : ∀ (l acc : List Nat), Srt runs rises acc → Srt runs rises (l.foldl (fun l s => Krdh.insert (ahead runs rises) s l) acc)
  | [], _, h => h
  | x :: l, acc, h => by
    rw [List.foldl_cons]
    exact srt_fold h0 h1 l _ (srt_insert h0 h1 h)
/-- beside a slope: what is steeper is chosen, what is less steep is not -/
def Good (runs rises : List Int) (lam : Rat) (s : Nat) (q : Rat) : Prop := (q = 1 ∧ lam * ((runs.getD s 0 : Int) : Rat) ≤ ((rises.getD s 0 : Int) : Rat)) ∨ (q = 0 ∧ ((rises.getD s 0 : Int) : Rat) ≤ lam * ((runs.getD s 0 : Int) : Rat)) ∨ ((rises.getD s 0 : Int) : Rat) = lam * ((runs.getD s 0 : Int) : Rat)
theorem cross_rat {a b c d : Int} (h : a * b ≤ c * d) : (a : Rat) * (b : Rat) ≤ (c : Rat) * (d : Rat) := by
  rw [← Rat.intCast_mul, ← Rat.intCast_mul]
  exact Rat.intCast_le_intCast.mpr h
theorem tk_thr {runs rises : List Int} (h0 : ∀ s, 0 ≤ runs.getD s 0) (h1 : ∀ s, 0 ≤ rises.getD s 0) : ∀ (l : List Nat) (x : Rat) (c : List Rat), Srt runs rises l → l.Nodup → (∀ s ∈ l, s < c.length) → (∀ s ∈ l, c.getD s 0 = 0) → 0 ≤ x →
    ∃ lam : Rat, (lam = 0 ∨ ∃ t ∈ l, 0 < runs.getD t 0 ∧ lam * ((runs.getD t 0 : Int) : Rat) = ((rises.getD t 0 : Int) : Rat)) ∧ ∀ s ∈ l, Good runs rises lam s ((tk runs l x c).getD s 0)
  | [], _, _, _, _, _, _, _ => ⟨0, .inl rfl, fun s hs => absurd hs List.not_mem_nil⟩
  | s :: l, x, c, srt, nd, hl, hz, hx => by
    have ⟨n1, n2⟩ := List.nodup_cons.mp nd
    have ⟨p1, p2⟩ := List.pairwise_cons.mp srt
    have hs := hl s List.mem_cons_self
    unfold tk
    split
    · rename_i lt
      have pos : (0 : Rat) < ((runs.getD s 0 : Int) : Rat) := by grind
      have e : ((rises.getD s 0 : Int) : Rat) / ((runs.getD s 0 : Int) : Rat) * ((runs.getD s 0 : Int) : Rat) = ((rises.getD s 0 : Int) : Rat) := Rat.div_mul_cancel (Rat.ne_of_gt pos)
      generalize ((rises.getD s 0 : Int) : Rat) / ((runs.getD s 0 : Int) : Rat) = lam at e
      refine ⟨lam, .inr ⟨s, List.mem_cons_self, Rat.intCast_pos.mp pos, e⟩, fun t ht => ?_⟩
      rcases List.mem_cons.mp ht with rfl | ht
      · exact .inr (.inr e.symm)
      · refine .inr (.inl ⟨?_, ?_⟩)
        · rw [getD_set_ne (fun e => n1 (by rw [e]; exact ht))]
          exact hz t (List.mem_cons_of_mem _ ht)
        · have q := cross_rat (p1 t ht)
          rw [← e] at q
          have q2 : ((rises.getD t 0 : Int) : Rat) * ((runs.getD s 0 : Int) : Rat) ≤ lam * ((runs.getD t 0 : Int) : Rat) * ((runs.getD s 0 : Int) : Rat) := by grind
          exact Rat.le_of_mul_le_mul_right q2 pos
    · rename_i ge
      obtain ⟨lam, or, gd⟩ := tk_thr h0 h1 l (x - ((runs.getD s 0 : Int) : Rat)) (c.set s 1) p2 n2 (fun t ht => by rw [List.length_set]; exact hl t (List.mem_cons_of_mem _ ht)) (fun t ht => by
        rw [getD_set_ne (fun e => n1 (by rw [e]; exact ht))]
        exact hz t (List.mem_cons_of_mem _ ht)) (by grind)
      refine ⟨lam, ?_, fun t ht => ?_⟩
      · rcases or with e | ⟨t, ht, e⟩
        · exact .inl e
        · exact .inr ⟨t, List.mem_cons_of_mem _ ht, e⟩
      · rcases List.mem_cons.mp ht with rfl | ht
        · refine .inl ⟨?_, ?_⟩
          · rw [tk_out l _ _ n1, getD_set_self hs]
          · rcases or with e | ⟨t2, ht2, r0, e⟩
            · rw [e, Rat.zero_mul]
              exact Rat.intCast_nonneg.mpr (h1 t)
            · have q := cross_rat (p1 t2 ht2)
              rw [← e] at q
              have pos : (0 : Rat) < ((runs.getD t2 0 : Int) : Rat) := Rat.intCast_pos.mpr r0
              have q2 : lam * ((runs.getD t 0 : Int) : Rat) * ((runs.getD t2 0 : Int) : Rat) ≤ ((rises.getD t 0 : Int) : Rat) * ((runs.getD t2 0 : Int) : Rat) := by grind
              exact Rat.le_of_mul_le_mul_right q2 pos
        · exact gd t ht
theorem wsum_cmp (lam : Rat) : ∀ (p q : List Int) (a b : List Rat), a.length = p.length → b.length = p.length → q.length = p.length → (∀ i, i < p.length → 0 ≤ (((p.getD i 0 : Int) : Rat) - lam * ((q.getD i 0 : Int) : Rat)) * (a.getD i 0 - b.getD i 0)) → wsum b p - lam * wsum b q ≤ wsum a p - lam * wsum a q
  | [], [], [], [], _, _, _, _ => Rat.le_refl
  | p0 :: p, q0 :: q, a0 :: a, b0 :: b, ha, hb, hq, h => by
    have ih := wsum_cmp lam p q a b (by simpa using ha) (by simpa using hb) (by simpa using hq) fun i hi => h (i + 1) (by simpa using hi)
    have z : 0 ≤ ((p0 : Rat) - lam * (q0 : Rat)) * (a0 - b0) := h 0 (by simp)
    rw [wsum_cons, wsum_cons, wsum_cons, wsum_cons]
    grind
  | [], q0 :: q, _, _, _, _, hq, _ => absurd hq (by simp)
  | [], [], a0 :: a, _, ha, _, _, _ => absurd ha (by simp)
  | [], [], [], b0 :: b, _, hb, _, _ => absurd hb (by simp)
  | p0 :: p, [], _, _, _, _, hq, _ => absurd hq (by simp)
  | p0 :: p, q0 :: q, [], _, ha, _, _, _ => absurd ha (by simp)
  | p0 :: p, q0 :: q, a0 :: a, [], _, hb, _, _ => absurd hb (by simp)
theorem good_prod {runs rises : List Int} {lam : Rat} {s : Nat} {q b : Rat} (h : Good runs rises lam s q) (hb : Un b) : 0 ≤ (((rises.getD s 0 : Int) : Rat) - lam * ((runs.getD s 0 : Int) : Rat)) * (q - b) := by
  obtain ⟨b0, b1⟩ := hb
  rcases h with ⟨e, h⟩ | ⟨e, h⟩ | h
  · rw [e]
    exact Rat.mul_nonneg (by grind) (by grind)
  · rw [e]
    have := Rat.mul_nonneg (show 0 ≤ lam * ((runs.getD s 0 : Int) : Rat) - ((rises.getD s 0 : Int) : Rat) by grind) b0
    grind
  · rw [h]
    grind
theorem getD_un {c : List Rat} (h : ∀ q ∈ c, Un q) (i : Nat) : Un (c.getD i 0) := by
  rw [List.getD_eq_getElem?_getD]
  cases e : c[i]? with
  | none => exact ⟨by decide, by decide⟩
  | some q => exact h q (List.mem_of_getElem? e)
theorem low_le_up {cs : Cells} {x : Rat} (h : CsOk cs) (hx : 0 ≤ x) (x1 : x ≤ 1) (hp : 0 < (so cs).sum) : lowK cs x ≤ upK cs x := by
  have nO : ∀ s, 0 ≤ (oth cs).getD s 0 := fun s => by rw [oth_at]; omega
  have nS : ∀ s, 0 ≤ (so cs).getD s 0 := fun s => by rw [so_at]; omega
  have o0 : (0 : Rat) ≤ (((oth cs).sum : Int) : Rat) := Rat.intCast_nonneg.mpr (oth_sum h).1
  have l0 : 0 ≤ x * (((oth cs).sum : Int) : Rat) := Rat.mul_nonneg hx o0
  have l1 : x * (((oth cs).sum : Int) : Rat) ≤ (((oth cs).sum : Int) : Rat) := by
    have := Rat.mul_le_mul_of_nonneg_right x1 o0
    rw [Rat.one_mul] at this
    exact this
  have zl : (zeros cs.length).length = cs.length := List.length_replicate
  have hzz : ∀ s, cs.getD s (0, 0) = (0, 0) → (oth cs).getD s 0 = 0 := fun s e => by rw [oth_at, e]; rfl
  have eU : wsum (chK 3 0 0 cs x) (oth cs) = wsum (zeros cs.length) (oth cs) + x * (((oth cs).sum : Int) : Rat) :=
    tk_sum (runs := oth cs) (steep cs (oth cs) (so cs)) _ (zeros cs.length) (steep_nodup _ _ _) (fun s hs => by rw [zl]; exact (mem_steep.mp hs).1) (by rw [zl, len_oth]) (fun s _ => zeros_at _ _) l0 (by rw [runSum_all (len_oth cs) hzz]; exact l1)
  have eL : wsum (loCh cs x) (oth cs) = wsum (zeros cs.length) (oth cs) + x * (((oth cs).sum : Int) : Rat) :=
    tk_sum (runs := oth cs) _ _ (zeros cs.length) ((steep_nodup cs (so cs) (oth cs)).filter _) (fun s hs => by rw [zl]; exact (mem_steep.mp (List.mem_filter.mp hs).1).1) (by rw [zl, len_oth]) (fun s _ => zeros_at _ _) l0 (by rw [runSum_some nO, runSum_all (len_oth cs) hzz]; exact l1)
  obtain ⟨lam, _, gd⟩ := tk_thr (runs := oth cs) (rises := so cs) nO nS (steep cs (oth cs) (so cs)) (x * (((oth cs).sum : Int) : Rat)) (zeros cs.length) (srt_fold nO nS _ _ List.Pairwise.nil) (steep_nodup _ _ _) (fun s hs => by rw [zl]; exact (mem_steep.mp hs).1) (fun s _ => zeros_at _ _) l0
  have cmp := wsum_cmp lam (so cs) (oth cs) (chK 3 0 0 cs x) (loCh cs x) (by rw [chK_len, len_so]) (by rw [loCh_len, len_so]) (by rw [len_oth, len_so]) fun i hi => by
    have ub := getD_un (loCh_un h hx) i
    by_cases hm : i ∈ steep cs (oth cs) (so cs)
    · exact good_prod (gd i hm) ub
    · rw [len_so] at hi
      have e : cs.getD i (0, 0) = (0, 0) := Decidable.byContradiction fun z => hm (mem_steep.mpr ⟨hi, z⟩)
      have e1 : (so cs).getD i 0 = 0 := by rw [so_at, e]; rfl
      rw [e1, hzz i e]
      have e2 : ((0 : Int) : Rat) = 0 := rfl
      rw [e2]
      grind
  rw [eU, eL] at cmp
  have le : wsum (loCh cs x) (so cs) ≤ wsum (chK 3 0 0 cs x) (so cs) := by grind
  have sp : (0 : Rat) < (((so cs).sum : Int) : Rat) := Rat.intCast_pos.mpr hp
  unfold lowK upK
  rw [Rat.div_def, Rat.div_def]
  exact Rat.mul_le_mul_of_nonneg_right le (Rat.le_of_lt (Rat.inv_pos.mpr sp))
end My
namespace My
open PySem PySem.Spec PyProof.Rows L2
/-! ## The text by places, defs by their promise -/
def top (i : Nat) : Stmt := PySem.Challenge.pw_faircosts_s01_answers.main.body.getD i (.Pass ⟨0, 0, 0, 0⟩)
/-- the name x holds a def of the text that keeps sp -/
structure OkAt (P : Program) (w : World) (K : PySem.W.Frag) (mg : Str → Option Value) (base : Heap) (k : Nat) (x : Str) (ps : List Str) (sp : Sp) : Prop where
  ex : ∃ (f : Addr) (fd : FuncData), mg x = some (.ref f) ∧ PySem.W.keepIn K (.ref f) = true ∧ Binds K fd ps [] ∧ FnOk P w K mg base CX0 k f fd ps sp
structure DefAt (K : PySem.W.Frag) (mg : Str → Option Value) (x : Str) (st : Stmt) : Prop where
  ex : ∃ (f : Addr) (fd : FuncData), Fun K x x st f fd ∧ mg x = some (.ref f)
theorem defAt_mk {K : PySem.W.Frag} {h : Heap} {mg : Str → Option Value} {x : Str} {st : Stmt} {f : Addr} {oc : Value} {od an : Option Addr} {osl : Array (Option Value)} {kV doc pm cdv ct : Value} (X : K.In h) (G : h.Ns mainGlobals mg)
    (a : PySem.W.nsIn K mainGlobals x = some (some (.ref f))) (l : K.lookup f = some ⟨oc, od, .func (PySem.W.fnOf x x (defArgs st) (defBody st) (defScope st) .none kV doc pm an cdv ct), osl⟩)
    (c : PySem.W.codeIn K cdv x = true) (k : PySem.W.keepIn K (.ref f) = true) : DefAt K mg x st := ⟨⟨f, _, fun_mk l c k, PySem.W.mg_of X G a⟩⟩
section
variable {X : Cx} {k : Nat} {ps : List Str} {sp : Sp} {x : Str} {p pos : Pos} {e : Expr} {es : List Expr} {t : TA}
def tCallO (sp : Sp) (t : TA) : TE := fun σ H Q => t σ H fun vs H1 => sp vs H1 Q E0
theorem pe_callO (G : OkAt X.prog X.w X.K X.mg X.base k x ps sp) (hr : Room k X.A) (hg : Gl X x) (ha : PA X (e :: es) t) (hdb : (x == ("__debug__" : Str)) = false := by decide)
    (he : starEach (e :: es) X.env = (false, eval e X.env) :: starEach es X.env := by rfl) (hpl : (backTo pos (starEach es X.env)).any (·.1) = false := by rfl) :
    PE X (.Call (.Name x p) (e :: es) [] pos) (tCallO sp t) := by
  obtain ⟨f, fd, hm, hk, hb, F⟩ := G.ex
  have h := pe_call (p := p) (pos := pos) F hr hg hm hk hb .nil pass0 ha hdb he hpl
  have e0 : tCall sp [] E0 t = tCallO sp t := by
    funext σ H Q
    unfold tCall tCallO
    simp only [List.append_nil]
  rw [← e0]
  exact h
/-- a module's whole number -/
theorem pe_gi {i : Int} (h : ∃ t, X.mg x = some (.int i t)) (hg : Gl X x) (hd : (x == ("__debug__" : Str)) = false := by decide) : PE X (.Name x pos) (tC (.int i)) := by
  obtain ⟨t, h⟩ := h
  exact pe_glob hg h ⟨t, rfl⟩ hd
/-- a module's tuple -/
def tGT (K : PySem.W.Frag) (xs : List V) : TE := fun _ H Q => ∀ z, (∀ H', SqT K H' z xs) → Q (.ref z) H
theorem pe_gt {xs : List V} (h : ∃ z, X.mg x = some (.ref z) ∧ ∀ H', SqT X.K H' z xs) (hg : Gl X x) (hd : (x == ("__debug__" : Str)) = false := by decide) : PE X (.Name x pos) (tGT X.K xs) := by
  obtain ⟨z, h, hz⟩ := h
  refine ⟨fun pins s σ H Q I q => ?_⟩
  exact (pe_glob (v := .ref z) (pos := pos) hg h rfl hd).run pins s σ H Q I (q z hz)
end
/-! ## What stands where -/
/-- a value that is the fraction q -/
def Fr (K : PySem.W.Frag) (H : Hp) (v : V) (q : Rat) : Prop := ∃ a, v = .ref a ∧ SqT K H a [.int q.num, .int (q.den : Int)]
/-- what is answered by a def that only makes things -/
def Gives (H : Hp) (Q : VK) (R : Hp → V → Prop) : Prop := ∀ H' v, Same H H' → R H' v → Q v H'
theorem Same.tup {K : PySem.W.Frag} {H H' : Hp} {a : Addr} {xs : List V} (e : Same H H') (h : SqT K H a xs) : SqT K H' a xs := by
  rcases h with (h | ⟨o, h⟩) | h
  · exact .inl (.inl (e _ _ h))
  · exact .inl (.inr ⟨o, e _ _ h⟩)
  · exact .inr h
theorem Same.new {H : Hp} {a : Addr} {o : HO} (h : H a = none) : Same H (upd H a o) := fun b u e => by
  rw [upd_ne (ne_of_none e h)]
  exact e
theorem Fr.same {K : PySem.W.Frag} {H H' : Hp} {v : V} {q : Rat} (h : Fr K H v q) (e : Same H H') : Fr K H' v q := by
  obtain ⟨a, rfl, h⟩ := h
  exact ⟨a, rfl, Same.tup e h⟩
theorem Fr.new {K : PySem.W.Frag} {H : Hp} {a : Addr} {q : Rat} : Fr K (upd H a (.tup [.int q.num, .int (q.den : Int)])) (.ref a) q := ⟨a, rfl, SqT.of upd_same⟩
theorem two_le : [V.int a, V.int b].length ≤ sizeLine := by
  show 2 ≤ sizeLine
  decide
structure Blt (mg : Str → Option Value) : Prop where
  len : mg "len" = none
  abs : mg "abs" = none
  sum : mg "sum" = none
  range : mg "range" = none
  zip : mg "zip" = none
  sorted : mg "sorted" = none
  set : mg "set" = none
  all : mg "all" = none
theorem at0 {x : V} {l : List V} : atI (x :: l) (0 : Int) = some x := atI_nat (j := 0) rfl
theorem at1 {x y : V} {l : List V} : atI (x :: y :: l) (1 : Int) = some y := atI_nat (j := 1) rfl
/-! ## ratios.py -/
section
variable {P : Program} {w : World} {K : PySem.W.Frag} {mg : Str → Option Value} {base : Heap}
/-- how a def of the text comes to its promise -/
theorem okAt_of {x : Str} {st : Stmt} {ps : List Str} {k : Nat} {sp : Sp} (D : DefAt K mg x st) (hb : ∀ (kV doc pm : Value) (an : Option Addr) (cdv ct : Value) (us : List Value), us.length = ps.length → bindArgs (PySem.W.fnOf x x (defArgs st) (defBody st) (defScope st) .none kV doc pm an cdv ct) ⟨us, []⟩ = pure (ps.zip us))
    (h : ∀ f fd, Fun K x x st f fd → FnOk P w K mg base CX0 k f fd ps sp) : OkAt P w K mg base k x ps sp := by
  obtain ⟨f, fd, F, m⟩ := D.ex
  exact ⟨f, fd, m, F.kp, F.binds hb, h f fd F⟩
end
end My
namespace My
open PySem PySem.Spec PyProof.Rows L2
/-! ## set(xs), xs a list of whole numbers: the road of a tuple's set, with the list's own iterator -/
/-- a set just made -/
abbrev emptySet (w : World) : Obj := { cls := .type "set", dict := none, data := .set #[] 0 (.fresh 0 0 (!w.params.followText "set-order")) }
/-- what set(xs) leaves -/
def SetLeft (w : World) (ns : List Int) (s s2 : Shared) : Prop := ∃ (h' : Heap) (tk c : Nat), s2 = { s with heap := h', toks := tk } ∧ SetR w h' s.heap.objs.size (fun j => decide (j ∈ ns)) c ∧ c ≤ ns.length ∧ ∀ b o, s.heap.get? b = some o → h'.get? b = some o
section
variable {P : Program} {w : World} {A : Around} {E : Value → Shared → Prop} {s : Shared}
theorem list_int_at {items : Array Value} {ns : List Int} (hit : IntsAre items.toList ns) (hsz : items.size = ns.length) (i : Nat) (v : Value) (hv : items[i]? = some v) : ∃ k t, ns[i]? = some k ∧ v = .int k t := by
  have hi : i < ns.length := by
    rw [← hsz]
    exact (Array.getElem?_eq_some_iff.mp hv).1
  obtain ⟨t, e⟩ := IntsAre.int_at hit i v (by rw [Array.getElem?_toList]; exact hv)
  refine ⟨ns[i], t, List.getElem?_eq_getElem hi, ?_⟩
  rw [List.getD_eq_getElem?_getD, List.getElem?_eq_getElem hi] at e
  exact e
theorem call_set_ints {l : Addr} {items : Array Value} (ns : List Int) {Q : Value → Shared → Prop} (hh : A.handled = none) (lst : s.heap.IsList l items) (hit : IntsAre items.toList ns) (room : ns.length + 1 < scanBound)
    (fin : ∀ s2, SetLeft w ns s s2 → Q (.ref s.heap.objs.size) s2) : wpAny (model P w) A (call (.type "set") [.ref l]) Q E s := by
  have size_eq : items.size = ns.length := by
    rw [← IntsAre.length hit, Array.length_toList]
  have made := F.called_set.made
  have below := F.called_set.sub
  obtain ⟨c0, tail0, order0⟩ := F.called_set.mro
  refine wpAny_call (codeAny_of_tree ?_)
  show wpAny _ _ (callAny (.type "set") _) _ _ _
  refine wpAny_pure ⟨Code.quiet_builtin _ (by decide +kernel), codeAny_builtin F.entry_type_call ?_⟩
  rw [Around.under_plain (weight_type_call_type "set" [.ref l] []) rfl]
  have ready1 := F.called_set.notType
  have ready2 := F.called_set.canCreate
  have ready3 := F.typeCall_set_1 (.ref l)
  repeat any_goals first | assumption | wp_step
  refine codeAny_mono (code_set_led1 (.ref l) (E := E) (Q₁ := fun obj s1 => obj = .ref s.heap.objs.size ∧ s1 = { s with heap := s.heap.push (emptySet w) }) ⟨rfl, rfl⟩) ?_
  intro r s1 got
  match r, got with
  | .error e, got => exact got
  | .ok (.ret obj), got =>
    obtain ⟨rfl, rfl⟩ := got
    have there : (s.heap.push (emptySet w)).get? s.heap.objs.size = some (emptySet w) := Heap.get?_push_size _ rfl
    have typ : Shared.TypeIs { s with heap := s.heap.push (emptySet w) } (.ref s.heap.objs.size) "set" := ⟨_, there, rfl⟩
    have ready4 := F.called_set.init.lookup
    have ready5 := F.called_set.init.bind (.ref s.heap.objs.size)
    repeat any_goals first | assumption | wp_step
    refine codeAny_mono (codeAny_call_builtin (R := wants (fun r s2 => r = .none ∧ SetLeft w ns s s2) E) F.called_set.init.plain F.entry_set_init (check_set_init_1 typ ?_)) ?_
    · obtain ⟨⟨ocls, odict, odata, oslots⟩, hol, hcl, nl, hdl⟩ := lst
      simp only at hcl hdl
      subst hcl hdl
      have stays : (s.heap.push (emptySet w)).get? l = some { cls := .type "list", dict := odict, data := .seq items nl, slots := oslots } := Heap.get?_push_of_some _ hol
      have apart1 := F.sub_list_set
      have apart2 := F.sub_list_frozenset
      have apart3 : (Value.type "list" == Value.type "dict") = false := by decide
      have lst1 : (s.heap.push (emptySet w)).IsList l items := ⟨_, stays, rfl, nl, rfl⟩
      unfold Builtin.«set.__init__» noKeywords Builtin.Frozenset.updateFrom
      generalize hiter : pyIter = pit
      wp_walk
      subst hiter
      refine wpAny_pyIter_list lst1 (wpAny_bind (wpAny_runValue ?_))
      have below_l : l < s.heap.objs.size := Heap.lt_size hol
      have calm3 : A.in1.in1.in1.handled = none := by simp [hh]
      have grown : (s.heap.push (emptySet w)).objs.size = s.heap.objs.size + 1 := Heap.size_push ..
      have other : l ≠ (s.heap.push (emptySet w)).objs.size := by
        rw [grown]
        exact Nat.ne_of_lt (Nat.lt_of_lt_of_le below_l (Nat.le_succ _))
      have outside : s.heap.objs.size ∉ [(s.heap.push (emptySet w)).objs.size, l] := by
        rw [grown]
        simp only [List.mem_cons, List.not_mem_nil, or_false, not_or]
        exact ⟨Nat.ne_of_lt (Nat.lt_succ_self _), fun z => Nat.lt_irrefl _ (by rw [← z] at below_l; exact below_l)⟩
      refine set_update_ints ((Walks.list calm3 _ l other items).toS) s.heap.objs.size outside ns size_eq room (list_int_at hit size_eq) (items.size - 0) 0 _ (by omega) (Nat.zero_le _) ⟨⟨_, Heap.get?_push_size _ rfl, rfl, rfl⟩, lst1.push _⟩ ?_ ?_
      · exact ⟨0, Nat.le_refl 0, setR_new_at (Heap.get?_push_of_some _ there)⟩
      · intro s' c' moved few is
        obtain ⟨h', g2, d', tk', os'⟩ := s'
        have eg : g2 = s.gens := moved.gens
        have ed : d' = s.drawn := moved.drawn
        have eo : os' = s.os := moved.os
        subst eg ed eo
        show wpAny _ _ _ _ _ _
        refine wpAny_pure ?_
        show wpAny _ _ (ret Value.none) _ _ _
        rw [size_eq] at few
        refine wpAny_pure ⟨rfl, h', tk', c', rfl, is, few, fun b o e => ?_⟩
        have bl : b < s.heap.objs.size := Heap.lt_size e
        refine moved.heap b o ?_ (Heap.get?_push_of_some _ (Heap.get?_push_of_some _ e))
        rw [grown]
        simp only [List.mem_cons, List.not_mem_nil, or_false, not_or]
        exact ⟨Nat.ne_of_lt bl, Nat.ne_of_lt (Nat.lt_of_lt_of_le bl (Nat.le_succ _))⟩
    · intro r2 s2 got2
      match r2, got2 with
      | .error e, got2 => exact got2
      | .ok (.ret r), got2 =>
        obtain ⟨rfl, left⟩ := got2
        have done := fin s2 left
        obtain ⟨h', tk, c', rfl, is, few, kept⟩ := left
        repeat any_goals first | assumption | wp_step
      | .ok .next, got2 => exact got2.elim
      | .ok .brk, got2 => exact got2.elim
      | .ok .cont, got2 => exact got2.elim
  | .ok .next, got => exact got.elim
  | .ok .brk, got => exact got.elim
  | .ok .cont, got => exact got.elim
end
section
variable {X : Cx}
def rSetL (w : World) (K : PySem.W.Frag) : List V → Hp → VK → Prop := fun vs H Q => ∃ (l : Addr) (ns : List Int), vs = [.ref l] ∧ SqL K H l (ns.map V.int) ∧ ns.length ≤ 1000 ∧ ∀ (p : Addr) (n : Nat), H p = none → n ≤ ns.length → Q (.ref p) (upd H p (SetO w p (fun j => decide (j ∈ ns)) n))
theorem cr_setL (hc : X.calm = true) : CallR X (.type "set") (rSetL X.w X.K) := by
  intro pins s σ H vs us Q I r h
  obtain ⟨l, ns, rfl, hs, hn, q⟩ := h
  rw [Vals.ref1 r]
  obtain ⟨its, rv, pl, hz⟩ := I.list hs
  refine call_set_ints ns (I.ok.hd hc) pl.isList (by simpa using ints_of_vals rv) (by unfold scanBound; omega) ?_
  rintro s2 ⟨h', tk, c, rfl, is, few, kept⟩
  exact ⟨.ref s.heap.objs.size, _, I.laid (t' := tk) kept (Nat.le_refl _) (setO_new is), rfl, q _ c (I.hok.fresh (Nat.le_refl _)) few⟩
end
end My
namespace My
open PySem PySem.Spec PyProof.Rows L2
/-! ## ratios.py -/
section
variable {P : Program} {w : World} {K : PySem.W.Frag} {mg : Str → Option Value} {base : Heap}
/-! common -/
def spCommon : Sp := fun vs H Q _ => ∃ a b : Nat, vs = [.int a, .int b] ∧ Q (.int ((Nat.gcd a b : Nat) : Int)) H
abbrev s_common : Stmt := top 3
theorem sc_common : FnScope ["first", "second", "rest"] ["first", "second"] (defScope s_common) := ⟨rfl, rfl, rfl, by decide +kernel, rfl, by decide +kernel, by decide +kernel⟩
theorem ok_common (D : DefAt K mg "common" s_common) : OkAt P w K mg base 1 "common" ["first", "second"] spCommon := by
  refine okAt_of D (fun _ _ _ _ _ _ us hl => match us, hl with | [_, _], _ => rfl) fun f fd F => ?_
  have nd := sc_common.nd
  refine F.ok sc_common (fun vs H Q E h => ?_) (fun cdv A outer s H vs Q E hr h => ?_)
  · obtain ⟨a, b, rfl, _⟩ := h
    rfl
  · obtain ⟨a, b, rfl, k⟩ := h
    refine ⟨_, (pss_cons (ps_while PassesOwn.never (pt_cmpR op_ne (pv 1) pe_int (nomark _)) (pss_cons (ps_set (i := 2) nd rfl (Or.inl rfl) (pe_op op_mod (pv 0) (pv 1))) (pss_cons (ps_set (i := 0) nd rfl (Or.inl rfl) (pv 1)) (pss_one (ps_set (i := 1) nd rfl (Or.inl rfl) (pv 2)))))) (pss_one (ps_ret (pv 0)))), ?_⟩
    refine ⟨fun m σ H' => ∃ (x y : Nat) (v : Option V), σ = [some (.int x), some (.int y), v] ∧ m = y ∧ H' = H ∧ Nat.gcd x y = Nat.gcd a b, ⟨b, a, b, none, rfl, rfl, rfl, rfl⟩, ?_⟩
    rintro m σ H' ⟨x, y, v, rfl, rfl, rfl, hg⟩
    refine ⟨_, rfl, rfl, _, rfl, ?_⟩
    by_cases hy : m = 0
    · subst hy
      refine iteNS rfl ?_
      refine ⟨_, rfl, ?_⟩
      rw [Nat.gcd_zero_right] at hg
      rw [hg]
      exact k
    · have hy2 : ¬ (V.int ((m : Nat) : Int) = V.int 0) := fun e => hy (by injection e with e; omega)
      rw [decide_eq_false hy2]
      refine iteT ?_
      refine ⟨fun σ' H2 => ∃ (x' y' : Nat) (v : Option V), σ' = [some (.int x'), some (.int y'), v] ∧ y' < m ∧ H2 = H' ∧ Nat.gcd x' y' = Nat.gcd a b, fun σ' H2 ⟨x', y', v, h1, h2, h3, h4⟩ => ⟨y', h2, x', y', v, h1, rfl, h3, h4⟩, ?_⟩
      refine ⟨_, rfl, _, rfl, _, _, rfl, rfl, (by omega), _, rfl, _, rfl, ?_⟩
      refine ⟨m, x % m, some (.int ((x % m : Nat) : Int)), rfl, Nat.mod_lt _ (by omega), rfl, ?_⟩
      rw [← hg, Nat.gcd_comm x m, Nat.gcd_rec m x, Nat.gcd_comm]
/-! ratio -/
def spRatio (K : PySem.W.Frag) : Sp := fun vs H Q _ => ∃ (u : Int) (l b : Nat), vs = [.int u, .int (l : Int)] ∧ 0 < l ∧ 0 < b ∧ b ≤ 9000 ∧ l < 2 ^ b ∧ Gives H Q fun H' v => Fr K H' v (mkRat u l)
abbrev s_ratio : Stmt := top 4
theorem sc_ratio : FnScope ["upper", "lower", "shared"] ["upper", "lower"] (defScope s_ratio) := ⟨rfl, rfl, rfl, by decide +kernel, rfl, by decide +kernel, by decide +kernel⟩
theorem ok_ratio (D : DefAt K mg "ratio" s_ratio) (B : Blt mg) (G_common : OkAt P w K mg base 1 "common" ["first", "second"] spCommon) : OkAt P w K mg base 2 "ratio" ["upper", "lower"] (spRatio K) := by
  refine okAt_of D (fun _ _ _ _ _ _ us hl => match us, hl with | [_, _], _ => rfl) fun f fd F => ?_
  have nd := sc_ratio.nd
  refine F.ok sc_ratio (fun vs H Q E h => ?_) (fun cdv A outer s H vs Q E hr h => ?_)
  · obtain ⟨u, l, b, rfl, _⟩ := h
    rfl
  · obtain ⟨u, l, b, rfl, h0, hb0, hb, hl, k⟩ := h
    refine ⟨_, (pss_cons (ps_set (i := 2) nd rfl (Or.inl rfl) (pe_callO G_common (hr.mono (by decide)) (by rfl) (pa_cons (pe_callB call_abs (by rfl) B.abs (by decide +kernel) (pa_cons (pv 0) pa_nil)) (pa_cons (pv 1) pa_nil)))) (pss_one (ps_ret (pe_tup (pa_cons (pe_op op_fdivW (pv 0) (pv 2)) (pa_cons (pe_op op_fdivW (pv 1) (pv 2)) pa_nil)))))), ?_⟩
    have ea : (if u < 0 then -u else u) = ((u.natAbs : Nat) : Int) := by omega
    refine ⟨_, rfl, u, rfl, _, rfl, u.natAbs, l, ?_, ?_⟩
    · rw [ea]
    have g0 : 0 < Nat.gcd u.natAbs l := Nat.gcd_pos_of_pos_right _ h0
    have gl : Nat.gcd u.natAbs l ≤ l := Nat.gcd_le_right _ h0
    have dv : ∀ i : Int, CDivW i ((Nat.gcd u.natAbs l : Nat) : Int) := fun i => wide_div (by omega) (by rw [Int.natAbs_natCast]; exact Nat.lt_of_le_of_lt gl hl) hb0 hb
    refine ⟨_, rfl, _, rfl, _, _, rfl, rfl, dv _, _, rfl, _, rfl, _, _, rfl, rfl, dv _, two_le, fun p hp => ?_⟩
    refine k _ _ (Same.new hp) ⟨p, rfl, SqT.of ?_⟩
    rw [upd_same, mk_num h0, mk_den h0, Int.natCast_ediv]
/-! whole -/
def spWhole (K : PySem.W.Frag) : Sp := fun vs H Q _ => ∃ z : Int, vs = [.int z] ∧ Gives H Q fun H' v => Fr K H' v (z : Rat)
abbrev s_whole : Stmt := top 5
theorem sc_whole : FnScope ["number"] ["number"] (defScope s_whole) := ⟨rfl, rfl, rfl, by decide +kernel, rfl, by decide +kernel, by decide +kernel⟩
theorem ok_whole (D : DefAt K mg "whole" s_whole) : OkAt P w K mg base 1 "whole" ["number"] (spWhole K) := by
  refine okAt_of D (fun _ _ _ _ _ _ us hl => match us, hl with | [_], _ => rfl) fun f fd F => ?_
  have nd := sc_whole.nd
  refine F.ok sc_whole (fun vs H Q E h => ?_) (fun cdv A outer s H vs Q E hr h => ?_)
  · obtain ⟨z, rfl, _⟩ := h
    rfl
  · obtain ⟨z, rfl, k⟩ := h
    refine ⟨_, (pss_one (ps_ret (pe_tup (pa_cons (pv 0) (pa_cons pe_int pa_nil))))), ?_⟩
    refine ⟨_, rfl, two_le, fun p hp => ?_⟩
    exact k _ _ (Same.new hp) ⟨p, rfl, SqT.of upd_same⟩
/-! plus, minus, times, divided -/
def spTwo (K : PySem.W.Frag) (f : Rat → Rat → Rat) (C : Rat → Prop) : Sp := fun vs H Q _ => ∃ (v w : V) (p q : Rat) (m n : Nat), vs = [v, w] ∧ Fr K H v p ∧ Fr K H w q ∧ Sz m p ∧ Sz n q ∧ m + n ≤ 8990 ∧ C q ∧ Gives H Q fun H' u => Fr K H' u (f p q)
theorem Sz.pos {n : Nat} {q : Rat} (h : Sz n q) : 0 < n := by
  rcases Nat.eq_zero_or_pos n with e | e
  · subst e
    have := h.den
    have := q.den_pos
    omega
  · exact e
theorem den_nat {q : Rat} {n : Nat} (h : Sz n q) : ((q.den : Int)).natAbs < 2 ^ n := by
  rw [Int.natAbs_natCast]
  exact h.den
abbrev s_plus : Stmt := top 6
theorem sc_plus : FnScope ["first", "second"] ["first", "second"] (defScope s_plus) := ⟨rfl, rfl, rfl, by decide +kernel, rfl, by decide +kernel, by decide +kernel⟩
theorem ok_plus (D : DefAt K mg "plus" s_plus) (G_ratio : OkAt P w K mg base 2 "ratio" ["upper", "lower"] (spRatio K)) : OkAt P w K mg base 3 "plus" ["first", "second"] (spTwo K (· + ·) fun _ => True) := by
  refine okAt_of D (fun _ _ _ _ _ _ us hl => match us, hl with | [_, _], _ => rfl) fun f fd F => ?_
  have nd := sc_plus.nd
  refine F.ok sc_plus (fun vs H Q E h => ?_) (fun cdv A outer s H vs Q E hr h => ?_)
  · obtain ⟨v, w, p, q, m, n, rfl, _⟩ := h
    rfl
  · obtain ⟨v, w, p, q, m, n, rfl, ⟨a, rfl, ha⟩, ⟨b, rfl, hb⟩, sp, sq, hmn, _, k⟩ := h
    have m0 := sp.pos
    have n0 := sq.pos
    refine ⟨_, (pss_one (ps_ret (pe_callO G_ratio (hr.mono (by decide)) (by rfl) (pa_cons (pe_op op_add (pe_op op_mulW (pe_ix ix_tup (pv 0) pe_int (fun _ _ => rfl)) (pe_ix ix_tup (pv 1) pe_int (fun _ _ => rfl))) (pe_op op_mulW (pe_ix ix_tup (pv 1) pe_int (fun _ _ => rfl)) (pe_ix ix_tup (pv 0) pe_int (fun _ _ => rfl)))) (pa_cons (pe_op op_mulW (pe_ix ix_tup (pv 0) pe_int (fun _ _ => rfl)) (pe_ix ix_tup (pv 1) pe_int (fun _ _ => rfl))) pa_nil))))), ?_⟩
    refine ⟨_, rfl, a, _, _, _, rfl, rfl, ha, at0, _, rfl, b, _, _, _, rfl, rfl, hb, at1, _, _, rfl, rfl, wide_mul sp.num (den_nat sq) m0 n0 (by omega), ?_⟩
    refine ⟨_, rfl, b, _, _, _, rfl, rfl, hb, at0, _, rfl, a, _, _, _, rfl, rfl, ha, at1, _, _, rfl, rfl, wide_mul sq.num (den_nat sp) n0 m0 (by omega), _, _, rfl, rfl, ?_⟩
    refine ⟨_, rfl, a, _, _, _, rfl, rfl, ha, at1, _, rfl, b, _, _, _, rfl, rfl, hb, at1, _, _, rfl, rfl, wide_mul (den_nat sp) (den_nat sq) m0 n0 (by omega), ?_⟩
    refine ⟨_, p.den * q.den, m + n, rfl, Nat.mul_pos p.den_pos q.den_pos, by omega, by omega, mul_pow sp.den sq.den, ?_⟩
    intro H' v sm hv
    rw [← Rat.add_def'] at hv
    exact k H' v sm hv
abbrev s_minus : Stmt := top 7
theorem sc_minus : FnScope ["first", "second"] ["first", "second"] (defScope s_minus) := ⟨rfl, rfl, rfl, by decide +kernel, rfl, by decide +kernel, by decide +kernel⟩
theorem ok_minus (D : DefAt K mg "minus" s_minus) (G_ratio : OkAt P w K mg base 2 "ratio" ["upper", "lower"] (spRatio K)) : OkAt P w K mg base 3 "minus" ["first", "second"] (spTwo K (· - ·) fun _ => True) := by
  refine okAt_of D (fun _ _ _ _ _ _ us hl => match us, hl with | [_, _], _ => rfl) fun f fd F => ?_
  have nd := sc_minus.nd
  refine F.ok sc_minus (fun vs H Q E h => ?_) (fun cdv A outer s H vs Q E hr h => ?_)
  · obtain ⟨v, w, p, q, m, n, rfl, _⟩ := h
    rfl
  · obtain ⟨v, w, p, q, m, n, rfl, ⟨a, rfl, ha⟩, ⟨b, rfl, hb⟩, sp, sq, hmn, _, k⟩ := h
    have m0 := sp.pos
    have n0 := sq.pos
    refine ⟨_, (pss_one (ps_ret (pe_callO G_ratio (hr.mono (by decide)) (by rfl) (pa_cons (pe_op op_sub (pe_op op_mulW (pe_ix ix_tup (pv 0) pe_int (fun _ _ => rfl)) (pe_ix ix_tup (pv 1) pe_int (fun _ _ => rfl))) (pe_op op_mulW (pe_ix ix_tup (pv 1) pe_int (fun _ _ => rfl)) (pe_ix ix_tup (pv 0) pe_int (fun _ _ => rfl)))) (pa_cons (pe_op op_mulW (pe_ix ix_tup (pv 0) pe_int (fun _ _ => rfl)) (pe_ix ix_tup (pv 1) pe_int (fun _ _ => rfl))) pa_nil))))), ?_⟩
    refine ⟨_, rfl, a, _, _, _, rfl, rfl, ha, at0, _, rfl, b, _, _, _, rfl, rfl, hb, at1, _, _, rfl, rfl, wide_mul sp.num (den_nat sq) m0 n0 (by omega), ?_⟩
    refine ⟨_, rfl, b, _, _, _, rfl, rfl, hb, at0, _, rfl, a, _, _, _, rfl, rfl, ha, at1, _, _, rfl, rfl, wide_mul sq.num (den_nat sp) n0 m0 (by omega), _, _, rfl, rfl, ?_⟩
    refine ⟨_, rfl, a, _, _, _, rfl, rfl, ha, at1, _, rfl, b, _, _, _, rfl, rfl, hb, at1, _, _, rfl, rfl, wide_mul (den_nat sp) (den_nat sq) m0 n0 (by omega), ?_⟩
    refine ⟨_, p.den * q.den, m + n, rfl, Nat.mul_pos p.den_pos q.den_pos, by omega, by omega, mul_pow sp.den sq.den, ?_⟩
    intro H' v sm hv
    rw [← Rat.sub_def'] at hv
    exact k H' v sm hv
abbrev s_times : Stmt := top 8
theorem sc_times : FnScope ["first", "second"] ["first", "second"] (defScope s_times) := ⟨rfl, rfl, rfl, by decide +kernel, rfl, by decide +kernel, by decide +kernel⟩
theorem ok_times (D : DefAt K mg "times" s_times) (G_ratio : OkAt P w K mg base 2 "ratio" ["upper", "lower"] (spRatio K)) : OkAt P w K mg base 3 "times" ["first", "second"] (spTwo K (· * ·) fun _ => True) := by
  refine okAt_of D (fun _ _ _ _ _ _ us hl => match us, hl with | [_, _], _ => rfl) fun f fd F => ?_
  have nd := sc_times.nd
  refine F.ok sc_times (fun vs H Q E h => ?_) (fun cdv A outer s H vs Q E hr h => ?_)
  · obtain ⟨v, w, p, q, m, n, rfl, _⟩ := h
    rfl
  · obtain ⟨v, w, p, q, m, n, rfl, ⟨a, rfl, ha⟩, ⟨b, rfl, hb⟩, sp, sq, hmn, _, k⟩ := h
    have m0 := sp.pos
    have n0 := sq.pos
    refine ⟨_, (pss_one (ps_ret (pe_callO G_ratio (hr.mono (by decide)) (by rfl) (pa_cons (pe_op op_mulW (pe_ix ix_tup (pv 0) pe_int (fun _ _ => rfl)) (pe_ix ix_tup (pv 1) pe_int (fun _ _ => rfl))) (pa_cons (pe_op op_mulW (pe_ix ix_tup (pv 0) pe_int (fun _ _ => rfl)) (pe_ix ix_tup (pv 1) pe_int (fun _ _ => rfl))) pa_nil))))), ?_⟩
    refine ⟨_, rfl, a, _, _, _, rfl, rfl, ha, at0, _, rfl, b, _, _, _, rfl, rfl, hb, at0, _, _, rfl, rfl, wide_mul sp.num sq.num m0 n0 (by omega), ?_⟩
    refine ⟨_, rfl, a, _, _, _, rfl, rfl, ha, at1, _, rfl, b, _, _, _, rfl, rfl, hb, at1, _, _, rfl, rfl, wide_mul (den_nat sp) (den_nat sq) m0 n0 (by omega), ?_⟩
    refine ⟨_, p.den * q.den, m + n, rfl, Nat.mul_pos p.den_pos q.den_pos, by omega, by omega, mul_pow sp.den sq.den, ?_⟩
    intro H' v sm hv
    rw [← Rat.mul_def'] at hv
    exact k H' v sm hv
abbrev s_divided : Stmt := top 9
theorem sc_divided : FnScope ["first", "second"] ["first", "second"] (defScope s_divided) := ⟨rfl, rfl, rfl, by decide +kernel, rfl, by decide +kernel, by decide +kernel⟩
theorem ok_divided (D : DefAt K mg "divided" s_divided) (G_ratio : OkAt P w K mg base 2 "ratio" ["upper", "lower"] (spRatio K)) : OkAt P w K mg base 3 "divided" ["first", "second"] (spTwo K (· / ·) fun q => 0 < q) := by
  refine okAt_of D (fun _ _ _ _ _ _ us hl => match us, hl with | [_, _], _ => rfl) fun f fd F => ?_
  have nd := sc_divided.nd
  refine F.ok sc_divided (fun vs H Q E h => ?_) (fun cdv A outer s H vs Q E hr h => ?_)
  · obtain ⟨v, w, p, q, m, n, rfl, _⟩ := h
    rfl
  · obtain ⟨v, w, p, q, m, n, rfl, ⟨a, rfl, ha⟩, ⟨b, rfl, hb⟩, sp, sq, hmn, hq, k⟩ := h
    have m0 := sp.pos
    have n0 := sq.pos
    have qn := num_pos_of hq
    have q2 := sq.num
    refine ⟨_, (pss_one (ps_ret (pe_callO G_ratio (hr.mono (by decide)) (by rfl) (pa_cons (pe_op op_mulW (pe_ix ix_tup (pv 0) pe_int (fun _ _ => rfl)) (pe_ix ix_tup (pv 1) pe_int (fun _ _ => rfl))) (pa_cons (pe_op op_mulW (pe_ix ix_tup (pv 0) pe_int (fun _ _ => rfl)) (pe_ix ix_tup (pv 1) pe_int (fun _ _ => rfl))) pa_nil))))), ?_⟩
    refine ⟨_, rfl, a, _, _, _, rfl, rfl, ha, at0, _, rfl, b, _, _, _, rfl, rfl, hb, at1, _, _, rfl, rfl, wide_mul sp.num (den_nat sq) m0 n0 (by omega), ?_⟩
    refine ⟨_, rfl, a, _, _, _, rfl, rfl, ha, at1, _, rfl, b, _, _, _, rfl, rfl, hb, at0, _, _, rfl, rfl, wide_mul (den_nat sp) sq.num m0 n0 (by omega), ?_⟩
    refine ⟨p.num * (q.den : Int), p.den * q.num.toNat, m + n, ?_, Nat.mul_pos p.den_pos (by omega), by omega, by omega, mul_pow sp.den (by omega), ?_⟩
    · rw [Int.natCast_mul, Int.toNat_of_nonneg (Int.le_of_lt qn)]
    intro H' v sm hv
    rw [← div_eq hq] at hv
    exact k H' v sm hv
/-! unsigned, less -/
def spUnsigned (K : PySem.W.Frag) : Sp := fun vs H Q _ => ∃ (v : V) (p : Rat), vs = [v] ∧ Fr K H v p ∧ Gives H Q fun H' u => Fr K H' u p.abs
theorem abs_num (p : Rat) : (if p.num < 0 then -p.num else p.num) = p.abs.num := by
  by_cases h : 0 ≤ p
  · rw [Rat.abs_of_nonneg h, if_neg (Int.not_lt.mpr (Rat.num_nonneg.mpr h))]
  · have h' : ¬ 0 ≤ p.num := fun z => h (Rat.num_nonneg.mp z)
    rw [Rat.abs_of_nonpos (Rat.le_of_lt (Rat.not_le.mp h)), Rat.neg_num, if_pos (by omega)]
theorem abs_den (p : Rat) : p.abs.den = p.den := by
  by_cases h : 0 ≤ p
  · rw [Rat.abs_of_nonneg h]
  · rw [Rat.abs_of_nonpos (Rat.le_of_lt (Rat.not_le.mp h)), Rat.neg_den]
abbrev s_unsigned : Stmt := top 10
theorem sc_unsigned : FnScope ["fraction"] ["fraction"] (defScope s_unsigned) := ⟨rfl, rfl, rfl, by decide +kernel, rfl, by decide +kernel, by decide +kernel⟩
theorem ok_unsigned (D : DefAt K mg "unsigned" s_unsigned) (B : Blt mg) : OkAt P w K mg base 1 "unsigned" ["fraction"] (spUnsigned K) := by
  refine okAt_of D (fun _ _ _ _ _ _ us hl => match us, hl with | [_], _ => rfl) fun f fd F => ?_
  have nd := sc_unsigned.nd
  refine F.ok sc_unsigned (fun vs H Q E h => ?_) (fun cdv A outer s H vs Q E hr h => ?_)
  · obtain ⟨v, p, rfl, _⟩ := h
    rfl
  · obtain ⟨v, p, rfl, ⟨a, rfl, ha⟩, k⟩ := h
    refine ⟨_, (pss_one (ps_ret (pe_tup (pa_cons (pe_callB call_abs (by rfl) B.abs (by decide +kernel) (pa_cons (pe_ix ix_tup (pv 0) pe_int (fun _ _ => rfl)) pa_nil)) (pa_cons (pe_ix ix_tup (pv 0) pe_int (fun _ _ => rfl)) pa_nil))))), ?_⟩
    refine ⟨_, rfl, a, _, _, _, rfl, rfl, ha, at0, _, rfl, _, rfl, a, _, _, _, rfl, rfl, ha, at1, two_le, fun q hq => ?_⟩
    refine k _ _ (Same.new hq) ⟨q, rfl, SqT.of ?_⟩
    rw [upd_same, abs_num, abs_den]
def spLess (K : PySem.W.Frag) : Sp := fun vs H Q _ => ∃ (v w : V) (p q : Rat) (m n : Nat), vs = [v, w] ∧ Fr K H v p ∧ Fr K H w q ∧ Sz m p ∧ Sz n q ∧ m + n ≤ 1000000 ∧ Q (.bl (decide (p < q))) H
abbrev s_less : Stmt := top 11
theorem sc_less : FnScope ["first", "second"] ["first", "second"] (defScope s_less) := ⟨rfl, rfl, rfl, by decide +kernel, rfl, by decide +kernel, by decide +kernel⟩
theorem ok_less (D : DefAt K mg "less" s_less) : OkAt P w K mg base 1 "less" ["first", "second"] (spLess K) := by
  refine okAt_of D (fun _ _ _ _ _ _ us hl => match us, hl with | [_, _], _ => rfl) fun f fd F => ?_
  have nd := sc_less.nd
  refine F.ok sc_less (fun vs H Q E h => ?_) (fun cdv A outer s H vs Q E hr h => ?_)
  · obtain ⟨v, w, p, q, m, n, rfl, _⟩ := h
    rfl
  · obtain ⟨v, w, p, q, m, n, rfl, ⟨a, rfl, ha⟩, ⟨b, rfl, hb⟩, sp, sq, hmn, k⟩ := h
    have m0 := sp.pos
    have n0 := sq.pos
    refine ⟨_, (pss_one (ps_ret (pe_cmpR op_lt (pe_op op_mulW (pe_ix ix_tup (pv 0) pe_int (fun _ _ => rfl)) (pe_ix ix_tup (pv 1) pe_int (fun _ _ => rfl))) (pe_op op_mulW (pe_ix ix_tup (pv 1) pe_int (fun _ _ => rfl)) (pe_ix ix_tup (pv 0) pe_int (fun _ _ => rfl))) (nomark _)))), ?_⟩
    refine ⟨_, rfl, a, _, _, _, rfl, rfl, ha, at0, _, rfl, b, _, _, _, rfl, rfl, hb, at1, _, _, rfl, rfl, wide_mul sp.num (den_nat sq) m0 n0 (by omega), ?_⟩
    refine ⟨_, rfl, b, _, _, _, rfl, rfl, hb, at0, _, rfl, a, _, _, _, rfl, rfl, ha, at1, _, _, rfl, rfl, wide_mul sq.num (den_nat sp) n0 m0 (by omega), _, _, rfl, rfl, ?_⟩
    have e : decide (p < q) = decide (p.num * (q.den : Int) < q.num * (p.den : Int)) := decide_eq_decide.mpr (Rat.lt_iff p q)
    rw [e] at k
    exact k
end
end My
namespace My
open PySem PySem.Spec PyProof.Rows L2
/-! ## lists of things -/
def LsOf {α : Type} (R : V → α → Prop) (vs : List V) (xs : List α) : Prop := vs.length = xs.length ∧ ∀ (i : Nat) (v : V) (x : α), vs[i]? = some v → xs[i]? = some x → R v x
theorem LsOf.get {α : Type} {R : V → α → Prop} {vs : List V} {xs : List α} (h : LsOf R vs xs) {i : Nat} {v : V} (hv : vs[i]? = some v) : ∃ x, xs[i]? = some x ∧ R v x := by
  have hi : i < xs.length := by rw [← h.1]; exact (List.getElem?_eq_some_iff.mp hv).1
  exact ⟨_, List.getElem?_eq_getElem hi, h.2 i v _ hv (List.getElem?_eq_getElem hi)⟩
theorem LsOf.at {α : Type} {R : V → α → Prop} {vs : List V} {xs : List α} (h : LsOf R vs xs) {i : Nat} {x : α} (hx : xs[i]? = some x) : ∃ v, vs[i]? = some v ∧ R v x := by
  have hi : i < vs.length := by rw [h.1]; exact (List.getElem?_eq_some_iff.mp hx).1
  exact ⟨_, List.getElem?_eq_getElem hi, h.2 i _ x (List.getElem?_eq_getElem hi) hx⟩
theorem LsOf.nil {α : Type} {R : V → α → Prop} : LsOf R [] ([] : List α) := ⟨rfl, fun i v x h => by simp at h⟩
theorem LsOf.imp {α : Type} {R S : V → α → Prop} {vs : List V} {xs : List α} (h : LsOf R vs xs) (f : ∀ v x, R v x → S v x) : LsOf S vs xs := ⟨h.1, fun i v x a b => f v x (h.2 i v x a b)⟩
theorem LsOf.snoc {α : Type} {R : V → α → Prop} {vs : List V} {xs : List α} {v : V} {x : α} (h : LsOf R vs xs) (hv : R v x) : LsOf R (vs ++ [v]) (xs ++ [x]) := by
  refine ⟨by rw [List.length_append, List.length_append, h.1]; rfl, fun i u y hu hy => ?_⟩
  by_cases hi : i < vs.length
  · rw [List.getElem?_append_left hi] at hu
    rw [List.getElem?_append_left (by rw [← h.1]; exact hi)] at hy
    exact h.2 i u y hu hy
  · rw [List.getElem?_append_right (by omega)] at hu
    rw [List.getElem?_append_right (by rw [← h.1]; omega)] at hy
    have e1 : i - vs.length = 0 := by
      have := (List.getElem?_eq_some_iff.mp hu).1
      simp at this
      omega
    rw [e1] at hu
    rw [← h.1, e1] at hy
    have u1 : v = u := Option.some.inj hu
    have y1 : x = y := Option.some.inj hy
    rw [← u1, ← y1]
    exact hv
theorem LsOf.append {α : Type} {R : V → α → Prop} : ∀ {ws : List V} {ys : List α} {vs : List V} {xs : List α}, LsOf R vs xs → LsOf R ws ys → LsOf R (vs ++ ws) (xs ++ ys)
  | [], [], vs, xs, h, _ => by simpa using h
  | [], y :: ys, _, _, _, k => by have := k.1; simp at this
  | w :: ws, [], _, _, _, k => by have := k.1; simp at this
  | w :: ws, y :: ys, vs, xs, h, k => by
    have k1 : R w y := k.2 0 w y rfl rfl
    have k2 : LsOf R ws ys := ⟨by have := k.1; simpa using this, fun i v x a b => k.2 (i + 1) v x a b⟩
    have := LsOf.append (h.snoc k1) k2
    simpa using this
theorem LsOf.set {α : Type} {R : V → α → Prop} {vs : List V} {xs : List α} {v : V} {x : α} {j : Nat} (h : LsOf R vs xs) (hv : R v x) : LsOf R (vs.set j v) (xs.set j x) := by
  refine ⟨by rw [List.length_set, List.length_set, h.1], fun i u y hu hy => ?_⟩
  by_cases e : j = i
  · subst e
    have hl : j < vs.length := by
      have := (List.getElem?_eq_some_iff.mp hu).1
      simpa using this
    rw [List.getElem?_set_self hl] at hu
    rw [List.getElem?_set_self (by rw [← h.1]; exact hl)] at hy
    have u1 : v = u := Option.some.inj hu
    have y1 : x = y := Option.some.inj hy
    rw [← u1, ← y1]
    exact hv
  · rw [List.getElem?_set_ne e] at hu hy
    exact h.2 i u y hu hy
/-- a list of fractions -/
def Frs (K : PySem.W.Frag) (H : Hp) (a : Addr) (qs : List Rat) : Prop := ∃ vs, SqL K H a vs ∧ LsOf (Fr K H) vs qs
theorem Frs.same {K : PySem.W.Frag} {H H' : Hp} {a : Addr} {qs : List Rat} (h : Frs K H a qs) (e : Same H H') : Frs K H' a qs := by
  obtain ⟨vs, h1, h2⟩ := h
  exact ⟨vs, e.seq h1, h2.imp fun v x r => r.same e⟩
/-- two numbers -/
def Pr (K : PySem.W.Frag) (H : Hp) (v : V) (c : Nat × Nat) : Prop := ∃ t, v = .ref t ∧ SqT K H t [.int (c.1 : Int), .int (c.2 : Int)]
theorem Pr.same {K : PySem.W.Frag} {H H' : Hp} {v : V} {c : Nat × Nat} (h : Pr K H v c) (e : Same H H') : Pr K H' v c := by
  obtain ⟨t, rfl, h⟩ := h
  exact ⟨t, rfl, Same.tup e h⟩
def CellsAt (K : PySem.W.Frag) (H : Hp) (a : Addr) (cs : Cells) : Prop := ∃ vs, SqL K H a vs ∧ LsOf (Pr K H) vs cs
theorem CellsAt.same {K : PySem.W.Frag} {H H' : Hp} {a : Addr} {cs : Cells} (h : CellsAt K H a cs) (e : Same H H') : CellsAt K H' a cs := by
  obtain ⟨vs, h1, h2⟩ := h
  exact ⟨vs, e.seq h1, h2.imp fun v x r => r.same e⟩
/-- a list of fractions that is tracked -/
def FrsT (K : PySem.W.Frag) (H : Hp) (a : Addr) (qs : List Rat) : Prop := ∃ vs, H a = some (.lst vs) ∧ LsOf (Fr K H) vs qs
def CellsT (K : PySem.W.Frag) (H : Hp) (a : Addr) (cs : Cells) : Prop := ∃ vs, H a = some (.lst vs) ∧ LsOf (Pr K H) vs cs
theorem FrsT.frs {K : PySem.W.Frag} {H : Hp} {a : Addr} {qs : List Rat} (h : FrsT K H a qs) : Frs K H a qs := by
  obtain ⟨vs, h1, h2⟩ := h
  exact ⟨vs, SqL.of h1, h2⟩
theorem CellsT.cells {K : PySem.W.Frag} {H : Hp} {a : Addr} {cs : Cells} (h : CellsT K H a cs) : CellsAt K H a cs := by
  obtain ⟨vs, h1, h2⟩ := h
  exact ⟨vs, SqL.of h1, h2⟩
theorem FrsT.same {K : PySem.W.Frag} {H H' : Hp} {a : Addr} {qs : List Rat} (h : FrsT K H a qs) (e : Same H H') : FrsT K H' a qs := by
  obtain ⟨vs, h1, h2⟩ := h
  exact ⟨vs, e _ _ h1, h2.imp fun v x r => r.same e⟩
theorem CellsT.same {K : PySem.W.Frag} {H H' : Hp} {a : Addr} {cs : Cells} (h : CellsT K H a cs) (e : Same H H') : CellsT K H' a cs := by
  obtain ⟨vs, h1, h2⟩ := h
  exact ⟨vs, e _ _ h1, h2.imp fun v x r => r.same e⟩
theorem take_more {α : Type} {l : List α} {i : Nat} {x : α} (h : l[i]? = some x) : l.take (i + 1) = l.take i ++ [x] := by
  rw [List.take_add_one, h]
  rfl
/-! ## weighed -/
def psum (qs : List Rat) (ws : List Int) (i : Nat) : Rat := (((qs.zip ws).take i).map fun p => p.1 * (p.2 : Rat)).foldl (· + ·) 0
theorem psum_more {qs : List Rat} {ws : List Int} {i : Nat} {q : Rat} {z : Int} (hq : qs[i]? = some q) (hz : ws[i]? = some z) : psum qs ws (i + 1) = psum qs ws i + q * (z : Rat) := by
  unfold psum
  have h : (qs.zip ws)[i]? = some (q, z) := by
    rw [List.getElem?_zip_eq_some]
    exact ⟨hq, hz⟩
  rw [take_more h, List.map_append, List.foldl_append]
  rfl
theorem psum_all {qs : List Rat} {ws : List Int} (h : qs.length = ws.length) : psum qs ws qs.length = wsum qs ws := by
  unfold psum wsum
  rw [List.take_of_length_le (by rw [List.length_zip, h]; omega)]
section
variable {P : Program} {w : World} {K : PySem.W.Frag} {mg : Str → Option Value} {base : Heap}
structure Wd (ws : List Int) : Prop where
  small : ∀ z ∈ ws, z.natAbs < 2 ^ 20
def spWeighed (K : PySem.W.Frag) : Sp := fun vs H Q _ => ∃ (a b : Addr) (qs : List Rat) (ws : List Int) (m : Nat), vs = [.ref a, .ref b] ∧ Frs K H a qs ∧ SqL K H b (ws.map V.int) ∧ qs.length = ws.length ∧ (∀ q ∈ qs, Sz m q) ∧ Wd ws ∧ qs.length ≤ 4 ∧ m ≤ 2000 ∧
  Gives H Q fun H' v => Fr K H' v (wsum qs ws)
structure Con1 (K : PySem.W.Frag) (mg : Str → Option Value) : Prop where
  ZERO : ∃ z, mg "ZERO" = some (.ref z) ∧ ∀ H', SqT K H' z [.int 0, .int 1]
  ONE : ∃ z, mg "ONE" = some (.ref z) ∧ ∀ H', SqT K H' z [.int 1, .int 1]
abbrev s_weighed : Stmt := top 12
theorem sc_weighed : FnScope ["fractions", "weights", "together", "fraction", "weight"] ["fractions", "weights"] (defScope s_weighed) := ⟨rfl, rfl, rfl, by decide +kernel, rfl, by decide +kernel, by decide +kernel⟩
theorem ok_weighed (D : DefAt K mg "weighed" s_weighed) (B : Blt mg) (T : Con1 K mg) (G_plus : OkAt P w K mg base 3 "plus" ["first", "second"] (spTwo K (· + ·) fun _ => True)) (G_times : OkAt P w K mg base 3 "times" ["first", "second"] (spTwo K (· * ·) fun _ => True)) (G_whole : OkAt P w K mg base 1 "whole" ["number"] (spWhole K)) :
    OkAt P w K mg base 4 "weighed" ["fractions", "weights"] (spWeighed K) := by
  refine okAt_of D (fun _ _ _ _ _ _ us hl => match us, hl with | [_, _], _ => rfl) fun f fd F => ?_
  have nd := sc_weighed.nd
  refine F.ok sc_weighed (fun vs H Q E h => ?_) (fun cdv A outer s H vs Q E hr h => ?_)
  · obtain ⟨a, b, qs, ws, m, rfl, _⟩ := h
    rfl
  · obtain ⟨a, b, qs, ws, m, rfl, ⟨vs, ha, hq⟩, hb, hl, hm, hw, h4, h2, k⟩ := h
    refine ⟨_, (pss_cons (ps_set (i := 2) nd rfl (Or.inl rfl) (pe_gt T.ZERO (by rfl))) (pss_cons (ps_for PassesOwn.never rfl (pi_zip (by rfl) B.zip (pa_cons (pv 0) (pa_cons (pv 1) pa_nil))) (pg_tup rfl (pgs_cons (pg_name (i := 3) nd rfl (Or.inl rfl)) (pgs_cons (pg_name (i := 4) nd rfl (Or.inl rfl)) pgs_nil))) (pss_one (ps_set (i := 2) nd rfl (Or.inl rfl) (pe_callO G_plus (hr.mono (by decide)) (by rfl) (pa_cons (pv 2) (pa_cons (pe_callO G_times (hr.mono (by decide)) (by rfl) (pa_cons (pv 3) (pa_cons (pe_callO G_whole (hr.mono (by decide)) (by rfl) (pa_cons (pv 4) pa_nil)) pa_nil))) pa_nil)))))) (pss_one (ps_ret (pv 2))))), ?_⟩
    intro z hz
    refine ⟨_, rfl, _, rfl, a, b, _, _, rfl, ha, hb, RZ.for_zipL (K := K) (by rw [List.length_map, hq.1, hl]) (fun i σ H' => ∃ (v : V) (x y : Option V), σ = [some (.ref a), some (.ref b), some v, x, y] ∧ Same H H' ∧ Fr K H' v (psum qs ws i) ∧ Sz (i * (m + 21) + 1) (psum qs ws i))
      ⟨.ref z, none, none, rfl, Same.refl H, ⟨z, rfl, hz H⟩, by rw [Nat.zero_mul]; exact Sz.zero (by decide)⟩ (fun i σ H' ⟨_, _, _, _, s5, _⟩ => ⟨s5.seq ha, s5.seq hb⟩) ?_ ?_⟩
    · rintro i x y t σ H' hx hy ⟨v, x0, y0, rfl, s5, f5, z5⟩ nt
      obtain ⟨q, hqi, fq⟩ := hq.get hx
      obtain ⟨c, hci, rfl⟩ : ∃ c, ws[i]? = some c ∧ y = V.int c := by
        rw [List.getElem?_map] at hy
        cases e : ws[i]? with
        | none => rw [e] at hy; cases hy
        | some c => rw [e] at hy; exact ⟨c, rfl, (Option.some.inj hy).symm⟩
      have s6 : Same H (upd H' t (.tup [x, .int c])) := s5.trans (Same.new nt)
      have i4 : i < 4 := by
        have := (List.getElem?_eq_some_iff.mp hqi).1
        omega
      have sq := hm q (List.mem_of_getElem? hqi)
      have sw := Sz.int (hw.small c (List.mem_of_getElem? hci)) (by decide)
      refine ⟨t, _, rfl, SqT.of upd_same, rfl, _, _, rfl, _, _, rfl, rfl, ?_⟩
      refine ⟨_, rfl, _, rfl, _, rfl, c, rfl, fun H7 v7 s7 f7 => ?_⟩
      refine ⟨x, v7, q, (c : Rat), m, 20, rfl, (fq.same s6).same s7, f7, sq, sw, by omega, trivial, fun H8 v8 s8 f8 => ?_⟩
      have s9 : Same H' H8 := (Same.new nt).trans (s7.trans s8)
      have hb9 : i * (m + 21) + 1 + (m + 20) ≤ 8990 := by
        have : i * (m + 21) ≤ 3 * (m + 21) := Nat.mul_le_mul_right _ (by omega)
        omega
      refine ⟨v, v8, psum qs ws i, q * (c : Rat), _, _, rfl, f5.same s9, f8, z5, sq.mul sw, hb9, trivial, fun H9 v9 sa fa => ?_⟩
      refine ⟨v9, some x, some (.int c), rfl, s5.trans (s9.trans sa), ?_, ?_⟩
      · rw [psum_more hqi hci]
        exact fa
      · rw [psum_more hqi hci]
        refine (z5.add (sq.mul sw)).mono ?_
        rw [Nat.succ_mul]
        omega
    · rintro σ H' ⟨v, x0, y0, rfl, s5, f5, z5⟩
      rw [hq.1, psum_all hl] at f5
      exact ⟨_, rfl, k H' v s5 f5⟩
/-! ## mean -/
def spMean (K : PySem.W.Frag) : Sp := fun vs H Q _ => ∃ (a b : Addr) (qs : List Rat) (ws : List Int) (m : Nat), vs = [.ref a, .ref b] ∧ Frs K H a qs ∧ SqL K H b (ws.map V.int) ∧ qs.length = ws.length ∧ (∀ q ∈ qs, Sz m q) ∧ Wd ws ∧ qs.length ≤ 4 ∧ m ≤ 2000 ∧ 0 < ws.sum ∧ ws.sum.natAbs < 2 ^ 20 ∧
  Gives H Q fun H' v => Fr K H' v (wsum qs ws / ((ws.sum : Int) : Rat))
abbrev s_mean : Stmt := top 13
theorem sc_mean : FnScope ["fractions", "weights"] ["fractions", "weights"] (defScope s_mean) := ⟨rfl, rfl, rfl, by decide +kernel, rfl, by decide +kernel, by decide +kernel⟩
theorem ok_mean (D : DefAt K mg "mean" s_mean) (B : Blt mg) (G_weighed : OkAt P w K mg base 4 "weighed" ["fractions", "weights"] (spWeighed K)) (G_divided : OkAt P w K mg base 3 "divided" ["first", "second"] (spTwo K (· / ·) fun q => 0 < q)) (G_whole : OkAt P w K mg base 1 "whole" ["number"] (spWhole K)) :
    OkAt P w K mg base 5 "mean" ["fractions", "weights"] (spMean K) := by
  refine okAt_of D (fun _ _ _ _ _ _ us hl => match us, hl with | [_, _], _ => rfl) fun f fd F => ?_
  have nd := sc_mean.nd
  refine F.ok sc_mean (fun vs H Q E h => ?_) (fun cdv A outer s H vs Q E hr h => ?_)
  · obtain ⟨a, b, qs, ws, m, rfl, _⟩ := h
    rfl
  · obtain ⟨a, b, qs, ws, m, rfl, ha, hb, hl, hm, hw, h4, h2, w0, w1, k⟩ := h
    refine ⟨_, (pss_one (ps_ret (pe_callO G_divided (hr.mono (by decide)) (by rfl) (pa_cons (pe_callO G_weighed (hr.mono (by decide)) (by rfl) (pa_cons (pv 0) (pa_cons (pv 1) pa_nil))) (pa_cons (pe_callO G_whole (hr.mono (by decide)) (by rfl) (pa_cons (pe_callB (cr_sum rfl) (by rfl) B.sum (by decide +kernel) (pa_cons (pv 1) pa_nil)) pa_nil)) pa_nil))))), ?_⟩
    refine ⟨_, rfl, _, rfl, a, b, qs, ws, m, rfl, ha, hb, hl, hm, hw, h4, h2, fun H2 v2 s2 f2 => ?_⟩
    refine ⟨_, rfl, b, ws, rfl, s2.seq hb, ws.sum, rfl, fun H3 v3 s3 f3 => ?_⟩
    refine ⟨v2, v3, _, _, _, 20, rfl, f2.same s3, f3, wsum_sz hm hw.small h4, Sz.int w1 (by decide), by omega, Rat.intCast_pos.mpr w0, fun H4 v4 s4 f4 => ?_⟩
    exact k H4 v4 ((s2.trans s3).trans s4) f4
end
end My
namespace My
open PySem PySem.Spec PyProof.Rows L2
/-! ## people.py: the readings of cells -/
theorem lc_yes {σ2 : L2.St} {H2 : Hp} {A B : Hp → Prop} (h : A H2) : tYes σ2 H2 (fun b H3 => if b = true then A H3 else B H3) := by
  show if true = true then A H2 else B H2
  rw [if_pos rfl]
  exact h
section
variable {P : Program} {w : World} {K : PySem.W.Frag} {mg : Str → Option Value} {base : Heap}
def spCells (K : PySem.W.Frag) (f : Cells → List Int) : Sp := fun vs H Q _ => ∃ (a : Addr) (cs : Cells), vs = [.ref a] ∧ CellsAt K H a cs ∧ cs.length ≤ 4 ∧ Gives H Q fun H' v => ∃ p, v = .ref p ∧ H' p = some (.lst ((f cs).map V.int))
theorem lt_line {n : Nat} (h : n ≤ 100) : n < sizeLine := Nat.lt_of_le_of_lt h (by decide)
/-- one item more of a list that is made -/
theorem more_ints {l : List Int} {i : Nat} {z : Int} (h : l[i]? = some z) : ((l.take i).map V.int) ++ [V.int z] = (l.take (i + 1)).map V.int := by
  rw [take_more h, List.map_append]
  rfl
theorem made_same {H H' : Hp} {d : Addr} {o : HO} (hd : H d = none) (s : Same H H') : Same H (upd H' d o) := fun b u e => by
  rw [upd_ne (ne_of_none e hd)]
  exact s b u e
theorem map_at {α β : Type} (f : α → β) {l : List α} {i : Nat} {x : α} (h : l[i]? = some x) : (l.map f)[i]? = some (f x) := by
  rw [List.getElem?_map, h]
  rfl
theorem len_take {l : List Int} {i : Nat} (h : l.length ≤ 4) : ((l.take i).map V.int).length < sizeLine := by
  refine lt_line ?_
  rw [List.length_map, List.length_take]
  omega
abbrev s_so_of : Stmt := top 16
theorem sc_so_of : FnScope ["cells", "cell"] ["cells"] (defScope s_so_of) := ⟨rfl, rfl, rfl, by decide +kernel, rfl, by decide +kernel, by decide +kernel⟩
theorem ok_so_of (D : DefAt K mg "so_of" s_so_of) : OkAt P w K mg base 1 "so_of" ["cells"] (spCells K so) := by
  refine okAt_of D (fun _ _ _ _ _ _ us hl => match us, hl with | [_], _ => rfl) fun f fd F => ?_
  have nd := sc_so_of.nd
  refine F.ok sc_so_of (fun vs H Q E h => ?_) (fun cdv A outer s H vs Q E hr h => ?_)
  · obtain ⟨a, cs, rfl, _⟩ := h
    rfl
  · obtain ⟨a, cs, rfl, ⟨vs, ha, hc⟩, h4, k⟩ := h
    refine ⟨_, (pss_one (ps_ret (pe_lc (own := [("cell", 1)]) (g := (gName 1)) (te := (tOp (rIxT K) (tVar 1) (tC (.int 0)))) (tt := tYes) (by rfl) nd (pi_list (pv 0)) (blkOk_by (own := [("cell", 1)]) (N := ["cells", "cell"]) (sc := defScope s_so_of) (by decide +kernel)) (fun _ _ _ _ _ => (pg_name (i := 1) nd rfl (Or.inl rfl))) (fun _ _ _ _ _ => pts_nil) (fun _ _ _ _ _ => (pe_ix ix_tup (pv 1) pe_int (fun _ _ => rfl)))))), ?_⟩
    refine ⟨_, rfl, a, rfl, ⟨_, ha⟩, fun d hd => lc_list (K := K) (a := a) (xs := vs) (fun i H' => Same H H' ∧ H' d = some (.lst (((so cs).take i).map V.int))) ⟨Same.new hd, upd_same⟩ (fun i H' _ ⟨s, _⟩ => s.seq ha) ?_ ?_⟩
    · rintro i x H' hx ⟨s5, h5⟩
      obtain ⟨c, hci, t, rfl, ht⟩ := hc.get hx
      refine ⟨rfl, lc_yes ?_⟩
      refine ⟨_, rfl, t, _, _, _, rfl, rfl, Same.tup s5 ht, at0, _, h5, len_take (by rw [len_so]; exact h4), made_same hd s5, ?_⟩
      rw [upd_same]
      exact congrArg (fun l => some (HO.lst l)) (more_ints (map_at _ hci))
    · rintro H' ⟨s5, h5⟩
      rw [hc.1, List.take_of_length_le (by rw [len_so]; exact Nat.le_refl _)] at h5
      exact k H' _ s5 ⟨d, rfl, h5⟩
abbrev s_others_of : Stmt := top 17
theorem sc_others_of : FnScope ["cells", "cell"] ["cells"] (defScope s_others_of) := ⟨rfl, rfl, rfl, by decide +kernel, rfl, by decide +kernel, by decide +kernel⟩
theorem ok_others_of (D : DefAt K mg "others_of" s_others_of) : OkAt P w K mg base 1 "others_of" ["cells"] (spCells K oth) := by
  refine okAt_of D (fun _ _ _ _ _ _ us hl => match us, hl with | [_], _ => rfl) fun f fd F => ?_
  have nd := sc_others_of.nd
  refine F.ok sc_others_of (fun vs H Q E h => ?_) (fun cdv A outer s H vs Q E hr h => ?_)
  · obtain ⟨a, cs, rfl, _⟩ := h
    rfl
  · obtain ⟨a, cs, rfl, ⟨vs, ha, hc⟩, h4, k⟩ := h
    refine ⟨_, (pss_one (ps_ret (pe_lc (own := [("cell", 1)]) (g := (gName 1)) (te := (tOp (rIxT K) (tVar 1) (tC (.int 1)))) (tt := tYes) (by rfl) nd (pi_list (pv 0)) (blkOk_by (own := [("cell", 1)]) (N := ["cells", "cell"]) (sc := defScope s_others_of) (by decide +kernel)) (fun _ _ _ _ _ => (pg_name (i := 1) nd rfl (Or.inl rfl))) (fun _ _ _ _ _ => pts_nil) (fun _ _ _ _ _ => (pe_ix ix_tup (pv 1) pe_int (fun _ _ => rfl)))))), ?_⟩
    refine ⟨_, rfl, a, rfl, ⟨_, ha⟩, fun d hd => lc_list (K := K) (a := a) (xs := vs) (fun i H' => Same H H' ∧ H' d = some (.lst (((oth cs).take i).map V.int))) ⟨Same.new hd, upd_same⟩ (fun i H' _ ⟨s, _⟩ => s.seq ha) ?_ ?_⟩
    · rintro i x H' hx ⟨s5, h5⟩
      obtain ⟨c, hci, t, rfl, ht⟩ := hc.get hx
      refine ⟨rfl, lc_yes ?_⟩
      refine ⟨_, rfl, t, _, _, _, rfl, rfl, Same.tup s5 ht, at1, _, h5, len_take (by rw [len_oth]; exact h4), made_same hd s5, ?_⟩
      rw [upd_same]
      exact congrArg (fun l => some (HO.lst l)) (more_ints (map_at _ hci))
    · rintro H' ⟨s5, h5⟩
      rw [hc.1, List.take_of_length_le (by rw [len_oth]; exact Nat.le_refl _)] at h5
      exact k H' _ s5 ⟨d, rfl, h5⟩
abbrev s_sizes_of : Stmt := top 18
theorem sc_sizes_of : FnScope ["cells", "cell"] ["cells"] (defScope s_sizes_of) := ⟨rfl, rfl, rfl, by decide +kernel, rfl, by decide +kernel, by decide +kernel⟩
theorem ok_sizes_of (D : DefAt K mg "sizes_of" s_sizes_of) : OkAt P w K mg base 1 "sizes_of" ["cells"] (spCells K siz) := by
  refine okAt_of D (fun _ _ _ _ _ _ us hl => match us, hl with | [_], _ => rfl) fun f fd F => ?_
  have nd := sc_sizes_of.nd
  refine F.ok sc_sizes_of (fun vs H Q E h => ?_) (fun cdv A outer s H vs Q E hr h => ?_)
  · obtain ⟨a, cs, rfl, _⟩ := h
    rfl
  · obtain ⟨a, cs, rfl, ⟨vs, ha, hc⟩, h4, k⟩ := h
    refine ⟨_, (pss_one (ps_ret (pe_lc (own := [("cell", 1)]) (g := (gName 1)) (te := (tOp (rI0 fun i j => .int (i + j)) (tOp (rIxT K) (tVar 1) (tC (.int 0))) (tOp (rIxT K) (tVar 1) (tC (.int 1))))) (tt := tYes) (by rfl) nd (pi_list (pv 0)) (blkOk_by (own := [("cell", 1)]) (N := ["cells", "cell"]) (sc := defScope s_sizes_of) (by decide +kernel)) (fun _ _ _ _ _ => (pg_name (i := 1) nd rfl (Or.inl rfl))) (fun _ _ _ _ _ => pts_nil) (fun _ _ _ _ _ => (pe_op op_add (pe_ix ix_tup (pv 1) pe_int (fun _ _ => rfl)) (pe_ix ix_tup (pv 1) pe_int (fun _ _ => rfl))))))), ?_⟩
    refine ⟨_, rfl, a, rfl, ⟨_, ha⟩, fun d hd => lc_list (K := K) (a := a) (xs := vs) (fun i H' => Same H H' ∧ H' d = some (.lst (((siz cs).take i).map V.int))) ⟨Same.new hd, upd_same⟩ (fun i H' _ ⟨s, _⟩ => s.seq ha) ?_ ?_⟩
    · rintro i x H' hx ⟨s5, h5⟩
      obtain ⟨c, hci, t, rfl, ht⟩ := hc.get hx
      refine ⟨rfl, lc_yes ?_⟩
      refine ⟨_, rfl, t, _, _, _, rfl, rfl, Same.tup s5 ht, at0, _, rfl, t, _, _, _, rfl, rfl, Same.tup s5 ht, at1, _, _, rfl, rfl, _, h5, len_take (by rw [len_siz]; exact h4), made_same hd s5, ?_⟩
      rw [upd_same]
      exact congrArg (fun l => some (HO.lst l)) (more_ints (map_at _ hci))
    · rintro H' ⟨s5, h5⟩
      rw [hc.1, List.take_of_length_le (by rw [len_siz]; exact Nat.le_refl _)] at h5
      exact k H' _ s5 ⟨d, rfl, h5⟩
def spGainsOf (K : PySem.W.Frag) : Sp := fun vs H Q _ => ∃ (a : Addr) (z : V) (cs : Cells) (u v : Nat), vs = [.ref a, z] ∧ CellsAt K H a cs ∧ Pr K H z (u, v) ∧ u ≤ 100 ∧ v ≤ 100 ∧ cs.length ≤ 4 ∧ Gives H Q fun H' v' => ∃ p, v' = .ref p ∧ H' p = some (.lst ((gai u v cs).map V.int))
abbrev s_gains_of : Stmt := top 19
theorem sc_gains_of : FnScope ["cells", "pays", "cell"] ["cells", "pays"] (defScope s_gains_of) := ⟨rfl, rfl, rfl, by decide +kernel, rfl, by decide +kernel, by decide +kernel⟩
theorem ok_gains_of (D : DefAt K mg "gains_of" s_gains_of) : OkAt P w K mg base 1 "gains_of" ["cells", "pays"] (spGainsOf K) := by
  refine okAt_of D (fun _ _ _ _ _ _ us hl => match us, hl with | [_, _], _ => rfl) fun f fd F => ?_
  have nd := sc_gains_of.nd
  refine F.ok sc_gains_of (fun vs H Q E h => ?_) (fun cdv A outer s H vs Q E hr h => ?_)
  · obtain ⟨a, z, cs, u, v, rfl, _⟩ := h
    rfl
  · obtain ⟨a, z, cs, u, v, rfl, ⟨vs, ha, hc⟩, ⟨y, rfl, hy⟩, hu, hv, h4, k⟩ := h
    refine ⟨_, (pss_one (ps_ret (pe_lc (own := [("cell", 2)]) (g := (gName 2)) (te := (tOp (rI0 fun i j => .int (i - j)) (tOp (rI CMul fun i j => .int (i * j)) (tOp (rIxT K) (tVar 1) (tC (.int 0))) (tOp (rIxT K) (tVar 2) (tC (.int 0)))) (tOp (rI CMul fun i j => .int (i * j)) (tOp (rIxT K) (tVar 1) (tC (.int 1))) (tOp (rIxT K) (tVar 2) (tC (.int 1)))))) (tt := tYes) (by rfl) nd (pi_list (pv 0)) (blkOk_by (own := [("cell", 2)]) (N := ["cells", "pays", "cell"]) (sc := defScope s_gains_of) (by decide +kernel)) (fun _ _ _ _ _ => (pg_name (i := 2) nd rfl (Or.inl rfl))) (fun _ _ _ _ _ => pts_nil) (fun _ _ _ _ _ => (pe_op op_sub (pe_op op_mul (pe_ix ix_tup (pv 1) pe_int (fun _ _ => rfl)) (pe_ix ix_tup (pv 2) pe_int (fun _ _ => rfl))) (pe_op op_mul (pe_ix ix_tup (pv 1) pe_int (fun _ _ => rfl)) (pe_ix ix_tup (pv 2) pe_int (fun _ _ => rfl)))))))), ?_⟩
    refine ⟨_, rfl, a, rfl, ⟨_, ha⟩, fun d hd => lc_list (K := K) (a := a) (xs := vs) (fun i H' => Same H H' ∧ H' d = some (.lst (((gai u v cs).take i).map V.int))) ⟨Same.new hd, upd_same⟩ (fun i H' _ ⟨s, _⟩ => s.seq ha) ?_ ?_⟩
    · rintro i x H' hx ⟨s5, h5⟩
      obtain ⟨c, hci, t, rfl, ht⟩ := hc.get hx
      have b1 : CMul ((u : Nat) : Int) ((c.1 : Nat) : Int) := .inl ⟨by omega, by omega⟩
      have b2 : CMul ((v : Nat) : Int) ((c.2 : Nat) : Int) := .inl ⟨by omega, by omega⟩
      refine ⟨rfl, lc_yes ?_⟩
      refine ⟨_, rfl, y, _, _, _, rfl, rfl, Same.tup s5 hy, at0, _, rfl, t, _, _, _, rfl, rfl, Same.tup s5 ht, at0, _, _, rfl, rfl, b1, _, rfl, y, _, _, _, rfl, rfl, Same.tup s5 hy, at1, _, rfl, t, _, _, _, rfl, rfl, Same.tup s5 ht, at1, _, _, rfl, rfl, b2, _, _, rfl, rfl, _, h5, len_take (by rw [len_gai]; exact h4), made_same hd s5, ?_⟩
      rw [upd_same]
      exact congrArg (fun l => some (HO.lst l)) (more_ints (map_at _ hci))
    · rintro H' ⟨s5, h5⟩
      rw [hc.1, List.take_of_length_le (by rw [len_gai]; exact Nat.le_refl _)] at h5
      exact k H' _ s5 ⟨d, rfl, h5⟩
/-! both groups -/
def GroupsAt (K : PySem.W.Frag) (H : Hp) (a : Addr) (c0 c1 : Cells) : Prop := ∃ g0 g1, SqL K H a [.ref g0, .ref g1] ∧ CellsAt K H g0 c0 ∧ CellsAt K H g1 c1
theorem GroupsAt.same {K : PySem.W.Frag} {H H' : Hp} {a : Addr} {c0 c1 : Cells} (h : GroupsAt K H a c0 c1) (e : Same H H') : GroupsAt K H' a c0 c1 := by
  obtain ⟨g0, g1, h1, h2, h3⟩ := h
  exact ⟨g0, g1, e.seq h1, h2.same e, h3.same e⟩
def lack (cs : Cells) : Bool := decide ((so cs).sum = 0) || decide ((oth cs).sum = 0)
def spLacks (K : PySem.W.Frag) : Sp := fun vs H Q _ => ∃ (a : Addr) (c0 c1 : Cells), vs = [.ref a] ∧ GroupsAt K H a c0 c1 ∧ c0.length ≤ 4 ∧ c1.length ≤ 4 ∧ Gives H Q fun _ v => v = .bl (lack c0 || lack c1)
theorem dec_v {i j : Int} : decide (V.int i = V.int j) = decide (i = j) := decide_eq_decide.mpr ⟨fun e => by injection e, fun e => by rw [e]⟩
abbrev s_somebody_lacks : Stmt := top 20
theorem sc_somebody_lacks : FnScope ["groups", "cells"] ["groups"] (defScope s_somebody_lacks) := ⟨rfl, rfl, rfl, by decide +kernel, rfl, by decide +kernel, by decide +kernel⟩
theorem ok_somebody_lacks (D : DefAt K mg "somebody_lacks" s_somebody_lacks) (B : Blt mg) (G_so_of : OkAt P w K mg base 1 "so_of" ["cells"] (spCells K so)) (G_others_of : OkAt P w K mg base 1 "others_of" ["cells"] (spCells K oth)) :
    OkAt P w K mg base 2 "somebody_lacks" ["groups"] (spLacks K) := by
  refine okAt_of D (fun _ _ _ _ _ _ us hl => match us, hl with | [_], _ => rfl) fun f fd F => ?_
  have nd := sc_somebody_lacks.nd
  refine F.ok sc_somebody_lacks (fun vs H Q E h => ?_) (fun cdv A outer s H vs Q E hr h => ?_)
  · obtain ⟨a, c0, c1, rfl, _⟩ := h
    rfl
  · obtain ⟨a, c0, c1, rfl, ⟨g0, g1, hg, h0, h1⟩, l0, l1, k⟩ := h
    refine ⟨_, (pss_cons (ps_for PassesOwn.never rfl (pi_list (pv 0)) (pg_name (i := 1) nd rfl (Or.inl rfl)) (pss_one (ps_if (PW.pt (pw_or (pt_cmpR op_eq (pe_callB (cr_sum rfl) (by rfl) B.sum (by decide +kernel) (pa_cons (pe_callO G_so_of (hr.mono (by decide)) (by rfl) (pa_cons (pv 1) pa_nil)) pa_nil)) pe_int (nomark _)) (pw_or1 (pt_cmpR op_eq (pe_callB (cr_sum rfl) (by rfl) B.sum (by decide +kernel) (pa_cons (pe_callO G_others_of (hr.mono (by decide)) (by rfl) (pa_cons (pv 1) pa_nil)) pa_nil)) pe_int (nomark _))))) (pss_one (ps_ret pe_bl)) pss_nil))) (pss_one (ps_ret pe_bl))), ?_⟩
    have one : ∀ (g : Addr) (cs : Cells) (H' : Hp) (R : Bool → Hp → Prop) (σ : L2.St), cs.length ≤ 4 → CellsAt K H' g cs → Same H H' → σ[1]? = some (some (V.ref g)) → (∀ H2, Same H H2 → R (lack cs) H2) →
        tOr (tTest (tOp rEq (tCB (rSum K) (tCons (tCallO (spCells K so) (tCons (tVar 1) tNil)) tNil)) (tC (.int 0)))) (tTest (tOp rEq (tCB (rSum K) (tCons (tCallO (spCells K oth) (tCons (tVar 1) tNil)) tNil)) (tC (.int 0)))) σ H' R := by
      intro g cs H' R σ hl hc s5 hs hR
      refine ⟨_, hs, g, cs, rfl, hc, hl, fun H2 v2 s6 ⟨p, e, hp⟩ => ?_⟩
      subst e
      refine ⟨p, so cs, rfl, SqL.of hp, rfl, _, rfl, ?_⟩
      rw [dec_v]
      unfold lack at hR
      by_cases z : (so cs).sum = 0
      · rw [decide_eq_true z] at hR ⊢
        exact iteT (hR H2 (s5.trans s6))
      · rw [decide_eq_false z] at hR ⊢
        refine iteF ⟨_, hs, g, cs, rfl, hc.same s6, hl, fun H3 v3 s7 ⟨p, e, hp⟩ => ?_⟩
        subst e
        refine ⟨p, oth cs, rfl, SqL.of hp, rfl, _, rfl, ?_⟩
        rw [dec_v]
        exact hR H3 ((s5.trans s6).trans s7)
    refine ⟨_, rfl, a, rfl, ⟨_, hg⟩, for_list (K := K) (a := a) (xs := [.ref g0, .ref g1]) (fun i σ H' => ∃ v : Option V, σ = [some (.ref a), v] ∧ Same H H' ∧ (1 ≤ i → lack c0 = false) ∧ (2 ≤ i → lack c1 = false))
      ⟨none, rfl, Same.refl H, fun z => by omega, fun z => by omega⟩ (fun i σ H' _ ⟨_, _, s5, _⟩ => s5.seq hg) ?_ ?_⟩
    · rintro i x σ H' hx ⟨v, rfl, s5, f0, f1⟩
      match i, hx with
      | 0, hx =>
        have e : V.ref g0 = x := Option.some.inj hx
        subst e
        refine one g0 c0 H' _ _ l0 (h0.same s5) s5 rfl fun H2 s6 => ?_
        cases e : lack c0 with
        | true =>
          refine iteT ?_
          exact k H2 _ s6 (by rw [e]; rfl)
        | false =>
          refine iteF ?_
          exact ⟨_, rfl, s6, fun _ => rfl, fun z => by omega⟩
      | 1, hx =>
        have e : V.ref g1 = x := Option.some.inj hx
        subst e
        refine one g1 c1 H' _ _ l1 (h1.same s5) s5 rfl fun H2 s6 => ?_
        cases e : lack c1 with
        | true =>
          refine iteT ?_
          exact k H2 _ s6 (by rw [e, Bool.or_true])
        | false =>
          refine iteF ?_
          exact ⟨_, rfl, s6, fun _ => f0 (by omega), fun _ => rfl⟩
      | i + 2, hx => simp at hx
    · rintro σ H' ⟨v, rfl, s5, f0, f1⟩
      have e0 := f0 (by show 1 ≤ 2; decide)
      have e1 := f1 (by show 2 ≤ 2; decide)
      exact k H' _ s5 (by rw [e0, e1]; rfl)
end
end My
namespace My
open PySem PySem.Spec PyProof.Rows L2
/-! ## orders.py -/
def ofN (l : List Nat) : List V := l.map fun n : Nat => V.int (n : Int)
theorem ofN_at {l : List Nat} {i y : Nat} (h : l[i]? = some y) : (ofN l)[i]? = some (V.int (y : Int)) := map_at _ h
theorem ints_at {l : List Int} {s : Nat} (h : s < l.length) : (l.map V.int)[s]? = some (V.int (l.getD s 0)) := by
  rw [List.getElem?_map, List.getD_eq_getElem?_getD, List.getElem?_eq_getElem h]
  rfl
/-- numbers of a moderate size -/
structure Md (ns : List Int) : Prop where
  small : ∀ z ∈ ns, z.natAbs < 2 ^ 20
theorem Md.at {ns : List Int} (h : Md ns) (s : Nat) : (ns.getD s 0).natAbs < 2 ^ 20 := by
  rw [List.getD_eq_getElem?_getD]
  cases e : ns[s]? with
  | none =>
    show (0 : Int).natAbs < 2 ^ 20
    decide
  | some z => exact h.small z (List.mem_of_getElem? e)
theorem Md.mul {ns ms : List Int} (h : Md ns) (s t : Nat) : CMul (ns.getD s 0) (ms.getD t 0) := by
  have := h.at s
  exact .inl ⟨by omega, by omega⟩
section
variable {P : Program} {w : World} {K : PySem.W.Frag} {mg : Str → Option Value} {base : Heap}
def spPlace (K : PySem.W.Frag) : Sp := fun vs H Q _ => ∃ (a r z : Addr) (s : Nat) (l : List Nat) (runs rises : List Int), vs = [.ref a, .int (s : Int), .ref r, .ref z] ∧ SqL K H a (ofN l) ∧ SqL K H r (runs.map V.int) ∧ SqL K H z (rises.map V.int) ∧
  s < runs.length ∧ rises.length = runs.length ∧ (∀ y ∈ l, y < runs.length) ∧ Md runs ∧ Md rises ∧ Q (.int ((ipos (ahead runs rises) s l : Nat) : Int)) H
abbrev s_place_in : Stmt := top 26
theorem sc_place_in : FnScope ["order", "score", "runs", "rises", "place"] ["order", "score", "runs", "rises"] (defScope s_place_in) := ⟨rfl, rfl, rfl, by decide +kernel, rfl, by decide +kernel, by decide +kernel⟩
theorem ok_place_in (D : DefAt K mg "place_in" s_place_in) (B : Blt mg) : OkAt P w K mg base 1 "place_in" ["order", "score", "runs", "rises"] (spPlace K) := by
  refine okAt_of D (fun _ _ _ _ _ _ us hl => match us, hl with | [_, _, _, _], _ => rfl) fun f fd F => ?_
  have nd := sc_place_in.nd
  refine F.ok sc_place_in (fun vs H Q E h => ?_) (fun cdv A outer s H vs Q E hr h => ?_)
  · obtain ⟨a, r, z, s, l, runs, rises, rfl, _⟩ := h
    rfl
  · obtain ⟨a, r, z, s, l, runs, rises, rfl, ha, hr1, hz, hs, hl, hm, mr, mz, k⟩ := h
    refine ⟨_, (pss_cons (ps_set (i := 4) nd rfl (Or.inl rfl) pe_int) (pss_cons (ps_while PassesOwn.never (PW.pt (pw_and (pt_cmpR op_lt (pv 4) (pe_callB call_len_seq (by rfl) B.len (by decide +kernel) (pa_cons (pv 0) pa_nil)) (nomark _)) (pw_and1 (pt_cmpR op_le (pe_op op_mul (pe_ix ix_list (pv 3) (pv 1) (fun _ _ => rfl)) (pe_ix ix_list (pv 2) (pe_ix ix_list (pv 0) (pv 4) (fun _ _ => rfl)) (fun _ _ => rfl))) (pe_op op_mul (pe_ix ix_list (pv 3) (pe_ix ix_list (pv 0) (pv 4) (fun _ _ => rfl)) (fun _ _ => rfl)) (pe_ix ix_list (pv 2) (pv 1) (fun _ _ => rfl))) (nomark _))))) (pss_one (ps_aug (i := 4) nd rfl (Or.inl rfl) pe_int ip_add))) (pss_one (ps_ret (pv 4))))), ?_⟩
    refine ⟨fun m σ H' => ∃ i : Nat, σ = [some (.ref a), some (.int (s : Int)), some (.ref r), some (.ref z), some (.int (i : Int))] ∧ m = l.length - i ∧ H' = H ∧ i ≤ ipos (ahead runs rises) s l, ⟨_, 0, rfl, rfl, rfl, Nat.zero_le _⟩, ?_⟩
    rintro m σ H' ⟨i, rfl, rfl, rfl, hi⟩
    have le := ipos_le (f := ahead runs rises) (x := s) l
    refine ⟨_, rfl, _, rfl, a, _, rfl, .inl ha, _, _, rfl, rfl, _, rfl, ?_⟩
    by_cases hlt : i < l.length
    · have y1 : l[i]? = some l[i] := List.getElem?_eq_getElem hlt
      have y2 := hm _ (List.getElem_mem hlt)
      generalize hy : l[i] = y at y1 y2
      have lt1 : decide (((i : Nat) : Int) < (((ofN l).length : Nat) : Int)) = true := decide_eq_true (by unfold ofN; rw [List.length_map]; omega)
      rw [lt1]
      refine iteT ?_
      refine ⟨_, rfl, _, rfl, z, _, _, _, rfl, rfl, hz, atI_nat (ints_at (by omega)), ?_⟩
      refine ⟨_, rfl, _, rfl, _, rfl, a, _, _, _, rfl, rfl, ha, atI_nat (ofN_at y1), r, _, _, _, rfl, rfl, hr1, atI_nat (ints_at y2), _, _, rfl, rfl, mz.mul s y, ?_⟩
      refine ⟨_, rfl, _, rfl, _, rfl, a, _, _, _, rfl, rfl, ha, atI_nat (ofN_at y1), z, _, _, _, rfl, rfl, hz, atI_nat (ints_at (by omega)), ?_⟩
      refine ⟨_, rfl, _, rfl, r, _, _, _, rfl, rfl, hr1, atI_nat (ints_at hs), _, _, rfl, rfl, mz.mul y s, _, _, rfl, rfl, _, rfl, ?_⟩
      by_cases hc : rises.getD s 0 * runs.getD y 0 ≤ rises.getD y 0 * runs.getD s 0
      · rw [decide_eq_true hc]
        refine iteT ?_
        have na : ahead runs rises s y = false := decide_eq_false (Int.not_lt.mpr hc)
        have lt2 : i < ipos (ahead runs rises) s l := by
          rcases Nat.lt_or_ge i (ipos (ahead runs rises) s l) with e | e
          · exact e
          · have e2 : i = ipos (ahead runs rises) s l := by omega
            have := ipos_at (f := ahead runs rises) (x := s) (l := l) (y := y) (by rw [← e2]; exact y1)
            rw [na] at this
            cases this
        refine ⟨fun σ' H2 => ∃ i' : Nat, σ' = [some (.ref a), some (.int (s : Int)), some (.ref r), some (.ref z), some (.int (i' : Int))] ∧ i' = i + 1 ∧ H2 = H', ?_, ?_⟩
        · rintro σ' H2 ⟨i', e1, rfl, e3⟩
          exact ⟨l.length - (i + 1), by omega, i + 1, e1, rfl, e3, lt2⟩
        · exact ⟨_, rfl, _, _, rfl, rfl, i + 1, rfl, rfl, rfl⟩
      · rw [decide_eq_false hc]
        refine iteF ?_
        have na : ahead runs rises s y = true := decide_eq_true (Int.not_le.mp hc)
        have e : i = ipos (ahead runs rises) s l := by
          rcases Nat.lt_or_ge i (ipos (ahead runs rises) s l) with e | e
          · have := ipos_before (f := ahead runs rises) (x := s) y1 e
            rw [na] at this
            cases this
          · omega
        rw [← e] at k
        exact ⟨_, rfl, k⟩
    · have lt1 : decide (((i : Nat) : Int) < (((ofN l).length : Nat) : Int)) = false := decide_eq_false (by unfold ofN; rw [List.length_map]; omega)
      rw [lt1]
      refine iteF ?_
      refine iteF ?_
      have e : i = ipos (ahead runs rises) s l := by omega
      rw [← e] at k
      exact ⟨_, rfl, k⟩
end
end My
namespace My
open PySem PySem.Spec PyProof.Rows L2
section
variable {P : Program} {w : World} {K : PySem.W.Frag} {mg : Str → Option Value} {base : Heap}
theorem eqv_two {a b c d : Int} : PyData.eqv (.tuple [.int a, .int b]) (.tuple [.int c, .int d]) = decide (a = c ∧ b = d) := by
  simp only [PyData.eqv, PyData.eqvAll, Bool.and_true]
  by_cases h1 : a = c <;> by_cases h2 : b = d <;> simp [h1, h2]
theorem shaped_two (a b : Int) : SeqAt.shaped (.tuple [.int a, .int b]) = true := rfl
theorem dp_two {K : PySem.W.Frag} {H : Hp} {t : Addr} {a b : Int} (h : SqT K H t [.int a, .int b]) : Dp K H (.ref t) (.tuple [.int a, .int b]) := .tup h (.cons (.int a) (.cons (.int b) .nil))
theorem ofN_insert {l : List Nat} {p s : Nat} : (ofN l).take p ++ [V.int (s : Int)] ++ (ofN l).drop p = ofN (l.take p ++ [s] ++ l.drop p) := by
  unfold ofN
  rw [List.map_append, List.map_append, List.map_take, List.map_drop]
  rfl
def spSteep (K : PySem.W.Frag) : Sp := fun vs H Q _ => ∃ (a r z : Addr) (cs : Cells) (runs rises : List Int), vs = [.ref a, .ref r, .ref z] ∧ CellsAt K H a cs ∧ SqL K H r (runs.map V.int) ∧ SqL K H z (rises.map V.int) ∧
  runs.length = cs.length ∧ rises.length = cs.length ∧ cs.length ≤ 4 ∧ Md runs ∧ Md rises ∧ Gives H Q fun H' v => ∃ p, v = .ref p ∧ H p = none ∧ H' p = some (.lst (ofN (steep cs runs rises)))
abbrev s_steepest_first : Stmt := top 27
theorem sc_steepest_first : FnScope ["cells", "runs", "rises", "order", "score"] ["cells", "runs", "rises"] (defScope s_steepest_first) := ⟨rfl, rfl, rfl, by decide +kernel, rfl, by decide +kernel, by decide +kernel⟩
theorem ok_steepest_first (D : DefAt K mg "steepest_first" s_steepest_first) (B : Blt mg) (G_place_in : OkAt P w K mg base 1 "place_in" ["order", "score", "runs", "rises"] (spPlace K)) : OkAt P w K mg base 2 "steepest_first" ["cells", "runs", "rises"] (spSteep K) := by
  refine okAt_of D (fun _ _ _ _ _ _ us hl => match us, hl with | [_, _, _], _ => rfl) fun f fd F => ?_
  have nd := sc_steepest_first.nd
  refine F.ok sc_steepest_first (fun vs H Q E h => ?_) (fun cdv A outer s H vs Q E hr h => ?_)
  · obtain ⟨a, r, z, cs, runs, rises, rfl, _⟩ := h
    rfl
  · obtain ⟨a, r, z, cs, runs, rises, rfl, ⟨vs, ha, hc⟩, hr1, hz, hl1, hl2, h4, mr, mz, k⟩ := h
    refine ⟨_, (pss_cons (ps_set (i := 3) nd rfl (Or.inl rfl) (pe_lst pa_nil)) (pss_cons (ps_for PassesOwn.never rfl (pi_range1 (by rfl) B.range (pa_cons (pe_callB call_len_seq (by rfl) B.len (by decide +kernel) (pa_cons (pv 0) pa_nil)) pa_nil)) (pg_name (i := 4) nd rfl (Or.inl rfl)) (pss_one (ps_if (pt_cmpR (op_neD hr.units) (pe_ix ix_list (pv 0) (pv 4) (fun _ _ => rfl)) (pe_tup (pa_cons pe_int (pa_cons pe_int pa_nil))) (nomark _)) (pss_one (ps_expr (pe_bm PySem.F.plainAttrs_list PySem.F.slot_list_insert PySem.F.type_list_insert mt_insert (pv 3) (pa_cons (pe_callO G_place_in (hr.mono (by decide)) (by rfl) (pa_cons (pv 3) (pa_cons (pv 4) (pa_cons (pv 1) (pa_cons (pv 2) pa_nil))))) (pa_cons (pv 4) pa_nil))))) pss_nil))) (pss_one (ps_ret (pv 3))))), ?_⟩
    refine ⟨Nat.zero_le _, fun d hd => ?_⟩
    have s0 : Same H (upd H d (.lst [])) := Same.new hd
    have elen : ((vs.length : Nat) : Int).toNat = cs.length := by rw [hc.1]; omega
    refine ⟨_, rfl, a, _, rfl, .inl (s0.seq ha), ((vs.length : Nat) : Int), rfl, by omega, by have := hc.1; omega, ?_⟩
    rw [elen]
    refine for_range (n := cs.length) (lo := 0) (fun i σ H' => ∃ v : Option V, σ = [some (.ref a), some (.ref r), some (.ref z), some (.ref d), v] ∧ Same H H' ∧ H' d = some (.lst (ofN (steepTo cs runs rises i)))) ⟨none, rfl, s0, upd_same⟩ ?_ ?_
    · rintro i σ H' hi ⟨v, rfl, s5, h5⟩
      have hci : cs[i]? = some (cs.getD i (0, 0)) := by rw [List.getD_eq_getElem?_getD, List.getElem?_eq_getElem hi]; rfl
      obtain ⟨x, hx, t, rfl, ht⟩ := hc.at hci
      have ei : (0 : Int) + (i : Int) = (i : Int) := by omega
      rw [ei]
      generalize hcell : cs.getD i (0, 0) = c at ht hci
      refine ⟨_, rfl, _, rfl, a, _, _, _, rfl, rfl, s5.seq ha, atI_nat hx, ?_⟩
      refine ⟨two_le, fun q hq => ?_⟩
      have s6 : Same H' (upd H' q (.tup [.int 0, .int 0])) := Same.new hq
      refine ⟨_, _, dp_two (Same.tup (s5.trans s6) ht), dp_two (SqT.of upd_same), shaped_two _ _, shaped_two _ _, _, rfl, ?_⟩
      rw [eqv_two]
      by_cases hne : c ≠ (0, 0)
      · have e1 : decide (((c.1 : Nat) : Int) = 0 ∧ ((c.2 : Nat) : Int) = 0) = false := decide_eq_false fun ⟨z1, z2⟩ => hne (Prod.ext (by show c.1 = 0; omega) (by show c.2 = 0; omega))
        rw [e1]
        refine iteT ?_
        have h6 := s6 _ _ h5
        refine ⟨_, rfl, .inl ⟨rfl, _, SqL.of h6⟩, ?_⟩
        refine ⟨_, rfl, _, rfl, _, rfl, _, rfl, ?_⟩
        refine ⟨d, r, z, i, steepTo cs runs rises i, runs, rises, rfl, SqL.of h6, (s5.trans s6).seq hr1, (s5.trans s6).seq hz, by omega, by omega, fun y hy => by have := steepTo_mem hy; omega, mr, mz, ?_⟩
        have le := ipos_le (f := ahead runs rises) (x := i) (steepTo cs runs rises i)
        have ll := steepTo_len (cs := cs) (runs := runs) (rises := rises) (i := i)
        refine ⟨_, rfl, d, _, _, _, rfl, rfl, h6, (lt_line (by unfold ofN; rw [List.length_map]; omega)), by omega, by omega, ?_⟩
        refine ⟨_, rfl, fun b o e => ?_, ?_⟩
        · rw [upd_ne (ne_of_none e hd)]
          exact s6 b o (s5 b o e)
        · rw [upd_same, steepTo_in (by rw [hcell]; exact hne), insert_ipos, ← ofN_insert]
          rfl
      · have hz0 : c = (0, 0) := Decidable.not_not.mp hne
        subst hz0
        refine iteF ?_
        refine ⟨_, rfl, s5.trans s6, ?_⟩
        rw [steepTo_out (by rw [hcell]; exact hne)]
        exact s6 _ _ h5
    · rintro σ H' ⟨v, rfl, s5, h5⟩
      exact ⟨_, rfl, k H' _ s5 ⟨d, rfl, hd, h5⟩⟩
end
end My
namespace My
open PySem PySem.Spec PyProof.Rows L2
theorem md_so {cs : Cells} (h : CsOk cs) : Md (so cs) := ⟨fun z hz => by
  unfold so at hz
  obtain ⟨c, hc, rfl⟩ := List.mem_map.mp hz
  have := h.small c hc
  omega⟩
theorem md_oth {cs : Cells} (h : CsOk cs) : Md (oth cs) := ⟨fun z hz => by
  unfold oth at hz
  obtain ⟨c, hc, rfl⟩ := List.mem_map.mp hz
  have := h.small c hc
  omega⟩
theorem md_siz {cs : Cells} (h : CsOk cs) : Md (siz cs) := ⟨fun z hz => by
  unfold siz at hz
  obtain ⟨c, hc, rfl⟩ := List.mem_map.mp hz
  have := h.small c hc
  omega⟩
theorem md_gai {u v : Nat} {cs : Cells} (h : CsOk cs) (hu : u ≤ 100) (hv : v ≤ 100) : Md (gai u v cs) := ⟨fun z hz => by
  unfold gai at hz
  obtain ⟨c, hc, rfl⟩ := List.mem_map.mp hz
  have ⟨h1, h2⟩ := h.small c hc
  have a : u * c.1 ≤ 100 * 99 := Nat.mul_le_mul hu h1
  have b : v * c.2 ≤ 100 * 99 := Nat.mul_le_mul hv h2
  have ea : ((u * c.1 : Nat) : Int) = (u : Int) * (c.1 : Int) := Int.natCast_mul _ _
  have eb : ((v * c.2 : Nat) : Int) = (v : Int) * (c.2 : Int) := Int.natCast_mul _ _
  show ((u : Int) * (c.1 : Int) - (v : Int) * (c.2 : Int)).natAbs < 2 ^ 20
  omega⟩
theorem md_run {kind : Nat} {cs : Cells} (h : CsOk cs) : Md (runK kind cs) := by
  unfold runK
  split
  · exact md_siz h
  · split
    · exact md_so h
    · exact md_oth h
section
variable {P : Program} {w : World} {K : PySem.W.Frag} {mg : Str → Option Value} {base : Heap}
structure Kinds (mg : Str → Option Value) : Prop where
  FREELY : ∃ t, mg "FREELY" = some (.int 0 t)
  SAME_PART : ∃ t, mg "SAME_PART" = some (.int 1 t)
  SAME_RIGHT : ∃ t, mg "SAME_RIGHT" = some (.int 2 t)
  SAME_BOTH : ∃ t, mg "SAME_BOTH" = some (.int 3 t)
def spRuns (K : PySem.W.Frag) : Sp := fun vs H Q _ => ∃ (kind : Nat) (a : Addr) (cs : Cells), vs = [.int (kind : Int), .ref a] ∧ 1 ≤ kind ∧ kind ≤ 3 ∧ CellsAt K H a cs ∧ cs.length ≤ 4 ∧ Gives H Q fun H' v => ∃ p, v = .ref p ∧ H' p = some (.lst ((runK kind cs).map V.int))
theorem kd {kind : Nat} {j : Int} : decide (V.int (kind : Int) = V.int j) = decide ((kind : Int) = j) := dec_v
abbrev s_runs_for : Stmt := top 29
theorem sc_runs_for : FnScope ["kind", "cells"] ["kind", "cells"] (defScope s_runs_for) := ⟨rfl, rfl, rfl, by decide +kernel, rfl, by decide +kernel, by decide +kernel⟩
theorem ok_runs_for (D : DefAt K mg "runs_for" s_runs_for) (T : Kinds mg) (G_so_of : OkAt P w K mg base 1 "so_of" ["cells"] (spCells K so)) (G_others_of : OkAt P w K mg base 1 "others_of" ["cells"] (spCells K oth)) (G_sizes_of : OkAt P w K mg base 1 "sizes_of" ["cells"] (spCells K siz)) :
    OkAt P w K mg base 2 "runs_for" ["kind", "cells"] (spRuns K) := by
  refine okAt_of D (fun _ _ _ _ _ _ us hl => match us, hl with | [_, _], _ => rfl) fun f fd F => ?_
  have nd := sc_runs_for.nd
  refine F.ok sc_runs_for (fun vs H Q E h => ?_) (fun cdv A outer s H vs Q E hr h => ?_)
  · obtain ⟨kind, a, cs, rfl, _⟩ := h
    rfl
  · obtain ⟨kind, a, cs, rfl, k1, k3, ha, h4, k⟩ := h
    refine ⟨_, (pss_cons (ps_if (pt_cmpR op_eq (pv 0) (pe_gi T.SAME_PART (by rfl)) (nomark _)) (pss_one (ps_ret (pe_callO G_sizes_of (hr.mono (by decide)) (by rfl) (pa_cons (pv 1) pa_nil)))) pss_nil) (pss_cons (ps_if (pt_cmpR op_eq (pv 0) (pe_gi T.SAME_RIGHT (by rfl)) (nomark _)) (pss_one (ps_ret (pe_callO G_so_of (hr.mono (by decide)) (by rfl) (pa_cons (pv 1) pa_nil)))) pss_nil) (pss_one (ps_ret (pe_callO G_others_of (hr.mono (by decide)) (by rfl) (pa_cons (pv 1) pa_nil)))))), ?_⟩
    refine ⟨_, rfl, rfl, _, rfl, ?_⟩
    rw [kd]
    by_cases e1 : kind = 1
    · subst e1
      refine iteT ?_
      exact ⟨_, rfl, a, cs, rfl, ha, h4, k⟩
    · rw [decide_eq_false (by omega)]
      refine iteF ?_
      refine ⟨_, rfl, rfl, _, rfl, ?_⟩
      rw [kd]
      by_cases e2 : kind = 2
      · subst e2
        refine iteT ?_
        exact ⟨_, rfl, a, cs, rfl, ha, h4, k⟩
      · rw [decide_eq_false (by omega)]
        refine iteF ?_
        have e3 : kind = 3 := by omega
        subst e3
        exact ⟨_, rfl, a, cs, rfl, ha, h4, k⟩
def spOrd (K : PySem.W.Frag) : Sp := fun vs H Q _ => ∃ (kind : Nat) (a : Addr) (z : V) (cs : Cells) (u v : Nat), vs = [.int (kind : Int), .ref a, z] ∧ 1 ≤ kind ∧ kind ≤ 3 ∧ CellsAt K H a cs ∧ CsOk cs ∧ Pr K H z (u, v) ∧ u ≤ 100 ∧ v ≤ 100 ∧ Gives H Q fun H' v' => ∃ p, v' = .ref p ∧ H p = none ∧ H' p = some (.lst (ofN (ordK kind u v cs)))
theorem ofN_more {l : List Nat} {i y : Nat} {f : Nat → Bool} (h : l[i]? = some y) (hf : f y = true) : ofN ((l.take i).filter f) ++ [V.int (y : Int)] = ofN ((l.take (i + 1)).filter f) := by
  rw [take_more h, List.filter_append, List.filter_cons, if_pos hf]
  unfold ofN
  rw [List.map_append]
  rfl
theorem ofN_less {l : List Nat} {i y : Nat} {f : Nat → Bool} (h : l[i]? = some y) (hf : ¬ f y = true) : (l.take (i + 1)).filter f = (l.take i).filter f := by
  rw [take_more h, List.filter_append, List.filter_cons, if_neg hf, List.filter_nil, List.append_nil]
abbrev s_order_for : Stmt := top 28
theorem sc_order_for : FnScope ["kind", "cells", "pays", "order", "score"] ["kind", "cells", "pays"] (defScope s_order_for) := ⟨rfl, rfl, rfl, by decide +kernel, rfl, by decide +kernel, by decide +kernel⟩
theorem ok_order_for (D : DefAt K mg "order_for" s_order_for) (T : Kinds mg) (G_so_of : OkAt P w K mg base 1 "so_of" ["cells"] (spCells K so)) (G_others_of : OkAt P w K mg base 1 "others_of" ["cells"] (spCells K oth)) (G_sizes_of : OkAt P w K mg base 1 "sizes_of" ["cells"] (spCells K siz))
    (G_gains_of : OkAt P w K mg base 1 "gains_of" ["cells", "pays"] (spGainsOf K)) (G_steepest_first : OkAt P w K mg base 2 "steepest_first" ["cells", "runs", "rises"] (spSteep K)) :
    OkAt P w K mg base 3 "order_for" ["kind", "cells", "pays"] (spOrd K) := by
  refine okAt_of D (fun _ _ _ _ _ _ us hl => match us, hl with | [_, _, _], _ => rfl) fun f fd F => ?_
  have nd := sc_order_for.nd
  refine F.ok sc_order_for (fun vs H Q E h => ?_) (fun cdv A outer s H vs Q E hr h => ?_)
  · obtain ⟨kind, a, z, cs, u, v, rfl, _⟩ := h
    rfl
  · obtain ⟨kind, a, z, cs, u, v, rfl, k1, k3, ha, cok, hz, hu, hv, k⟩ := h
    have h4 := cok.len
    refine ⟨_, (pss_cons (ps_if (pt_cmpR op_eq (pv 0) (pe_gi T.SAME_PART (by rfl)) (nomark _)) (pss_one (ps_ret (pe_callO G_steepest_first (hr.mono (by decide)) (by rfl) (pa_cons (pv 1) (pa_cons (pe_callO G_sizes_of (hr.mono (by decide)) (by rfl) (pa_cons (pv 1) pa_nil)) (pa_cons (pe_callO G_gains_of (hr.mono (by decide)) (by rfl) (pa_cons (pv 1) (pa_cons (pv 2) pa_nil))) pa_nil)))))) pss_nil) (pss_cons (ps_set (i := 3) nd rfl (Or.inl rfl) (pe_callO G_steepest_first (hr.mono (by decide)) (by rfl) (pa_cons (pv 1) (pa_cons (pe_callO G_others_of (hr.mono (by decide)) (by rfl) (pa_cons (pv 1) pa_nil)) (pa_cons (pe_callO G_so_of (hr.mono (by decide)) (by rfl) (pa_cons (pv 1) pa_nil)) pa_nil))))) (pss_cons (ps_if (pt_cmpR op_eq (pv 0) (pe_gi T.SAME_RIGHT (by rfl)) (nomark _)) (pss_one (ps_ret (pe_lc (own := [("score", 4)]) (g := (gName 4)) (te := (tVar 4)) (tt := (tTest (tOp (rI0 fun i j => .bl (decide (j < i))) (tOp (rIxT K) (tOp (rIxL K) (tVar 1) (tVar 4)) (tC (.int 0))) (tC (.int 0))))) (by rfl) nd (pi_list (pv 3)) (blkOk_by (own := [("score", 4)]) (N := ["kind", "cells", "pays", "order", "score"]) (sc := defScope s_order_for) (by decide +kernel)) (fun _ _ _ _ _ => (pg_name (i := 4) nd rfl (Or.inl rfl))) (fun _ _ _ _ _ => (pts_one (pt_cmpR op_gt (pe_ix ix_tup (pe_ix ix_list (pv 1) (pv 4) (fun _ _ => rfl)) pe_int (fun _ _ => rfl)) pe_int (nomark _)))) (fun _ _ _ _ _ => (pv 4))))) pss_nil) (pss_one (ps_ret (pv 3)))))), ?_⟩
    refine ⟨_, rfl, rfl, _, rfl, ?_⟩
    rw [kd]
    by_cases e1 : kind = 1
    · subst e1
      refine iteT ?_
      refine ⟨_, rfl, _, rfl, a, cs, rfl, ha, h4, fun H2 v2 s2 ⟨p2, e2, hp2⟩ => ?_⟩
      subst e2
      refine ⟨_, rfl, _, rfl, a, z, cs, u, v, rfl, ha.same s2, hz.same s2, hu, hv, h4, fun H3 v3 s3 ⟨p3, e3, hp3⟩ => ?_⟩
      subst e3
      refine ⟨a, p2, p3, cs, siz cs, gai u v cs, rfl, (ha.same s2).same s3, SqL.of (s3 _ _ hp2), SqL.of hp3, len_siz cs, len_gai u v cs, h4, md_siz cok, md_gai cok hu hv, fun H4 v4 s4 ⟨p4, e4, n4, hp4⟩ => ?_⟩
      exact k H4 v4 ((s2.trans s3).trans s4) ⟨p4, e4, (s2.trans s3).free n4, hp4⟩
    · rw [decide_eq_false (by omega)]
      refine iteF ?_
      refine ⟨_, rfl, _, rfl, a, cs, rfl, ha, h4, fun H2 v2 s2 ⟨p2, e2, hp2⟩ => ?_⟩
      subst e2
      refine ⟨_, rfl, a, cs, rfl, ha.same s2, h4, fun H3 v3 s3 ⟨p3, e3, hp3⟩ => ?_⟩
      subst e3
      have ha3 := (ha.same s2).same s3
      refine ⟨a, p2, p3, cs, oth cs, so cs, rfl, ha3, SqL.of (s3 _ _ hp2), SqL.of hp3, len_oth cs, len_so cs, h4, md_oth cok, md_so cok, fun H4 v4 s4 ⟨p4, e4, n4, hp4⟩ => ?_⟩
      subst e4
      have sall := (s2.trans s3).trans s4
      refine ⟨_, rfl, rfl, _, rfl, ?_⟩
      rw [kd]
      by_cases e5 : kind = 2
      · subst e5
        refine iteT ?_
        have ha4 := ha3.same s4
        obtain ⟨vs, hvs, hc⟩ := ha4
        refine ⟨_, rfl, p4, rfl, ⟨_, SqL.of hp4⟩, fun d hd => lc_list (K := K) (a := p4) (xs := ofN (steep cs (oth cs) (so cs))) (fun i H' => Same H4 H' ∧ H' d = some (.lst (ofN (((steep cs (oth cs) (so cs)).take i).filter fun s => decide (0 < (so cs).getD s 0))))) ⟨Same.new hd, upd_same⟩ (fun i H' _ ⟨s, _⟩ => SqL.of (s _ _ hp4)) ?_ ?_⟩
        · rintro i x H' hx ⟨s5, h5⟩
          obtain ⟨y, hy, rfl⟩ : ∃ y, (steep cs (oth cs) (so cs))[i]? = some y ∧ x = V.int (y : Int) := by
            unfold ofN at hx
            rw [List.getElem?_map] at hx
            cases e : (steep cs (oth cs) (so cs))[i]? with
            | none => rw [e] at hx; cases hx
            | some c => rw [e] at hx; exact ⟨c, rfl, (Option.some.inj hx).symm⟩
          have hyl := (mem_steep.mp (List.mem_of_getElem? hy)).1
          have hcy : cs[y]? = some (cs.getD y (0, 0)) := by rw [List.getD_eq_getElem?_getD, List.getElem?_eq_getElem hyl]; rfl
          obtain ⟨x2, hx2, t, rfl, ht⟩ := hc.at hcy
          refine ⟨rfl, ?_⟩
          refine ⟨_, rfl, _, rfl, a, _, _, _, rfl, rfl, s5.seq hvs, atI_nat hx2, t, _, _, _, rfl, rfl, Same.tup s5 ht, at0, _, _, rfl, rfl, _, rfl, ?_⟩
          have eso := so_at cs y
          by_cases c0 : 0 < (so cs).getD y 0
          · rw [decide_eq_true (by rw [← eso]; exact c0)]
            refine iteT ?_
            refine ⟨_, rfl, _, h5, ?_, made_same hd s5, ?_⟩
            · refine lt_line ?_
              unfold ofN
              rw [List.length_map]
              have := List.length_filter_le (fun s => decide (0 < (so cs).getD s 0)) ((steep cs (oth cs) (so cs)).take i)
              have := List.length_take_le i (steep cs (oth cs) (so cs))
              have := steep_len (cs := cs) (runs := oth cs) (rises := so cs)
              have := List.length_take_le' i (steep cs (oth cs) (so cs))
              omega
            · rw [upd_same, ofN_more hy (decide_eq_true c0)]
          · rw [decide_eq_false (by rw [← eso]; exact c0)]
            refine iteF ?_
            refine ⟨s5, ?_⟩
            rw [ofN_less hy (fun z => c0 (of_decide_eq_true z))]
            exact h5
        · rintro H' ⟨s5, h5⟩
          unfold ofN at h5
          rw [List.length_map, List.take_length] at h5
          exact k H' _ (sall.trans s5) ⟨d, rfl, sall.free hd, h5⟩
      · rw [decide_eq_false (by omega)]
        refine iteF ?_
        have e3 : kind = 3 := by omega
        subst e3
        exact ⟨_, rfl, k H4 _ sall ⟨p4, rfl, (s2.trans s3).free n4, hp4⟩⟩
end
end My
namespace My
open PySem PySem.Spec PyProof.Rows L2
section
variable {P : Program} {w : World} {K : PySem.W.Frag} {mg : Str → Option Value} {base : Heap}
def spTaken (K : PySem.W.Frag) : Sp := fun vs H Q _ => ∃ (a r : Addr) (y : V) (order : List Nat) (runs : List Int) (x : Rat) (m : Nat), vs = [.ref a, .ref r, y] ∧ SqL K H a (ofN order) ∧ SqL K H r (runs.map V.int) ∧ Fr K H y x ∧ (∀ s ∈ order, s < runs.length) ∧ order.length ≤ 4 ∧ runs.length ≤ 4 ∧ Md runs ∧
  0 ≤ runs.sum ∧ runs.sum.natAbs < 2 ^ 20 ∧ 0 ≤ x ∧ Sz m x ∧ m ≤ 4000 ∧ Gives H Q fun H' v => ∃ p, v = .ref p ∧ H p = none ∧ FrsT K H' p (tk runs order (x * ((runs.sum : Int) : Rat)) (zeros runs.length))
theorem tk_cons {runs : List Int} {s : Nat} {l : List Nat} {x : Rat} {c : List Rat} : tk runs (s :: l) x c = if x < ((runs.getD s 0 : Int) : Rat) then c.set s (x / ((runs.getD s 0 : Int) : Rat)) else tk runs l (x - ((runs.getD s 0 : Int) : Rat)) (c.set s 1) := rfl
theorem zeros_more {n : Nat} : zeros n ++ [0] = zeros (n + 1) := by
  unfold zeros
  rw [List.replicate_succ']
theorem drop_at {l : List Nat} {i y : Nat} (h : l[i]? = some y) : l.drop i = y :: l.drop (i + 1) := by
  have hi := (List.getElem?_eq_some_iff.mp h).1
  rw [List.drop_eq_getElem_cons hi]
  congr 1
  exact (List.getElem?_eq_some_iff.mp h).2
abbrev s_taken : Stmt := top 30
theorem sc_taken : FnScope ["order", "runs", "x", "chances", "left", "score", "run"] ["order", "runs", "x"] (defScope s_taken) := ⟨rfl, rfl, rfl, by decide +kernel, rfl, by decide +kernel, by decide +kernel⟩
theorem ok_taken (D : DefAt K mg "taken" s_taken) (B : Blt mg) (T : Con1 K mg) (G_minus : OkAt P w K mg base 3 "minus" ["first", "second"] (spTwo K (· - ·) fun _ => True)) (G_times : OkAt P w K mg base 3 "times" ["first", "second"] (spTwo K (· * ·) fun _ => True))
    (G_divided : OkAt P w K mg base 3 "divided" ["first", "second"] (spTwo K (· / ·) fun q => 0 < q)) (G_less : OkAt P w K mg base 1 "less" ["first", "second"] (spLess K)) (G_whole : OkAt P w K mg base 1 "whole" ["number"] (spWhole K)) :
    OkAt P w K mg base 4 "taken" ["order", "runs", "x"] (spTaken K) := by
  refine okAt_of D (fun _ _ _ _ _ _ us hl => match us, hl with | [_, _, _], _ => rfl) fun f fd F => ?_
  have nd := sc_taken.nd
  refine F.ok sc_taken (fun vs H Q E h => ?_) (fun cdv A outer s H vs Q E hr h => ?_)
  · obtain ⟨a, r, y, order, runs, x, m, rfl, _⟩ := h
    rfl
  · obtain ⟨a, r, y, order, runs, x, m, rfl, ha, hr1, hy, hm, o4, r4, mr, s0, s20, x0, sx, m4, k⟩ := h
    refine ⟨_, (pss_cons (ps_setLc (i := 3) (own := [("run", 6)]) (g := (gName 6)) (te := (tGT K [.int 0, .int 1])) (tt := tYes) (by rfl) nd rfl rfl (sw_true rfl rfl rfl (by decide +kernel)) (pi_list (pv 1)) (blkOk_by (own := [("run", 6)]) (N := ["order", "runs", "x", "chances", "left", "score", "run"]) (sc := defScope s_taken) (by decide +kernel)) (fun _ _ _ _ _ => (pg_name (i := 6) nd rfl (Or.inl rfl))) (fun _ _ _ _ _ => pts_nil) (fun _ _ _ _ _ => (pe_gt T.ZERO (by rfl)))) (pss_cons (ps_set (i := 4) nd rfl (Or.inl rfl) (pe_callO G_times (hr.mono (by decide)) (by rfl) (pa_cons (pv 2) (pa_cons (pe_callO G_whole (hr.mono (by decide)) (by rfl) (pa_cons (pe_callB (cr_sum rfl) (by rfl) B.sum (by decide +kernel) (pa_cons (pv 1) pa_nil)) pa_nil)) pa_nil)))) (pss_cons (ps_for PassesOwn.never rfl (pi_list (pv 0)) (pg_name (i := 5) nd rfl (Or.inl rfl)) (pss_cons (ps_set (i := 6) nd rfl (Or.inl rfl) (pe_callO G_whole (hr.mono (by decide)) (by rfl) (pa_cons (pe_ix ix_list (pv 1) (pv 5) (fun _ _ => rfl)) pa_nil))) (pss_cons (ps_if (pt_val (pe_callO G_less (hr.mono (by decide)) (by rfl) (pa_cons (pv 4) (pa_cons (pv 6) pa_nil)))) (pss_cons (ps_asg (pe_callO G_divided (hr.mono (by decide)) (by rfl) (pa_cons (pv 4) (pa_cons (pv 6) pa_nil))) (pg_sub (pv 3) (pv 5) set_list)) (pss_one ps_break)) pss_nil) (pss_cons (ps_asg (pe_gt T.ONE (by rfl)) (pg_sub (pv 3) (pv 5) set_list)) (pss_one (ps_set (i := 4) nd rfl (Or.inl rfl) (pe_callO G_minus (hr.mono (by decide)) (by rfl) (pa_cons (pv 4) (pa_cons (pv 6) pa_nil))))))))) (pss_one (ps_ret (pv 3)))))), ?_⟩
    -- chances = [ZERO for run in runs]
    refine ⟨_, rfl, r, rfl, ⟨_, hr1⟩, fun d hd => lc_list (K := K) (a := r) (xs := runs.map V.int) (fun i H' => Same H H' ∧ ∃ vs, H' d = some (.lst vs) ∧ vs.length = i ∧ LsOf (Fr K H') vs (zeros i)) ⟨Same.new hd, [], upd_same, rfl, LsOf.nil⟩ (fun i H' _ ⟨s, _⟩ => s.seq hr1) ?_ ?_⟩
    · rintro i x' H' hx ⟨s5, vs, h5, l5, f5⟩
      refine ⟨rfl, lc_yes ?_⟩
      intro z hz
      have hi : i < runs.length := by
        have := (List.getElem?_eq_some_iff.mp hx).1
        rw [List.length_map] at this
        exact this
      have sm : ∀ v q, Fr K H' v q → Fr K (upd H' d (.lst (vs ++ [.ref z]))) v q := fun v q fq => by
        obtain ⟨t, rfl, ht⟩ := fq
        refine ⟨t, rfl, ?_⟩
        rcases ht with (h | ⟨o, h⟩) | h
        · exact .inl (.inl (by rw [upd_ne (ne_of h h5 (by intro z; cases z))]; exact h))
        · exact .inl (.inr ⟨o, by rw [upd_ne (ne_of h h5 (by intro z; cases z))]; exact h⟩)
        · exact .inr h
      refine ⟨_, h5, lt_line (by omega), made_same hd s5, vs ++ [.ref z], upd_same, by rw [List.length_append, l5]; rfl, ?_⟩
      rw [← zeros_more]
      exact (f5.imp sm).snoc ⟨z, rfl, hz _⟩
    · rintro H1 ⟨s1, vs, h1, l1, f1⟩
      rw [List.length_map] at l1 f1
      -- left = times(x, whole(sum(runs)))
      refine ⟨_, rfl, _, rfl, r, runs, rfl, s1.seq hr1, runs.sum, rfl, fun H2 v2 s2 f2 => ?_⟩
      have sw : Sz 20 ((runs.sum : Int) : Rat) := Sz.int s20 (by decide)
      refine ⟨y, v2, x, ((runs.sum : Int) : Rat), m, 20, rfl, (hy.same s1).same s2, f2, sx, sw, by omega, trivial, fun H3 v3 s3 f3 => ?_⟩
      have s13 : Same H H3 := (s1.trans s2).trans s3
      have l0 : 0 ≤ x * ((runs.sum : Int) : Rat) := Rat.mul_nonneg x0 (Rat.intCast_nonneg.mpr s0)
      -- for score in order
      refine ⟨_, rfl, a, rfl, ⟨_, s13.seq ha⟩, for_list (K := K) (a := a) (xs := ofN order) (fun i σ H' => ∃ (left : Rat) (c : List Rat) (vl : V) (x1 x2 : Option V) (vs : List V), σ = [some (.ref a), some (.ref r), some y, some (.ref d), some vl, x1, x2] ∧ Same H H' ∧ H' d = some (.lst vs) ∧ LsOf (Fr K H') vs c ∧ c.length = runs.length ∧
          Fr K H' vl left ∧ 0 ≤ left ∧ Sz (m + 20 + 21 * i) left ∧ tk runs (order.drop i) left c = tk runs order (x * ((runs.sum : Int) : Rat)) (zeros runs.length)) ?_ (fun i σ H' _ ⟨_, _, _, _, _, _, _, s5, _⟩ => s5.seq ha) ?_ ?_⟩
      · refine ⟨_, _, v3, none, none, vs, rfl, s13, s3 _ _ (s2 _ _ h1), f1.imp fun v q f => (f.same s2).same s3, ?_, f3, l0, (sx.mul sw).mono (by omega), rfl⟩
        unfold zeros
        rw [List.length_replicate]
      · rintro i u σ H' hu ⟨left, c, vl, x1, x2, vs', rfl, s5, h5, f5, c5, fl, l5, z5, e5⟩
        obtain ⟨sc, hsc, rfl⟩ : ∃ sc, order[i]? = some sc ∧ u = V.int (sc : Int) := by
          unfold ofN at hu
          rw [List.getElem?_map] at hu
          cases e : order[i]? with
          | none => rw [e] at hu; cases hu
          | some c => rw [e] at hu; exact ⟨c, rfl, (Option.some.inj hu).symm⟩
        have hi4 : i < 4 := by
          have := (List.getElem?_eq_some_iff.mp hsc).1
          omega
        have hscl := hm sc (List.mem_of_getElem? hsc)
        rw [drop_at hsc] at e5
        have szr : Sz 20 ((runs.getD sc 0 : Int) : Rat) := Sz.int (mr.at sc) (by decide)
        have hvl : vs'.length = runs.length := by rw [f5.1, c5]
        -- run = whole(runs[score])
        refine ⟨_, rfl, _, rfl, r, _, _, _, rfl, rfl, s5.seq hr1, atI_nat (ints_at hscl), runs.getD sc 0, rfl, fun H6 v6 s6 f6 => ?_⟩
        -- if less(left, run)
        refine ⟨_, rfl, _, rfl, vl, v6, left, ((runs.getD sc 0 : Int) : Rat), _, 20, rfl, fl.same s6, f6, z5, szr, by omega, _, rfl, ?_⟩
        have h6 := s6 _ _ h5
        have put : ∀ (H7 : Hp) (v7 : V) (q : Rat), Same H6 H7 → Fr K H7 v7 q → LsOf (Fr K (upd H7 d (.lst (vs'.set sc v7)))) (vs'.set sc v7) (c.set sc q) := by
          intro H7 v7 q s7 f7
          have h7 := s7 _ _ h6
          have sm : ∀ v q, Fr K H7 v q → Fr K (upd H7 d (.lst (vs'.set sc v7))) v q := fun v q fq => by
            obtain ⟨t, rfl, ht⟩ := fq
            refine ⟨t, rfl, ?_⟩
            rcases ht with (h | ⟨o, h⟩) | h
            · exact .inl (.inl (by rw [upd_ne (ne_of h h7 (by intro z; cases z))]; exact h))
            · exact .inl (.inr ⟨o, by rw [upd_ne (ne_of h h7 (by intro z; cases z))]; exact h⟩)
            · exact .inr h
          exact (f5.imp fun v q f => sm v q ((f.same s6).same s7)).set (sm v7 q f7)
        have ixn : ixN vs'.length ((sc : Nat) : Int) = some sc := by
          unfold ixN
          rw [if_pos (by omega), if_pos (by omega)]
          rfl
        by_cases hlt : left < ((runs.getD sc 0 : Int) : Rat)
        · rw [decide_eq_true hlt]
          refine iteT ?_
          have pos : (0 : Rat) < ((runs.getD sc 0 : Int) : Rat) := by grind
          -- chances[score] = divided(left, run); break
          refine ⟨_, rfl, _, rfl, vl, v6, left, ((runs.getD sc 0 : Int) : Rat), _, 20, rfl, fl.same s6, f6, z5, szr, by omega, pos, fun H7 v7 s7 f7 => ?_⟩
          refine ⟨_, rfl, _, rfl, d, vs', _, sc, rfl, rfl, s7 _ _ h6, ixn, ?_⟩
          refine ⟨_, rfl, k _ _ (made_same hd (s5.trans (s6.trans s7))) ⟨d, rfl, hd, _, upd_same, ?_⟩⟩
          rw [tk_cons, if_pos hlt] at e5
          rw [← e5]
          exact put H7 v7 _ s7 f7
        · rw [decide_eq_false hlt]
          refine iteF ?_
          -- chances[score] = ONE
          intro z hz
          refine ⟨_, rfl, _, rfl, d, vs', _, sc, rfl, rfl, h6, ixn, ?_⟩
          have f7 := put H6 (.ref z) 1 (Same.refl H6) ⟨z, rfl, hz _⟩
          have sm : ∀ v q, Fr K H6 v q → Fr K (upd H6 d (.lst (vs'.set sc (.ref z)))) v q := fun v q fq => by
            obtain ⟨t, rfl, ht⟩ := fq
            refine ⟨t, rfl, ?_⟩
            rcases ht with (h | ⟨o, h⟩) | h
            · exact .inl (.inl (by rw [upd_ne (ne_of h h6 (by intro z; cases z))]; exact h))
            · exact .inl (.inr ⟨o, by rw [upd_ne (ne_of h h6 (by intro z; cases z))]; exact h⟩)
            · exact .inr h
          -- left = minus(left, run)
          refine ⟨_, rfl, _, rfl, vl, v6, left, ((runs.getD sc 0 : Int) : Rat), _, 20, rfl, sm _ _ (fl.same s6), sm _ _ f6, z5, szr, by omega, trivial, fun H8 v8 s8 f8 => ?_⟩
          rw [tk_cons, if_neg hlt] at e5
          refine ⟨_, _, v8, some (.int (sc : Int)), some v6, vs'.set sc (.ref z), rfl, ?_, s8 _ _ upd_same, f7.imp fun v q f => f.same s8, ?_, f8, by grind, (z5.sub szr).mono (by omega), e5⟩
          · exact (made_same hd (s5.trans s6)).trans s8
          · rw [List.length_set]
            exact c5
      · rintro σ H' ⟨left, c, vl, x1, x2, vs', rfl, s5, h5, f5, c5, fl, l5, z5, e5⟩
        unfold ofN at e5
        rw [List.length_map, List.drop_length] at e5
        refine ⟨_, rfl, k H' _ s5 ⟨d, rfl, hd, vs', h5, ?_⟩⟩
        rw [← e5]
        exact f5
end
end My
namespace My
open PySem PySem.Spec PyProof.Rows L2
theorem run_in {kind : Nat} {cs : Cells} (h : CsOk cs) : ∀ z ∈ runK kind cs, 0 ≤ z ∧ z ≤ 198 := by
  intro z hz
  unfold runK at hz
  split at hz
  · unfold siz at hz
    obtain ⟨c, hc, rfl⟩ := List.mem_map.mp hz
    have := h.small c hc
    omega
  · split at hz
    · unfold so at hz
      obtain ⟨c, hc, rfl⟩ := List.mem_map.mp hz
      have := h.small c hc
      omega
    · unfold oth at hz
      obtain ⟨c, hc, rfl⟩ := List.mem_map.mp hz
      have := h.small c hc
      omega
theorem run_sum {kind : Nat} {cs : Cells} (h : CsOk cs) : 0 ≤ (runK kind cs).sum ∧ (runK kind cs).sum ≤ 792 := by
  have ⟨h1, h2⟩ := sum_in (run_in (kind := kind) h)
  have := h.len
  rw [len_runK] at h2
  omega
section
variable {P : Program} {w : World} {K : PySem.W.Frag} {mg : Str → Option Value} {base : Heap}
def spChK (K : PySem.W.Frag) : Sp := fun vs H Q _ => ∃ (kind : Nat) (a : Addr) (z y : V) (cs : Cells) (u v : Nat) (x : Rat) (m : Nat), vs = [.int (kind : Int), .ref a, z, y] ∧ 1 ≤ kind ∧ kind ≤ 3 ∧ CellsAt K H a cs ∧ CsOk cs ∧ Pr K H z (u, v) ∧ u ≤ 100 ∧ v ≤ 100 ∧ Fr K H y x ∧ 0 ≤ x ∧ Sz m x ∧ m ≤ 4000 ∧
  Gives H Q fun H' v' => ∃ p, v' = .ref p ∧ H p = none ∧ FrsT K H' p (chK kind u v cs x)
abbrev s_chances_for : Stmt := top 31
theorem sc_chances_for : FnScope ["kind", "cells", "pays", "x"] ["kind", "cells", "pays", "x"] (defScope s_chances_for) := ⟨rfl, rfl, rfl, by decide +kernel, rfl, by decide +kernel, by decide +kernel⟩
theorem ok_chances_for (D : DefAt K mg "chances_for" s_chances_for) (G_order_for : OkAt P w K mg base 3 "order_for" ["kind", "cells", "pays"] (spOrd K)) (G_runs_for : OkAt P w K mg base 2 "runs_for" ["kind", "cells"] (spRuns K)) (G_taken : OkAt P w K mg base 4 "taken" ["order", "runs", "x"] (spTaken K)) :
    OkAt P w K mg base 5 "chances_for" ["kind", "cells", "pays", "x"] (spChK K) := by
  refine okAt_of D (fun _ _ _ _ _ _ us hl => match us, hl with | [_, _, _, _], _ => rfl) fun f fd F => ?_
  have nd := sc_chances_for.nd
  refine F.ok sc_chances_for (fun vs H Q E h => ?_) (fun cdv A outer s H vs Q E hr h => ?_)
  · obtain ⟨kind, a, z, y, cs, u, v, x, m, rfl, _⟩ := h
    rfl
  · obtain ⟨kind, a, z, y, cs, u, v, x, m, rfl, k1, k3, ha, cok, hz, hu, hv, hy, x0, sx, m4, k⟩ := h
    refine ⟨_, (pss_one (ps_ret (pe_callO G_taken (hr.mono (by decide)) (by rfl) (pa_cons (pe_callO G_order_for (hr.mono (by decide)) (by rfl) (pa_cons (pv 0) (pa_cons (pv 1) (pa_cons (pv 2) pa_nil)))) (pa_cons (pe_callO G_runs_for (hr.mono (by decide)) (by rfl) (pa_cons (pv 0) (pa_cons (pv 1) pa_nil))) (pa_cons (pv 3) pa_nil)))))), ?_⟩
    refine ⟨_, rfl, _, rfl, _, rfl, kind, a, z, cs, u, v, rfl, k1, k3, ha, cok, hz, hu, hv, fun H2 v2 s2 ⟨p2, e2, _, hp2⟩ => ?_⟩
    subst e2
    refine ⟨_, rfl, _, rfl, kind, a, cs, rfl, k1, k3, ha.same s2, cok.len, fun H3 v3 s3 ⟨p3, e3, hp3⟩ => ?_⟩
    subst e3
    have ⟨r0, r1⟩ := run_sum (kind := kind) cok
    have h4 := cok.len
    refine ⟨_, rfl, p2, p3, y, ordK kind u v cs, runK kind cs, x, m, rfl, SqL.of (s3 _ _ hp2), SqL.of hp3, (hy.same s2).same s3, fun s hs => by rw [len_runK]; exact mem_ordK hs, Nat.le_trans ordK_len h4, by rw [len_runK]; exact h4, md_run cok, r0, by omega, x0, sx, m4, fun H4 v4 s4 ⟨p4, e4, n4, hp4⟩ => ?_⟩
    rw [len_runK] at hp4
    exact k H4 v4 ((s2.trans s3).trans s4) ⟨p4, e4, (s2.trans s3).free n4, hp4⟩
theorem at_last {l : List Int} {z : Int} (h : l.getLast? = some z) : atI (l.map V.int) (-1) = some (V.int z) := by
  obtain ⟨l', rfl⟩ := List.getLast?_eq_some_iff.mp h
  rw [List.map_append]
  exact atI_last _ _
def spStops (K : PySem.W.Frag) : Sp := fun vs H Q _ => ∃ (kind : Nat) (a : Addr) (z : V) (cs : Cells) (u v : Nat), vs = [.int (kind : Int), .ref a, z] ∧ 1 ≤ kind ∧ kind ≤ 3 ∧ CellsAt K H a cs ∧ CsOk cs ∧ Pr K H z (u, v) ∧ u ≤ 100 ∧ v ≤ 100 ∧ Gives H Q fun H' v' => ∃ p, v' = .ref p ∧ H' p = some (.lst ((stK kind u v cs).map V.int))
abbrev s_stops_for : Stmt := top 33
theorem sc_stops_for : FnScope ["kind", "cells", "pays", "runs", "stops", "score"] ["kind", "cells", "pays"] (defScope s_stops_for) := ⟨rfl, rfl, rfl, by decide +kernel, rfl, by decide +kernel, by decide +kernel⟩
theorem ok_stops_for (D : DefAt K mg "stops_for" s_stops_for) (G_order_for : OkAt P w K mg base 3 "order_for" ["kind", "cells", "pays"] (spOrd K)) (G_runs_for : OkAt P w K mg base 2 "runs_for" ["kind", "cells"] (spRuns K)) :
    OkAt P w K mg base 4 "stops_for" ["kind", "cells", "pays"] (spStops K) := by
  refine okAt_of D (fun _ _ _ _ _ _ us hl => match us, hl with | [_, _, _], _ => rfl) fun f fd F => ?_
  have nd := sc_stops_for.nd
  refine F.ok sc_stops_for (fun vs H Q E h => ?_) (fun cdv A outer s H vs Q E hr h => ?_)
  · obtain ⟨kind, a, z, cs, u, v, rfl, _⟩ := h
    rfl
  · obtain ⟨kind, a, z, cs, u, v, rfl, k1, k3, ha, cok, hz, hu, hv, k⟩ := h
    refine ⟨_, (pss_cons (ps_set (i := 3) nd rfl (Or.inl rfl) (pe_callO G_runs_for (hr.mono (by decide)) (by rfl) (pa_cons (pv 0) (pa_cons (pv 1) pa_nil)))) (pss_cons (ps_set (i := 4) nd rfl (Or.inl rfl) (pe_lst (pa_cons pe_int pa_nil))) (pss_cons (ps_for PassesOwn.never rfl (pi_list (pe_callO G_order_for (hr.mono (by decide)) (by rfl) (pa_cons (pv 0) (pa_cons (pv 1) (pa_cons (pv 2) pa_nil))))) (pg_name (i := 5) nd rfl (Or.inl rfl)) (pss_one (ps_expr (pe_bm PySem.F.plainAttrs_list PySem.F.slot_list_append PySem.F.type_list_append mt_append (pv 4) (pa_cons (pe_op op_add (pe_ix ix_list (pv 4) (pe_un un_neg pe_int) (fun _ _ => rfl)) (pe_ix ix_list (pv 3) (pv 5) (fun _ _ => rfl))) pa_nil))))) (pss_one (ps_ret (pv 4)))))), ?_⟩
    refine ⟨_, rfl, _, rfl, kind, a, cs, rfl, k1, k3, ha, cok.len, fun H2 v2 s2 ⟨p2, e2, hp2⟩ => ?_⟩
    subst e2
    refine ⟨by show 1 ≤ sizeLine; decide, fun d hd => ?_⟩
    have s3 : Same H2 (upd H2 d (.lst [.int 0])) := Same.new hd
    have s23 := s2.trans s3
    refine ⟨_, rfl, _, rfl, _, rfl, kind, a, z, cs, u, v, rfl, k1, k3, ha.same s23, cok, hz.same s23, hu, hv, fun H4 v4 s4 ⟨p4, e4, n4, hp4⟩ => ?_⟩
    subst e4
    have ne4 : p4 ≠ d := fun e => by
      rw [e, upd_same] at n4
      cases n4
    have hp2' := s4 _ _ (s3 _ _ hp2)
    have ne2 : p2 ≠ d := ne_of_none hp2 hd
    refine ⟨p4, rfl, ⟨_, SqL.of hp4⟩, for_list (K := K) (a := p4) (xs := ofN (ordK kind u v cs)) (fun i σ H' => ∃ x : Option V, σ = [some (.int (kind : Int)), some (.ref a), some z, some (.ref p2), some (.ref d), x] ∧ (∀ b o, H4 b = some o → b ≠ d → H' b = some o) ∧ H' d = some (.lst ((stops (runK kind cs) 0 ((ordK kind u v cs).take i)).map V.int)))
      ⟨none, rfl, fun b o e _ => e, s4 _ _ upd_same⟩ (fun i σ H' _ ⟨_, _, s5, _⟩ => SqL.of (s5 _ _ hp4 ne4)) ?_ ?_⟩
    · rintro i x σ H' hx ⟨x1, rfl, s5, h5⟩
      obtain ⟨sc, hsc, rfl⟩ : ∃ sc, (ordK kind u v cs)[i]? = some sc ∧ x = V.int (sc : Int) := by
        unfold ofN at hx
        rw [List.getElem?_map] at hx
        cases e : (ordK kind u v cs)[i]? with
        | none => rw [e] at hx; cases hx
        | some c => rw [e] at hx; exact ⟨c, rfl, (Option.some.inj hx).symm⟩
      have hlast := stops_last (runK kind cs) ((ordK kind u v cs).take i) 0
      have hl := mem_ordK (List.mem_of_getElem? hsc)
      have ol := ordK_len (kind := kind) (u := u) (v := v) (cs := cs)
      have h4 := cok.len
      refine ⟨_, rfl, .inl ⟨rfl, _, SqL.of h5⟩, ?_⟩
      refine ⟨_, rfl, _, rfl, d, _, _, _, rfl, rfl, SqL.of h5, at_last hlast, _, rfl, _, rfl, p2, _, _, _, rfl, rfl, SqL.of (s5 _ _ hp2' ne2), atI_nat (ints_at (by rw [len_runK]; exact hl)), _, _, rfl, rfl, d, _, _, rfl, rfl, h5, lt_line ?_, ?_⟩
      · rw [List.length_map, stops_len]
        have := List.length_take_le' i (ordK kind u v cs)
        omega
      · refine ⟨_, rfl, fun b o e ne => ?_, ?_⟩
        · rw [upd_ne ne]
          exact s5 b o e ne
        · rw [upd_same, take_more hsc, stops_snoc, List.map_append]
          rfl
    · rintro σ H' ⟨x1, rfl, s5, h5⟩
      unfold ofN at h5
      rw [List.length_map, List.take_length] at h5
      refine ⟨_, rfl, k H' _ (fun b o e => s5 b o (s4 _ _ (s3 _ _ (s2 _ _ e))) ?_) ⟨d, rfl, h5⟩⟩
      exact ne_of_none (s2 _ _ e) hd
end
end My
namespace My
open PySem PySem.Spec PyProof.Rows L2
section
variable {P : Program} {w : World} {K : PySem.W.Frag} {mg : Str → Option Value} {base : Heap}
structure Two (kind : Nat) (c0 c1 : Cells) : Prop where
  ok0 : CsOk c0
  ok1 : CsOk c1
  p0 : 0 < (runK kind c0).sum
  p1 : 0 < (runK kind c1).sum
def spMarks (K : PySem.W.Frag) : Sp := fun vs H Q _ => ∃ (kind : Nat) (a : Addr) (z : V) (c0 c1 : Cells) (u v : Nat), vs = [.int (kind : Int), .ref a, z] ∧ 1 ≤ kind ∧ kind ≤ 3 ∧ GroupsAt K H a c0 c1 ∧ Two kind c0 c1 ∧ Pr K H z (u, v) ∧ u ≤ 100 ∧ v ≤ 100 ∧
  Gives H Q fun H' v' => ∃ p, v' = .ref p ∧ Frs K H' p (markK kind u v c0 c1)
theorem ints_get {l : List Int} {i : Nat} {x : V} (h : (l.map V.int)[i]? = some x) : ∃ c, l[i]? = some c ∧ x = V.int c := by
  rw [List.getElem?_map] at h
  cases e : l[i]? with
  | none => rw [e] at h; cases h
  | some c => rw [e] at h; exact ⟨c, rfl, (Option.some.inj h).symm⟩
theorem mul_ok {a b : Int} (ha : 0 ≤ a) (ha2 : a ≤ 1000000) (hb : 0 ≤ b) (hb2 : b ≤ 1000000) : CMulW a b := wide_mul (a := 20) (b := 20) (by omega) (by omega) (by decide) (by decide) (by decide)
abbrev s_marks_for : Stmt := top 35
theorem sc_marks_for : FnScope ["kind", "groups", "pays", "first", "second", "uppers", "upper", "stop"] ["kind", "groups", "pays"] (defScope s_marks_for) := ⟨rfl, rfl, rfl, by decide +kernel, rfl, by decide +kernel, by decide +kernel⟩
theorem ok_marks_for (D : DefAt K mg "marks_for" s_marks_for) (B : Blt mg) (G_stops_for : OkAt P w K mg base 4 "stops_for" ["kind", "cells", "pays"] (spStops K)) (G_ratio : OkAt P w K mg base 2 "ratio" ["upper", "lower"] (spRatio K)) :
    OkAt P w K mg base 5 "marks_for" ["kind", "groups", "pays"] (spMarks K) := by
  refine okAt_of D (fun _ _ _ _ _ _ us hl => match us, hl with | [_, _, _], _ => rfl) fun f fd F => ?_
  have nd := sc_marks_for.nd
  refine F.ok sc_marks_for (fun vs H Q E h => ?_) (fun cdv A outer s H vs Q E hr h => ?_)
  · obtain ⟨kind, a, z, c0, c1, u, v, rfl, _⟩ := h
    rfl
  · obtain ⟨kind, a, z, c0, c1, u, v, rfl, k1, k3, ⟨g0, g1, hg, hc0, hc1⟩, two, hz, hu, hv, k⟩ := h
    have ⟨a0, a1⟩ := run_sum (kind := kind) two.ok0
    have ⟨b0, b1⟩ := run_sum (kind := kind) two.ok1
    have pa := two.p0
    have pb := two.p1
    have l0 := two.ok0.len
    have l1 := two.ok1.len
    refine ⟨_, (pss_cons (ps_set (i := 3) nd rfl (Or.inr rfl) (pe_callO G_stops_for (hr.mono (by decide)) (by rfl) (pa_cons (pv 0) (pa_cons (pe_ix ix_list (pv 1) pe_int (fun _ _ => rfl)) (pa_cons (pv 2) pa_nil))))) (pss_cons (ps_set (i := 4) nd rfl (Or.inr rfl) (pe_callO G_stops_for (hr.mono (by decide)) (by rfl) (pa_cons (pv 0) (pa_cons (pe_ix ix_list (pv 1) pe_int (fun _ _ => rfl)) (pa_cons (pv 2) pa_nil))))) (pss_cons (ps_set (i := 5) nd rfl (Or.inl rfl) (pe_op op_cat (pe_lc (own := [("stop", 7)]) (g := (gName 7)) (te := (tOp (rI CMulW fun i j => .int (i * j)) (tVar 7) (tOp (rIxL K) (tVar 4) (tUn (rU fun i => .int (-i)) (tC (.int 1)))))) (tt := tYes) (by rfl) nd (pi_list (pv 3)) (blkOk_by (own := [("stop", 7)]) (N := ["kind", "groups", "pays", "first", "second", "uppers", "upper", "stop"]) (sc := defScope s_marks_for) (by decide +kernel)) (fun _ _ _ _ _ => (pg_name (i := 7) nd rfl (Or.inl rfl))) (fun _ _ _ _ _ => pts_nil) (fun _ _ _ _ _ => (pe_op op_mulW (pv 7) (pe_ix ix_list (pv 4) (pe_un un_neg pe_int) (fun _ _ => rfl))))) (pe_lc (own := [("stop", 7)]) (g := (gName 7)) (te := (tOp (rI CMulW fun i j => .int (i * j)) (tVar 7) (tOp (rIxL K) (tVar 3) (tUn (rU fun i => .int (-i)) (tC (.int 1)))))) (tt := tYes) (by rfl) nd (pi_list (pv 4)) (blkOk_by (own := [("stop", 7)]) (N := ["kind", "groups", "pays", "first", "second", "uppers", "upper", "stop"]) (sc := defScope s_marks_for) (by decide +kernel)) (fun _ _ _ _ _ => (pg_name (i := 7) nd rfl (Or.inl rfl))) (fun _ _ _ _ _ => pts_nil) (fun _ _ _ _ _ => (pe_op op_mulW (pv 7) (pe_ix ix_list (pv 3) (pe_un un_neg pe_int) (fun _ _ => rfl))))))) (pss_one (ps_ret (pe_lc (own := [("upper", 6)]) (g := (gName 6)) (te := (tCallO (spRatio K) (tCons (tVar 6) (tCons (tOp (rI CMulW fun i j => .int (i * j)) (tOp (rIxL K) (tVar 3) (tUn (rU fun i => .int (-i)) (tC (.int 1)))) (tOp (rIxL K) (tVar 4) (tUn (rU fun i => .int (-i)) (tC (.int 1))))) tNil)))) (tt := tYes) (by rfl) nd (pi_list (pe_callB (cr_sortedSet rfl) (by rfl) B.sorted (by decide +kernel) (pa_cons (pe_callTy (cr_setL rfl) (by rfl) B.set (by decide +kernel) (pa_cons (pv 5) pa_nil)) pa_nil))) (blkOk_by (own := [("upper", 6)]) (N := ["kind", "groups", "pays", "first", "second", "uppers", "upper", "stop"]) (sc := defScope s_marks_for) (by decide +kernel)) (fun _ _ _ _ _ => (pg_name (i := 6) nd rfl (Or.inl rfl))) (fun _ _ _ _ _ => pts_nil) (fun _ _ _ _ _ => (pe_callO G_ratio (hr.mono (by decide)) (by rfl) (pa_cons (pv 6) (pa_cons (pe_op op_mulW (pe_ix ix_list (pv 3) (pe_un un_neg pe_int) (fun _ _ => rfl)) (pe_ix ix_list (pv 4) (pe_un un_neg pe_int) (fun _ _ => rfl))) pa_nil)))))))))), ?_⟩
    -- first, second
    refine ⟨_, rfl, _, rfl, a, _, _, _, rfl, rfl, hg, at0, _, rfl, kind, g0, z, c0, u, v, rfl, k1, k3, hc0, two.ok0, hz, hu, hv, fun H2 v2 s2 ⟨p2, e2, hp2⟩ => ?_⟩
    subst e2
    refine ⟨_, rfl, _, rfl, a, _, _, _, rfl, rfl, s2.seq hg, at1, _, rfl, kind, g1, z, c1, u, v, rfl, k1, k3, hc1.same s2, two.ok1, hz.same s2, hu, hv, fun H3 v3 s3 ⟨p3, e3, hp3⟩ => ?_⟩
    subst e3
    have hf := s3 _ _ hp2
    have lf := stK_last kind u v c0
    have ls := stK_last kind u v c1
    generalize hF : stK kind u v c0 = F1 at hf lf
    generalize hS : stK kind u v c1 = S1 at hp3 ls
    have inF : ∀ y ∈ F1, 0 ≤ y ∧ y ≤ 792 := fun y hy => by
      rw [← hF] at hy
      have := stK_in hy
      omega
    have inS : ∀ y ∈ S1, 0 ≤ y ∧ y ≤ 792 := fun y hy => by
      rw [← hS] at hy
      have := stK_in hy
      omega
    have lenF : F1.length ≤ 5 := by
      rw [← hF]
      have := stK_len (kind := kind) (u := u) (v := v) (cs := c0)
      omega
    have lenS : S1.length ≤ 5 := by
      rw [← hS]
      have := stK_len (kind := kind) (u := u) (v := v) (cs := c1)
      omega
    -- uppers
    refine ⟨_, rfl, p2, rfl, ⟨_, SqL.of hf⟩, fun d hd => lc_list (K := K) (a := p2) (xs := F1.map V.int) (fun i H' => Same H3 H' ∧ H' d = some (.lst (((F1.map fun s => s * (runK kind c1).sum).take i).map V.int))) ⟨Same.new hd, upd_same⟩ (fun i H' _ ⟨s, _⟩ => SqL.of (s _ _ hf)) ?_ ?_⟩
    · rintro i x H' hx ⟨s5, h5⟩
      obtain ⟨y, hy, rfl⟩ := ints_get hx
      have ⟨y0, y1⟩ := inF y (List.mem_of_getElem? hy)
      refine ⟨rfl, lc_yes ?_⟩
      refine ⟨_, rfl, _, rfl, _, rfl, p3, _, _, _, rfl, rfl, SqL.of (s5 _ _ hp3), at_last ls, _, _, rfl, rfl, mul_ok y0 (by omega) b0 (by omega), _, h5, ?_, made_same hd s5, ?_⟩
      · refine lt_line ?_
        rw [List.length_map]
        have := List.length_take_le' i (F1.map fun s => s * (runK kind c1).sum)
        rw [List.length_map] at this
        omega
      · rw [upd_same]
        exact congrArg (fun l => some (HO.lst l)) (more_ints (map_at _ hy))
    · rintro H4 ⟨s4, h4⟩
      rw [List.length_map, List.take_of_length_le (by rw [List.length_map]; exact Nat.le_refl _)] at h4
      have hp3' := s4 _ _ hp3
      refine ⟨_, rfl, p3, rfl, ⟨_, SqL.of hp3'⟩, fun d2 hd2 => lc_list (K := K) (a := p3) (xs := S1.map V.int) (fun i H' => Same H4 H' ∧ H' d2 = some (.lst (((S1.map fun s => s * (runK kind c0).sum).take i).map V.int))) ⟨Same.new hd2, upd_same⟩ (fun i H' _ ⟨s, _⟩ => SqL.of (s _ _ hp3')) ?_ ?_⟩
      · rintro i x H' hx ⟨s5, h5⟩
        obtain ⟨y, hy, rfl⟩ := ints_get hx
        have ⟨y0, y1⟩ := inS y (List.mem_of_getElem? hy)
        refine ⟨rfl, lc_yes ?_⟩
        refine ⟨_, rfl, _, rfl, _, rfl, p2, _, _, _, rfl, rfl, SqL.of (s5 _ _ (s4 _ _ hf)), at_last lf, _, _, rfl, rfl, mul_ok y0 (by omega) a0 (by omega), _, h5, ?_, made_same hd2 s5, ?_⟩
        · refine lt_line ?_
          rw [List.length_map]
          have := List.length_take_le' i (S1.map fun s => s * (runK kind c0).sum)
          rw [List.length_map] at this
          omega
        · rw [upd_same]
          exact congrArg (fun l => some (HO.lst l)) (more_ints (map_at _ hy))
      · rintro H5 ⟨s5, h5⟩
        rw [List.length_map, List.take_of_length_le (by rw [List.length_map]; exact Nat.le_refl _)] at h5
        refine ⟨d, d2, _, _, rfl, rfl, s5 _ _ h4, h5, ?_, fun q hq => ?_⟩
        · rw [List.length_map, List.length_map, List.length_map, List.length_map]
          exact Nat.le_of_lt (lt_line (by omega))
        rw [← List.map_append]
        have s6 : Same H5 (upd H5 q (.lst ((((F1.map fun s => s * (runK kind c1).sum) ++ (S1.map fun s => s * (runK kind c0).sum))).map V.int))) := Same.new hq
        -- sorted(set(uppers))
        refine ⟨_, rfl, q, _, rfl, SqL.of upd_same, ?_, fun t n ht hn => ?_⟩
        · rw [List.length_append, List.length_map, List.length_map]
          omega
        rw [List.length_append, List.length_map, List.length_map] at hn
        refine ⟨t, _, n, rfl, upd_same, by omega, fun zs p7 ss mem len hp7 => ?_⟩
        have s7 := Same.new (o := SetO w t (fun j => decide (j ∈ (F1.map fun s => s * (runK kind c1).sum) ++ (S1.map fun s => s * (runK kind c0).sum))) n) ht
        have s8 := Same.new (o := HO.lst (zs.map V.int)) hp7
        have s38 : Same H3 _ := (s4.trans (s5.trans (s6.trans (s7.trans s8))))
        have mem' : ∀ y, y ∈ zs ↔ y ∈ (F1.map fun s => s * (runK kind c1).sum) ++ (S1.map fun s => s * (runK kind c0).sum) := fun y => (mem y).trans decide_eq_true_iff
        have hmk := markK_made (kind := kind) (u := u) (v := v) pa pb ss (by rw [hF, hS]; exact mem')
        have tt0 : ((tot kind c0 : Nat) : Int) = (runK kind c0).sum := by unfold tot; omega
        have tt1 : ((tot kind c1 : Nat) : Int) = (runK kind c1).sum := by unfold tot; omega
        have tlt : tot kind c0 * tot kind c1 < 2 ^ 20 := by
          have : tot kind c0 * tot kind c1 ≤ 792 * 792 := Nat.mul_le_mul (by omega) (by omega)
          omega
        refine ⟨p7, rfl, ⟨_, SqL.of upd_same⟩, fun d3 hd3 => lc_list (K := K) (a := p7) (xs := zs.map V.int) (fun i H' => Same (upd _ p7 (.lst (zs.map V.int))) H' ∧ ∃ vs, H' d3 = some (.lst vs) ∧ LsOf (Fr K H') vs ((zs.take i).map fun z => mkRat z (tot kind c0 * tot kind c1))) ⟨Same.new hd3, [], upd_same, LsOf.nil⟩ (fun i H' _ ⟨s, _⟩ => SqL.of (s _ _ upd_same)) ?_ ?_⟩
        · rintro i x H' hx ⟨s9, vs, h9, f9⟩
          obtain ⟨y, hy, rfl⟩ := ints_get hx
          refine ⟨rfl, lc_yes ?_⟩
          have sA := s38.trans s9
          refine ⟨_, rfl, _, rfl, _, rfl, p2, _, _, _, rfl, rfl, SqL.of (sA _ _ hf), at_last lf, ?_⟩
          refine ⟨_, rfl, _, rfl, p3, _, _, _, rfl, rfl, SqL.of (sA _ _ hp3), at_last ls, _, _, rfl, rfl, mul_ok a0 (by omega) b0 (by omega), ?_⟩
          refine ⟨y, tot kind c0 * tot kind c1, 20, ?_, Nat.mul_pos (by omega) (by omega), by decide, by decide, tlt, fun H8 v8 s8' f8 => ?_⟩
          · rw [Int.natCast_mul, tt0, tt1]
          have h9' := s8' _ _ h9
          have sm : ∀ v q, Fr K H8 v q → Fr K (upd H8 d3 (.lst (vs ++ [v8]))) v q := fun v q fq => by
            obtain ⟨t, rfl, ht⟩ := fq
            refine ⟨t, rfl, ?_⟩
            rcases ht with (h | ⟨o, h⟩) | h
            · exact .inl (.inl (by rw [upd_ne (ne_of h h9' (by intro z; cases z))]; exact h))
            · exact .inl (.inr ⟨o, by rw [upd_ne (ne_of h h9' (by intro z; cases z))]; exact h⟩)
            · exact .inr h
          refine ⟨_, h9', lt_line ?_, made_same hd3 (s9.trans s8'), vs ++ [v8], upd_same, ?_⟩
          · rw [f9.1, List.length_map]
            have := List.length_take_le' i zs
            omega
          · rw [take_more hy, List.map_append]
            exact (f9.imp fun v q f => sm v q (f.same s8')).snoc (sm _ _ f8)
        · rintro H' ⟨s9, vs, h9, f9⟩
          rw [List.length_map, List.take_length, hmk] at f9
          exact k H' _ ((s2.trans s3).trans (s38.trans s9)) ⟨d3, rfl, vs, SqL.of h9, f9⟩
end
end My
namespace My
open PySem PySem.Spec PyProof.Rows L2
theorem Fr.put {K : PySem.W.Frag} {H : Hp} {d : Addr} {xs ys : List V} {v : V} {q : Rat} (h : Fr K H v q) (hd : H d = some (.lst xs)) : Fr K (upd H d (.lst ys)) v q := by
  obtain ⟨t, rfl, ht⟩ := h
  refine ⟨t, rfl, ?_⟩
  rcases ht with (h | ⟨o, h⟩) | h
  · exact .inl (.inl (by rw [upd_ne (ne_of h hd (by intro z; cases z))]; exact h))
  · exact .inl (.inr ⟨o, by rw [upd_ne (ne_of h hd (by intro z; cases z))]; exact h⟩)
  · exact .inr h
section
variable {P : Program} {w : World} {K : PySem.W.Frag} {mg : Str → Option Value} {base : Heap}
theorem FrsT.put {H : Hp} {d x : Addr} {xs ys : List V} {qs : List Rat} (h : FrsT K H x qs) (hd : H d = some (.lst xs)) (ne : x ≠ d) : FrsT K (upd H d (.lst ys)) x qs := by
  obtain ⟨vs, h1, h2⟩ := h
  exact ⟨vs, by rw [upd_ne ne]; exact h1, h2.imp fun v c f => f.put hd⟩
def spMR (K : PySem.W.Frag) : Sp := fun vs H Q _ => ∃ (a : Addr) (z y : V) (cs : Cells) (u v : Nat) (x : Rat) (m : Nat), vs = [.ref a, z, y] ∧ CellsAt K H a cs ∧ CsOk cs ∧ 0 < (so cs).sum ∧ Pr K H z (u, v) ∧ u ≤ 100 ∧ v ≤ 100 ∧ Fr K H y x ∧ 0 ≤ x ∧ Sz m x ∧ m ≤ 400 ∧ Gives H Q fun H' v' => Fr K H' v' (upK cs x)
abbrev s_most_right : Stmt := top 36
theorem sc_most_right : FnScope ["cells", "pays", "x"] ["cells", "pays", "x"] (defScope s_most_right) := ⟨rfl, rfl, rfl, by decide +kernel, rfl, by decide +kernel, by decide +kernel⟩
theorem ok_most_right (D : DefAt K mg "most_right" s_most_right) (T : Kinds mg) (G_chances_for : OkAt P w K mg base 5 "chances_for" ["kind", "cells", "pays", "x"] (spChK K)) (G_so_of : OkAt P w K mg base 1 "so_of" ["cells"] (spCells K so)) (G_mean : OkAt P w K mg base 5 "mean" ["fractions", "weights"] (spMean K)) :
    OkAt P w K mg base 6 "most_right" ["cells", "pays", "x"] (spMR K) := by
  refine okAt_of D (fun _ _ _ _ _ _ us hl => match us, hl with | [_, _, _], _ => rfl) fun f fd F => ?_
  have nd := sc_most_right.nd
  refine F.ok sc_most_right (fun vs H Q E h => ?_) (fun cdv A outer s H vs Q E hr h => ?_)
  · obtain ⟨a, z, y, cs, u, v, x, m, rfl, _⟩ := h
    rfl
  · obtain ⟨a, z, y, cs, u, v, x, m, rfl, ha, cok, so0, hz, hu, hv, hy, x0, sx, m4, k⟩ := h
    refine ⟨_, (pss_one (ps_ret (pe_callO G_mean (hr.mono (by decide)) (by rfl) (pa_cons (pe_callO G_chances_for (hr.mono (by decide)) (by rfl) (pa_cons (pe_gi T.SAME_BOTH (by rfl)) (pa_cons (pv 0) (pa_cons (pv 1) (pa_cons (pv 2) pa_nil))))) (pa_cons (pe_callO G_so_of (hr.mono (by decide)) (by rfl) (pa_cons (pv 0) pa_nil)) pa_nil))))), ?_⟩
    have h4 := cok.len
    have ⟨t0, t1⟩ := so_sum cok
    refine ⟨_, rfl, _, rfl, _, rfl, 3, a, z, y, cs, u, v, x, m, rfl, by decide, by decide, ha, cok, hz, hu, hv, hy, x0, sx, by omega, fun H2 v2 s2 ⟨p2, e2, _, hp2⟩ => ?_⟩
    subst e2
    rw [chK3] at hp2
    refine ⟨_, rfl, a, cs, rfl, ha.same s2, h4, fun H3 v3 s3 ⟨p3, e3, hp3⟩ => ?_⟩
    subst e3
    have chs := ch_sz (kind := 3) (u := 0) (v := 0) cok x0 sx
    refine ⟨p2, p3, chK 3 0 0 cs x, so cs, m + 130, rfl, hp2.frs.same s3, SqL.of hp3, by rw [chK_len, len_so], chs, ⟨so_small cok⟩, by rw [chK_len]; exact h4, by omega, so0, by omega, fun H4 v4 s4 f4 => ?_⟩
    exact k H4 v4 ((s2.trans s3).trans s4) f4
def spRB (K : PySem.W.Frag) (g : Cells → Cells → Rat → Rat) : Sp := fun vs H Q _ => ∃ (a : Addr) (z y : V) (c0 c1 : Cells) (u v : Nat) (x : Rat) (m : Nat), vs = [.ref a, z, y] ∧ GroupsAt K H a c0 c1 ∧ Full c0 c1 ∧ Pr K H z (u, v) ∧ u ≤ 100 ∧ v ≤ 100 ∧ Fr K H y x ∧ 0 ≤ x ∧ Sz m x ∧ m ≤ 400 ∧ Gives H Q fun H' v' => Fr K H' v' (g c0 c1 x)
abbrev s_right_in_both : Stmt := top 37
theorem sc_right_in_both : FnScope ["groups", "pays", "x", "first", "second"] ["groups", "pays", "x"] (defScope s_right_in_both) := ⟨rfl, rfl, rfl, by decide +kernel, rfl, by decide +kernel, by decide +kernel⟩
theorem ok_right_in_both (D : DefAt K mg "right_in_both" s_right_in_both) (G_most_right : OkAt P w K mg base 6 "most_right" ["cells", "pays", "x"] (spMR K)) (G_less : OkAt P w K mg base 1 "less" ["first", "second"] (spLess K)) :
    OkAt P w K mg base 7 "right_in_both" ["groups", "pays", "x"] (spRB K leastK) := by
  refine okAt_of D (fun _ _ _ _ _ _ us hl => match us, hl with | [_, _, _], _ => rfl) fun f fd F => ?_
  have nd := sc_right_in_both.nd
  refine F.ok sc_right_in_both (fun vs H Q E h => ?_) (fun cdv A outer s H vs Q E hr h => ?_)
  · obtain ⟨a, z, y, c0, c1, u, v, x, m, rfl, _⟩ := h
    rfl
  · obtain ⟨a, z, y, c0, c1, u, v, x, m, rfl, ⟨g0, g1, hg, hc0, hc1⟩, full, hz, hu, hv, hy, x0, sx, m4, k⟩ := h
    refine ⟨_, (pss_cons (ps_set (i := 3) nd rfl (Or.inl rfl) (pe_callO G_most_right (hr.mono (by decide)) (by rfl) (pa_cons (pe_ix ix_list (pv 0) pe_int (fun _ _ => rfl)) (pa_cons (pv 1) (pa_cons (pv 2) pa_nil))))) (pss_cons (ps_set (i := 4) nd rfl (Or.inl rfl) (pe_callO G_most_right (hr.mono (by decide)) (by rfl) (pa_cons (pe_ix ix_list (pv 0) pe_int (fun _ _ => rfl)) (pa_cons (pv 1) (pa_cons (pv 2) pa_nil))))) (pss_one (ps_ret (pe_ifExp (pt_val (pe_callO G_less (hr.mono (by decide)) (by rfl) (pa_cons (pv 4) (pa_cons (pv 3) pa_nil)))) (pv 4) (pv 3)))))), ?_⟩
    refine ⟨_, rfl, a, _, _, _, rfl, rfl, hg, at0, _, rfl, _, rfl, g0, z, y, c0, u, v, x, m, rfl, hc0, full.ok0, full.so0, hz, hu, hv, hy, x0, sx, m4, fun H2 v2 s2 f2 => ?_⟩
    refine ⟨_, rfl, a, _, _, _, rfl, rfl, s2.seq hg, at1, _, rfl, _, rfl, g1, z, y, c1, u, v, x, m, rfl, hc1.same s2, full.ok1, full.so1, hz.same s2, hu, hv, hy.same s2, x0, sx, m4, fun H3 v3 s3 f3 => ?_⟩
    have z0 := up_sz full.ok0 x0 sx full.so0
    have z1 := up_sz full.ok1 x0 sx full.so1
    refine ⟨_, rfl, _, rfl, v3, v2, _, _, _, _, rfl, f3, f2.same s3, z1, z0, by omega, _, rfl, ?_⟩
    by_cases c : upK c1 x < upK c0 x
    · rw [decide_eq_true c]
      refine iteT ⟨_, rfl, k H3 v3 (s2.trans s3) ?_⟩
      unfold leastK
      rw [if_pos c]
      exact f3
    · rw [decide_eq_false c]
      refine iteF ⟨_, rfl, k H3 v2 (s2.trans s3) ?_⟩
      unfold leastK
      rw [if_neg c]
      exact f2.same s3
abbrev s_lead : Stmt := top 38
theorem sc_lead : FnScope ["groups", "pays", "x"] ["groups", "pays", "x"] (defScope s_lead) := ⟨rfl, rfl, rfl, by decide +kernel, rfl, by decide +kernel, by decide +kernel⟩
theorem ok_lead (D : DefAt K mg "lead" s_lead) (G_most_right : OkAt P w K mg base 6 "most_right" ["cells", "pays", "x"] (spMR K)) (G_minus : OkAt P w K mg base 3 "minus" ["first", "second"] (spTwo K (· - ·) fun _ => True)) :
    OkAt P w K mg base 7 "lead" ["groups", "pays", "x"] (spRB K leadK) := by
  refine okAt_of D (fun _ _ _ _ _ _ us hl => match us, hl with | [_, _, _], _ => rfl) fun f fd F => ?_
  have nd := sc_lead.nd
  refine F.ok sc_lead (fun vs H Q E h => ?_) (fun cdv A outer s H vs Q E hr h => ?_)
  · obtain ⟨a, z, y, c0, c1, u, v, x, m, rfl, _⟩ := h
    rfl
  · obtain ⟨a, z, y, c0, c1, u, v, x, m, rfl, ⟨g0, g1, hg, hc0, hc1⟩, full, hz, hu, hv, hy, x0, sx, m4, k⟩ := h
    refine ⟨_, (pss_one (ps_ret (pe_callO G_minus (hr.mono (by decide)) (by rfl) (pa_cons (pe_callO G_most_right (hr.mono (by decide)) (by rfl) (pa_cons (pe_ix ix_list (pv 0) pe_int (fun _ _ => rfl)) (pa_cons (pv 1) (pa_cons (pv 2) pa_nil)))) (pa_cons (pe_callO G_most_right (hr.mono (by decide)) (by rfl) (pa_cons (pe_ix ix_list (pv 0) pe_int (fun _ _ => rfl)) (pa_cons (pv 1) (pa_cons (pv 2) pa_nil)))) pa_nil))))), ?_⟩
    refine ⟨_, rfl, a, _, _, _, rfl, rfl, hg, at0, _, rfl, _, rfl, g0, z, y, c0, u, v, x, m, rfl, hc0, full.ok0, full.so0, hz, hu, hv, hy, x0, sx, m4, fun H2 v2 s2 f2 => ?_⟩
    refine ⟨_, rfl, a, _, _, _, rfl, rfl, s2.seq hg, at1, _, rfl, _, rfl, g1, z, y, c1, u, v, x, m, rfl, hc1.same s2, full.ok1, full.so1, hz.same s2, hu, hv, hy.same s2, x0, sx, m4, fun H3 v3 s3 f3 => ?_⟩
    have z0 := up_sz full.ok0 x0 sx full.so0
    have z1 := up_sz full.ok1 x0 sx full.so1
    refine ⟨v2, v3, _, _, _, _, rfl, f2.same s3, f3, z0, z1, by omega, trivial, fun H4 v4 s4 f4 => ?_⟩
    exact k H4 v4 ((s2.trans s3).trans s4) f4
def spCross (K : PySem.W.Frag) : Sp := fun vs H Q _ => ∃ (a : Addr) (z y1 y2 : V) (c0 c1 : Cells) (u v : Nat) (p q : Rat), vs = [.ref a, z, y1, y2] ∧ GroupsAt K H a c0 c1 ∧ Full c0 c1 ∧ Pr K H z (u, v) ∧ u ≤ 100 ∧ v ≤ 100 ∧ Fr K H y1 p ∧ Fr K H y2 q ∧ 0 ≤ p ∧ Sz 10 p ∧ 0 ≤ q ∧ Sz 10 q ∧
  Gives H Q fun H' v' => ∃ l vs', v' = .ref l ∧ H l = none ∧ H' l = some (.lst vs') ∧ LsOf (Fr K H') vs' (crossK c0 c1 p q)
abbrev s_crossings : Stmt := top 39
theorem sc_crossings : FnScope ["groups", "pays", "left", "right", "before", "behind", "share"] ["groups", "pays", "left", "right"] (defScope s_crossings) := ⟨rfl, rfl, rfl, by decide +kernel, rfl, by decide +kernel, by decide +kernel⟩
theorem ok_crossings (D : DefAt K mg "crossings" s_crossings) (G_lead : OkAt P w K mg base 7 "lead" ["groups", "pays", "x"] (spRB K leadK)) (G_minus : OkAt P w K mg base 3 "minus" ["first", "second"] (spTwo K (· - ·) fun _ => True)) (G_plus : OkAt P w K mg base 3 "plus" ["first", "second"] (spTwo K (· + ·) fun _ => True))
    (G_times : OkAt P w K mg base 3 "times" ["first", "second"] (spTwo K (· * ·) fun _ => True)) (G_divided : OkAt P w K mg base 3 "divided" ["first", "second"] (spTwo K (· / ·) fun q => 0 < q)) (G_unsigned : OkAt P w K mg base 1 "unsigned" ["fraction"] (spUnsigned K)) :
    OkAt P w K mg base 8 "crossings" ["groups", "pays", "left", "right"] (spCross K) := by
  refine okAt_of D (fun _ _ _ _ _ _ us hl => match us, hl with | [_, _, _, _], _ => rfl) fun f fd F => ?_
  have nd := sc_crossings.nd
  refine F.ok sc_crossings (fun vs H Q E h => ?_) (fun cdv A outer s H vs Q E hr h => ?_)
  · obtain ⟨a, z, y1, y2, c0, c1, u, v, p, q, rfl, _⟩ := h
    rfl
  · obtain ⟨a, z, y1, y2, c0, c1, u, v, p, q, rfl, hg, full, hz, hu, hv, f1, f2, p0, sp, q0, sq, k⟩ := h
    refine ⟨_, (pss_cons (ps_set (i := 4) nd rfl (Or.inl rfl) (pe_callO G_lead (hr.mono (by decide)) (by rfl) (pa_cons (pv 0) (pa_cons (pv 1) (pa_cons (pv 2) pa_nil))))) (pss_cons (ps_set (i := 5) nd rfl (Or.inl rfl) (pe_callO G_lead (hr.mono (by decide)) (by rfl) (pa_cons (pv 0) (pa_cons (pv 1) (pa_cons (pv 3) pa_nil))))) (pss_cons (ps_if (pt_cmpR op_ge (pe_op op_mulW (pe_ix ix_tup (pv 4) pe_int (fun _ _ => rfl)) (pe_ix ix_tup (pv 5) pe_int (fun _ _ => rfl))) pe_int (nomark _)) (pss_one (ps_ret (pe_lst pa_nil))) pss_nil) (pss_cons (ps_set (i := 6) nd rfl (Or.inl rfl) (pe_callO G_divided (hr.mono (by decide)) (by rfl) (pa_cons (pe_callO G_unsigned (hr.mono (by decide)) (by rfl) (pa_cons (pv 4) pa_nil)) (pa_cons (pe_callO G_plus (hr.mono (by decide)) (by rfl) (pa_cons (pe_callO G_unsigned (hr.mono (by decide)) (by rfl) (pa_cons (pv 4) pa_nil)) (pa_cons (pe_callO G_unsigned (hr.mono (by decide)) (by rfl) (pa_cons (pv 5) pa_nil)) pa_nil))) pa_nil)))) (pss_one (ps_ret (pe_lst (pa_cons (pe_callO G_plus (hr.mono (by decide)) (by rfl) (pa_cons (pv 2) (pa_cons (pe_callO G_times (hr.mono (by decide)) (by rfl) (pa_cons (pv 6) (pa_cons (pe_callO G_minus (hr.mono (by decide)) (by rfl) (pa_cons (pv 3) (pa_cons (pv 2) pa_nil))) pa_nil))) pa_nil))) pa_nil)))))))), ?_⟩
    refine ⟨_, rfl, _, rfl, _, rfl, a, z, y1, c0, c1, u, v, p, 10, rfl, hg, full, hz, hu, hv, f1, p0, sp, by decide, fun H2 v2 s2 f3 => ?_⟩
    refine ⟨_, rfl, _, rfl, _, rfl, a, z, y2, c0, c1, u, v, q, 10, rfl, hg.same s2, full, hz.same s2, hu, hv, f2.same s2, q0, sq, by decide, fun H3 v3 s3 f4 => ?_⟩
    have s23 := s2.trans s3
    have za := lead_sz full p0 sp
    have zb := lead_sz full q0 sq
    generalize ea : leadK c0 c1 p = ra at f3 za
    generalize eb : leadK c0 c1 q = rb at f4 zb
    obtain ⟨t2, rfl, ht2⟩ := f3.same s3
    obtain ⟨t3, rfl, ht3⟩ := f4
    refine ⟨_, rfl, t2, _, _, _, rfl, rfl, ht2, at0, _, rfl, t3, _, _, _, rfl, rfl, ht3, at0, _, _, rfl, rfl, wide_mul za.num zb.num (by decide) (by decide) (by decide), _, _, rfl, rfl, _, rfl, ?_⟩
    by_cases c : ra * rb < 0
    · have c' : ra.num * rb.num < 0 := num_sign.mpr c
      rw [decide_eq_false (by omega)]
      refine iteF ?_
      refine ⟨_, rfl, .ref t2, ra, rfl, ⟨t2, rfl, ht2⟩, fun H4 v4 s4 f4 => ?_⟩
      refine ⟨_, rfl, .ref t2, ra, rfl, ⟨t2, rfl, Same.tup s4 ht2⟩, fun H5 v5 s5 f5 => ?_⟩
      have s45 := s4.trans s5
      refine ⟨_, rfl, .ref t3, rb, rfl, ⟨t3, rfl, Same.tup s45 ht3⟩, fun H6 v6 s6 f6 => ?_⟩
      have aa := abs_sz za
      have ab := abs_sz zb
      refine ⟨v5, v6, _, _, _, _, rfl, f5.same s6, f6, aa, ab, by decide, trivial, fun H7 v7 s7 f7 => ?_⟩
      have ad := aa.add ab
      refine ⟨v4, v7, _, _, _, _, rfl, ((f4.same s5).same s6).same s7, f7, aa, ad, by decide, sum_abs_pos c, fun H8 v8 s8 f8 => ?_⟩
      have s38 : Same H3 H8 := ((s45.trans s6).trans s7).trans s8
      have s28 := s23.trans s38
      have ash := aa.div ad (sum_abs_pos c)
      refine ⟨_, rfl, _, rfl, _, rfl, _, rfl, y2, y1, q, p, 10, 10, rfl, f2.same s28, f1.same s28, sq, sp, by decide, trivial, fun H9 v9 s9 f9 => ?_⟩
      refine ⟨v8, v9, _, _, _, _, rfl, f8.same s9, f9, ash, sq.sub sp, by decide, trivial, fun HA vA sA fA => ?_⟩
      have s2A := s28.trans (s9.trans sA)
      refine ⟨y1, vA, p, _, 10, _, rfl, f1.same s2A, fA, sp, ash.mul (sq.sub sp), by decide, trivial, fun HB vB sB fB => ?_⟩
      refine ⟨by show 1 ≤ sizeLine; decide, fun l hl => ?_⟩
      refine k _ _ ((s2A.trans sB).trans (Same.new hl)) ⟨l, _, rfl, (s2A.trans sB).free hl, upd_same, ?_⟩
      unfold crossK
      rw [ea, eb, if_pos c]
      exact LsOf.snoc (vs := []) (xs := []) LsOf.nil (fB.same (Same.new hl))
    · have c' : ¬ ra.num * rb.num < 0 := fun z => c (num_sign.mp z)
      rw [decide_eq_true (by omega)]
      refine iteT ?_
      refine ⟨Nat.zero_le _, fun l hl => ?_⟩
      refine k _ _ (s23.trans (Same.new hl)) ⟨l, _, rfl, s23.free hl, upd_same, ?_⟩
      unfold crossK
      rw [ea, eb, if_neg c]
      exact LsOf.nil
end
end My
namespace My
open PySem PySem.Spec PyProof.Rows L2
section
variable {P : Program} {w : World} {K : PySem.W.Frag} {mg : Str → Option Value} {base : Heap}
def spCand (K : PySem.W.Frag) (g : Nat → Nat → Nat → Cells → Cells → List Rat) : Sp := fun vs H Q _ => ∃ (kind : Nat) (a : Addr) (z : V) (c0 c1 : Cells) (u v : Nat), vs = [.int (kind : Int), .ref a, z] ∧ 1 ≤ kind ∧ kind ≤ 3 ∧ GroupsAt K H a c0 c1 ∧ Full c0 c1 ∧ Pr K H z (u, v) ∧ u ≤ 100 ∧ v ≤ 100 ∧
  Gives H Q fun H' v' => ∃ p, v' = .ref p ∧ Frs K H' p (g kind u v c0 c1)
theorem mark_len {kind u v : Nat} {c0 c1 : Cells} (f : Full c0 c1) : (markK kind u v c0 c1).length ≤ 10 := by
  have key : ∀ (l acc : List Rat), (l.foldl (fun k x => Krdh.insertRat x k) acc).length ≤ l.length + acc.length := by
    have one : ∀ (x : Rat) (l : List Rat), (Krdh.insertRat x l).length ≤ l.length + 1 := by
      intro x l
      induction l with
      | nil => exact Nat.le_refl _
      | cons y l ih =>
        unfold Krdh.insertRat
        split
        · simp
        · split
          · simp
          · rw [List.length_cons, List.length_cons]
            omega
    intro l
    induction l with
    | nil =>
      intro acc
      simp
    | cons x l ih =>
      intro acc
      rw [List.foldl_cons, List.length_cons]
      have := ih (Krdh.insertRat x acc)
      have := one x acc
      omega
  have h := key (parts kind u v c0 ++ parts kind u v c1) []
  have l0 := stK_len (kind := kind) (u := u) (v := v) (cs := c0)
  have l1 := stK_len (kind := kind) (u := u) (v := v) (cs := c1)
  have a := f.ok0.len
  have b := f.ok1.len
  unfold parts at h
  rw [List.length_append, List.length_map, List.length_map, List.length_nil] at h
  unfold markK Krdi.sorted parts
  omega
theorem cross_len {c0 c1 : Cells} {p q : Rat} : (crossK c0 c1 p q).length ≤ 1 := by
  unfold crossK
  split <;> simp
theorem weave_len {c0 c1 : Cells} : ∀ l : List Rat, (weave (crossK c0 c1) l).length ≤ 2 * l.length
  | [] => Nat.le_refl _
  | [p] => by simp [weave]
  | p :: q :: l => by
    have ih := weave_len (c0 := c0) (c1 := c1) (q :: l)
    have := cross_len (c0 := c0) (c1 := c1) (p := p) (q := q)
    unfold weave
    rw [List.length_cons, List.length_append, List.length_cons]
    omega
abbrev s_candidates : Stmt := top 40
theorem sc_candidates : FnScope ["kind", "groups", "pays", "marks", "found", "place"] ["kind", "groups", "pays"] (defScope s_candidates) := ⟨rfl, rfl, rfl, by decide +kernel, rfl, by decide +kernel, by decide +kernel⟩
theorem ok_candidates (D : DefAt K mg "candidates" s_candidates) (B : Blt mg) (T : Kinds mg) (G_marks_for : OkAt P w K mg base 5 "marks_for" ["kind", "groups", "pays"] (spMarks K)) (G_crossings : OkAt P w K mg base 8 "crossings" ["groups", "pays", "left", "right"] (spCross K)) :
    OkAt P w K mg base 9 "candidates" ["kind", "groups", "pays"] (spCand K candK) := by
  refine okAt_of D (fun _ _ _ _ _ _ us hl => match us, hl with | [_, _, _], _ => rfl) fun f fd F => ?_
  have nd := sc_candidates.nd
  refine F.ok sc_candidates (fun vs H Q E h => ?_) (fun cdv A outer s H vs Q E hr h => ?_)
  · obtain ⟨kind, a, z, c0, c1, u, v, rfl, _⟩ := h
    rfl
  · obtain ⟨kind, a, z, c0, c1, u, v, rfl, k1, k3, hg, full, hz, hu, hv, k⟩ := h
    refine ⟨_, (pss_cons (ps_set (i := 3) nd rfl (Or.inl rfl) (pe_callO G_marks_for (hr.mono (by decide)) (by rfl) (pa_cons (pv 0) (pa_cons (pv 1) (pa_cons (pv 2) pa_nil))))) (pss_cons (ps_if (pt_cmpR op_ne (pv 0) (pe_gi T.SAME_BOTH (by rfl)) (nomark _)) (pss_one (ps_ret (pv 3))) pss_nil) (pss_cons (ps_set (i := 4) nd rfl (Or.inl rfl) (pe_lst (pa_cons (pe_ix ix_list (pv 3) pe_int (fun _ _ => rfl)) pa_nil))) (pss_cons (ps_for PassesOwn.never rfl (pi_range2 (by rfl) B.range (pa_cons pe_int (pa_cons (pe_callB call_len_seq (by rfl) B.len (by decide +kernel) (pa_cons (pv 3) pa_nil)) pa_nil))) (pg_name (i := 5) nd rfl (Or.inl rfl)) (pss_cons (ps_expr (pe_bm PySem.F.plainAttrs_list PySem.F.slot_list_extend PySem.F.type_list_extend mt_extend (pv 4) (pa_cons (pe_callO G_crossings (hr.mono (by decide)) (by rfl) (pa_cons (pv 1) (pa_cons (pv 2) (pa_cons (pe_ix ix_list (pv 3) (pe_op op_sub (pv 5) pe_int) (fun _ _ => rfl)) (pa_cons (pe_ix ix_list (pv 3) (pv 5) (fun _ _ => rfl)) pa_nil))))) pa_nil))) (pss_one (ps_expr (pe_bm PySem.F.plainAttrs_list PySem.F.slot_list_append PySem.F.type_list_append mt_append (pv 4) (pa_cons (pe_ix ix_list (pv 3) (pv 5) (fun _ _ => rfl)) pa_nil)))))) (pss_one (ps_ret (pv 4))))))), ?_⟩
    refine ⟨_, rfl, _, rfl, _, rfl, kind, a, z, c0, c1, u, v, rfl, k1, k3, hg, ⟨full.ok0, full.ok1, full.run0 kind, full.run1 kind⟩, hz, hu, hv, fun H2 v2 s2 ⟨p2, e2, hp2⟩ => ?_⟩
    subst e2
    refine ⟨_, rfl, rfl, _, rfl, ?_⟩
    rw [kd]
    by_cases e3 : kind = 3
    · subst e3
      refine iteF ?_
      have hd := mark_head (u := u) (v := v) (full.run0 3) (full.run1 3)
      have ml := mark_len (kind := 3) (u := u) (v := v) full
      have inm : ∀ x ∈ markK 3 u v c0 c1, 0 ≤ x ∧ x ≤ 1 ∧ Sz 10 x := fun x hx => full.mark hx
      have ec : candK 3 u v c0 c1 = weave (crossK c0 c1) (markK 3 u v c0 c1) := rfl
      rw [ec] at k
      obtain ⟨vs, hvs, hf⟩ := hp2
      generalize markK 3 u v c0 c1 = M at hf hd ml inm k
      have m0 : M[0]? = some 0 := by
        cases M with
        | nil => cases hd
        | cons y l => exact hd
      obtain ⟨v0, hv0, fv0⟩ := hf.at m0
      refine ⟨_, rfl, p2, _, _, _, rfl, rfl, hvs, atI_nat (j := 0) hv0, ?_⟩
      refine ⟨by show 1 ≤ sizeLine; decide, fun d hd' => ?_⟩
      have s3 : Same H2 (upd H2 d (.lst [v0])) := Same.new hd'
      have hn : 1 ≤ M.length := (List.getElem?_eq_some_iff.mp m0).1
      have vl : vs.length = M.length := hf.1
      refine ⟨_, rfl, p2, _, rfl, .inl (s3.seq hvs), 1, ((vs.length : Nat) : Int), rfl, ⟨by decide, by decide, by omega, by omega⟩, ?_⟩
      have en : (((vs.length : Nat) : Int) - 1).toNat = M.length - 1 := by omega
      rw [en]
      refine for_range (n := M.length - 1) (lo := 1) (fun i σ H' => ∃ (x : Option V) (ws : List V), σ = [some (.int 3), some (.ref a), some z, some (.ref p2), some (.ref d), x] ∧ Same H2 H' ∧ H' d = some (.lst ws) ∧ LsOf (Fr K H') ws (weave (crossK c0 c1) (M.take (i + 1)))) ?_ ?_ ?_
      · refine ⟨none, [v0], rfl, s3, upd_same, ?_⟩
        have e1 : M.take (0 + 1) = [0] := by
          cases M with
          | nil => cases hd
          | cons y l =>
            have : y = 0 := Option.some.inj hd
            rw [this]
            rfl
        rw [e1]
        exact LsOf.snoc (vs := []) (xs := []) LsOf.nil (fv0.same s3)
      · rintro i σ H' hi ⟨x, ws, rfl, s5, h5, f5⟩
        have y0 : M[i]? = some M[i] := List.getElem?_eq_getElem (by omega)
        have y1 : M[i + 1]? = some M[i + 1] := List.getElem?_eq_getElem (by omega)
        generalize M[i] = p at y0
        generalize M[i + 1] = q at y1
        obtain ⟨vp, hvp, fp⟩ := hf.at y0
        obtain ⟨vq, hvq, fq⟩ := hf.at y1
        have ⟨p0, _, sp⟩ := inm p (List.mem_of_getElem? y0)
        have ⟨q0, _, sq⟩ := inm q (List.mem_of_getElem? y1)
        have ei : (1 : Int) + (i : Int) - 1 = ((i : Nat) : Int) := by omega
        have ej : (1 : Int) + (i : Int) = ((i + 1 : Nat) : Int) := by omega
        refine ⟨_, rfl, .inl ⟨rfl, _, SqL.of h5⟩, ?_⟩
        refine ⟨_, rfl, _, rfl, _, rfl, _, rfl, _, _, rfl, rfl, p2, _, _, _, rfl, rfl, s5.seq hvs, (by rw [ei]; exact atI_nat hvp), ?_⟩
        refine ⟨_, rfl, _, rfl, p2, _, _, _, rfl, rfl, s5.seq hvs, (by rw [ej]; exact atI_nat hvq), ?_⟩
        have s25 := s2.trans s5
        refine ⟨a, z, vp, vq, c0, c1, u, v, p, q, rfl, hg.same s25, full, hz.same s25, hu, hv, fp.same s5, fq.same s5, p0, sp, q0, sq, fun H6 v6 s6 ⟨l6, vs6, e6, n6, h6, f6⟩ => ?_⟩
        subst e6
        have h5' := s6 _ _ h5
        have wl := f5.1
        have w2 := weave_len (c0 := c0) (c1 := c1) (M.take (i + 1))
        have tl := List.length_take_le' (i + 1) M
        have cl := cross_len (c0 := c0) (c1 := c1) (p := p) (q := q)
        have vl6 := f6.1
        refine ⟨d, l6, ws, vs6, rfl, rfl, h5', h6, Nat.le_of_lt (lt_line (by omega)), ?_⟩
        have fA : LsOf (Fr K (upd H6 d (.lst (ws ++ vs6)))) (ws ++ vs6) (weave (crossK c0 c1) (M.take (i + 1)) ++ crossK c0 c1 p q) := (f5.imp fun v q f => (f.same s6).put h5').append (f6.imp fun v q f => f.put h5')
        refine ⟨_, rfl, .inl ⟨rfl, _, SqL.of upd_same⟩, ?_⟩
        have sB : Same H2 (upd H6 d (.lst (ws ++ vs6))) := made_same hd' (s5.trans s6)
        refine ⟨_, rfl, _, rfl, p2, _, _, _, rfl, rfl, sB.seq hvs, (by rw [ej]; exact atI_nat hvq), ?_⟩
        have ⟨t2, t1⟩ := take_two y0 y1
        refine ⟨d, _, _, rfl, rfl, upd_same, lt_line (by rw [List.length_append]; omega), ?_⟩
        refine ⟨_, ws ++ vs6 ++ [vq], rfl, ?_, upd_same, ?_⟩
        · exact made_same hd' sB
        · have e7 : weave (crossK c0 c1) (M.take (i + 1 + 1)) = weave (crossK c0 c1) (M.take (i + 1)) ++ crossK c0 c1 p q ++ [q] := by
            rw [t2, t1, weave_snoc]
          rw [e7]
          exact (fA.imp fun v q f => f.put upd_same).snoc ((fq.same sB).put upd_same)
      · rintro σ H' ⟨x, ws, rfl, s5, h5, f5⟩
        rw [Nat.sub_add_cancel hn, List.take_length] at f5
        exact ⟨_, rfl, k H' _ (s2.trans s5) ⟨d, rfl, ws, SqL.of h5, f5⟩⟩
    · rw [decide_eq_false (by omega)]
      refine iteT ?_
      have ec : candK kind u v c0 c1 = markK kind u v c0 c1 := by
        unfold candK
        rw [if_neg e3]
      rw [ec] at k
      exact ⟨_, rfl, k H2 _ s2 ⟨p2, rfl, hp2⟩⟩
def spWorth (K : PySem.W.Frag) : Sp := fun vs H Q _ => ∃ (a : Addr) (z y1 y2 : V) (c0 c1 : Cells) (u v : Nat) (x y : Rat) (n : Nat), vs = [.ref a, z, y1, y2] ∧ GroupsAt K H a c0 c1 ∧ CsOk c0 ∧ CsOk c1 ∧ Pr K H z (u, v) ∧ u ≤ 100 ∧ v ≤ 100 ∧ Fr K H y1 x ∧ Fr K H y2 y ∧ Sz n x ∧ Sz n y ∧ n ≤ 4000 ∧
  Gives H Q fun H' v' => Fr K H' v' (worthK u v c0 c1 x y)
theorem pay_mul {u : Nat} {a : Int} (hu : u ≤ 100) (h : a.natAbs < 2 ^ 20) : CMulW (u : Int) a := wide_mul (a := 20) (b := 20) (by omega) h (by decide) (by decide) (by decide)
abbrev s_worth : Stmt := top 41
theorem sc_worth : FnScope ["groups", "pays", "x", "y", "so", "others"] ["groups", "pays", "x", "y"] (defScope s_worth) := ⟨rfl, rfl, rfl, by decide +kernel, rfl, by decide +kernel, by decide +kernel⟩
theorem ok_worth (D : DefAt K mg "worth" s_worth) (B : Blt mg) (G_so_of : OkAt P w K mg base 1 "so_of" ["cells"] (spCells K so)) (G_others_of : OkAt P w K mg base 1 "others_of" ["cells"] (spCells K oth)) (G_minus : OkAt P w K mg base 3 "minus" ["first", "second"] (spTwo K (· - ·) fun _ => True))
    (G_times : OkAt P w K mg base 3 "times" ["first", "second"] (spTwo K (· * ·) fun _ => True)) (G_whole : OkAt P w K mg base 1 "whole" ["number"] (spWhole K)) : OkAt P w K mg base 4 "worth" ["groups", "pays", "x", "y"] (spWorth K) := by
  refine okAt_of D (fun _ _ _ _ _ _ us hl => match us, hl with | [_, _, _, _], _ => rfl) fun f fd F => ?_
  have nd := sc_worth.nd
  refine F.ok sc_worth (fun vs H Q E h => ?_) (fun cdv A outer s H vs Q E hr h => ?_)
  · obtain ⟨a, z, y1, y2, c0, c1, u, v, x, y, n, rfl, _⟩ := h
    rfl
  · obtain ⟨a, z, y1, y2, c0, c1, u, v, x, y, n, rfl, ⟨g0, g1, hg, hc0, hc1⟩, ok0, ok1, ⟨t, rfl, ht⟩, hu, hv, f1, f2, sx, sy, hn, k⟩ := h
    have ⟨a0, a1⟩ := so_sum ok0
    have ⟨b0, b1⟩ := so_sum ok1
    have ⟨d0, d1⟩ := oth_sum ok0
    have ⟨e0, e1⟩ := oth_sum ok1
    have pp := pay_sz hu a0 a1 b0 b1
    have pq := pay_sz hv d0 d1 e0 e1
    refine ⟨_, (pss_cons (ps_set (i := 4) nd rfl (Or.inl rfl) (pe_op op_add (pe_callB (cr_sum rfl) (by rfl) B.sum (by decide +kernel) (pa_cons (pe_callO G_so_of (hr.mono (by decide)) (by rfl) (pa_cons (pe_ix ix_list (pv 0) pe_int (fun _ _ => rfl)) pa_nil)) pa_nil)) (pe_callB (cr_sum rfl) (by rfl) B.sum (by decide +kernel) (pa_cons (pe_callO G_so_of (hr.mono (by decide)) (by rfl) (pa_cons (pe_ix ix_list (pv 0) pe_int (fun _ _ => rfl)) pa_nil)) pa_nil)))) (pss_cons (ps_set (i := 5) nd rfl (Or.inl rfl) (pe_op op_add (pe_callB (cr_sum rfl) (by rfl) B.sum (by decide +kernel) (pa_cons (pe_callO G_others_of (hr.mono (by decide)) (by rfl) (pa_cons (pe_ix ix_list (pv 0) pe_int (fun _ _ => rfl)) pa_nil)) pa_nil)) (pe_callB (cr_sum rfl) (by rfl) B.sum (by decide +kernel) (pa_cons (pe_callO G_others_of (hr.mono (by decide)) (by rfl) (pa_cons (pe_ix ix_list (pv 0) pe_int (fun _ _ => rfl)) pa_nil)) pa_nil)))) (pss_one (ps_ret (pe_callO G_minus (hr.mono (by decide)) (by rfl) (pa_cons (pe_callO G_times (hr.mono (by decide)) (by rfl) (pa_cons (pe_callO G_whole (hr.mono (by decide)) (by rfl) (pa_cons (pe_op op_mulW (pe_ix ix_tup (pv 1) pe_int (fun _ _ => rfl)) (pv 4)) pa_nil)) (pa_cons (pv 3) pa_nil))) (pa_cons (pe_callO G_times (hr.mono (by decide)) (by rfl) (pa_cons (pe_callO G_whole (hr.mono (by decide)) (by rfl) (pa_cons (pe_op op_mulW (pe_ix ix_tup (pv 1) pe_int (fun _ _ => rfl)) (pv 5)) pa_nil)) (pa_cons (pv 2) pa_nil))) pa_nil))))))), ?_⟩
    refine ⟨_, rfl, a, _, _, _, rfl, rfl, hg, at0, g0, c0, rfl, hc0, ok0.len, fun H2 v2 s2 ⟨p2, e2, h2⟩ => ?_⟩
    subst e2
    refine ⟨p2, _, rfl, SqL.of h2, _, rfl, a, _, _, _, rfl, rfl, s2.seq hg, at1, g1, c1, rfl, hc1.same s2, ok1.len, fun H3 v3 s3 ⟨p3, e3, h3⟩ => ?_⟩
    subst e3
    have s23 := s2.trans s3
    refine ⟨p3, _, rfl, SqL.of h3, _, _, rfl, rfl, ?_⟩
    refine ⟨_, rfl, a, _, _, _, rfl, rfl, s23.seq hg, at0, g0, c0, rfl, hc0.same s23, ok0.len, fun H4 v4 s4 ⟨p4, e4, h4⟩ => ?_⟩
    subst e4
    have s24 := s23.trans s4
    refine ⟨p4, _, rfl, SqL.of h4, _, rfl, a, _, _, _, rfl, rfl, s24.seq hg, at1, g1, c1, rfl, hc1.same s24, ok1.len, fun H5 v5 s5 ⟨p5, e5, h5⟩ => ?_⟩
    subst e5
    have s25 := s24.trans s5
    refine ⟨p5, _, rfl, SqL.of h5, _, _, rfl, rfl, ?_⟩
    refine ⟨_, rfl, t, _, _, _, rfl, rfl, Same.tup s25 ht, at0, _, rfl, _, _, rfl, rfl, pay_mul hu (by omega), _, rfl, fun H6 v6 s6 f6 => ?_⟩
    have s26 := s25.trans s6
    refine ⟨_, rfl, v6, y2, _, y, 20, n, rfl, f6, f2.same s26, Sz.int pp (by decide), sy, by omega, trivial, fun H7 v7 s7 f7 => ?_⟩
    have s27 := s26.trans s7
    refine ⟨_, rfl, t, _, _, _, rfl, rfl, Same.tup s27 ht, at1, _, rfl, _, _, rfl, rfl, pay_mul hv (by omega), _, rfl, fun H8 v8 s8 f8 => ?_⟩
    have s28 := s27.trans s8
    refine ⟨_, rfl, v8, y1, _, x, 20, n, rfl, f8, f1.same s28, Sz.int pq (by decide), sx, by omega, trivial, fun H9 v9 s9 f9 => ?_⟩
    refine ⟨v7, v9, _, _, _, _, rfl, (f7.same s8).same s9, f9, (Sz.int pp (by decide)).mul sy, (Sz.int pq (by decide)).mul sx, by omega, trivial, fun HA vA sA fA => ?_⟩
    exact k HA vA ((s28.trans s9).trans sA) fA
def spGained (K : PySem.W.Frag) : Sp := fun vs H Q _ => ∃ (a b : Addr) (z : V) (cs : Cells) (qs : List Rat) (u v m : Nat), vs = [.ref a, .ref b, z] ∧ CellsAt K H a cs ∧ CsOk cs ∧ Frs K H b qs ∧ qs.length = cs.length ∧ (∀ q ∈ qs, Sz m q) ∧ m ≤ 2000 ∧ Pr K H z (u, v) ∧ u ≤ 100 ∧ v ≤ 100 ∧ Gives H Q fun H' v' => Fr K H' v' (wsum qs (gai u v cs))
abbrev s_gained : Stmt := top 42
theorem sc_gained : FnScope ["cells", "chances", "pays"] ["cells", "chances", "pays"] (defScope s_gained) := ⟨rfl, rfl, rfl, by decide +kernel, rfl, by decide +kernel, by decide +kernel⟩
theorem ok_gained (D : DefAt K mg "gained" s_gained) (G_weighed : OkAt P w K mg base 4 "weighed" ["fractions", "weights"] (spWeighed K)) (G_gains_of : OkAt P w K mg base 1 "gains_of" ["cells", "pays"] (spGainsOf K)) :
    OkAt P w K mg base 5 "gained" ["cells", "chances", "pays"] (spGained K) := by
  refine okAt_of D (fun _ _ _ _ _ _ us hl => match us, hl with | [_, _, _], _ => rfl) fun f fd F => ?_
  have nd := sc_gained.nd
  refine F.ok sc_gained (fun vs H Q E h => ?_) (fun cdv A outer s H vs Q E hr h => ?_)
  · obtain ⟨a, b, z, cs, qs, u, v, m, rfl, _⟩ := h
    rfl
  · obtain ⟨a, b, z, cs, qs, u, v, m, rfl, ha, cok, hb, hl, hm, m2, hz, hu, hv, k⟩ := h
    refine ⟨_, (pss_one (ps_ret (pe_callO G_weighed (hr.mono (by decide)) (by rfl) (pa_cons (pv 1) (pa_cons (pe_callO G_gains_of (hr.mono (by decide)) (by rfl) (pa_cons (pv 0) (pa_cons (pv 2) pa_nil))) pa_nil))))), ?_⟩
    refine ⟨_, rfl, _, rfl, _, rfl, a, z, cs, u, v, rfl, ha, hz, hu, hv, cok.len, fun H2 v2 s2 ⟨p2, e2, h2⟩ => ?_⟩
    subst e2
    refine ⟨b, p2, qs, gai u v cs, m, rfl, hb.same s2, SqL.of h2, by rw [hl, len_gai], hm, ⟨gai_small20 cok hu hv⟩, by rw [hl]; exact cok.len, m2, fun H3 v3 s3 f3 => ?_⟩
    exact k H3 v3 (s2.trans s3) f3
end
end My
namespace My
open PySem PySem.Spec PyProof.Rows L2
section
variable {P : Program} {w : World} {K : PySem.W.Frag} {mg : Str → Option Value} {base : Heap}
def spGainAt (K : PySem.W.Frag) : Sp := fun vs H Q _ => ∃ (kind : Nat) (a : Addr) (z y : V) (c0 c1 : Cells) (u v : Nat) (x : Rat), vs = [.int (kind : Int), .ref a, z, y] ∧ 1 ≤ kind ∧ kind ≤ 3 ∧ GroupsAt K H a c0 c1 ∧ Full c0 c1 ∧ Pr K H z (u, v) ∧ u ≤ 100 ∧ v ≤ 100 ∧ Fr K H y x ∧ 0 ≤ x ∧ Sz 400 x ∧
  Gives H Q fun H' v' => Fr K H' v' (gainK kind u v c0 c1 x)
abbrev s_gained_at : Stmt := top 43
theorem sc_gained_at : FnScope ["kind", "groups", "pays", "x", "first", "second"] ["kind", "groups", "pays", "x"] (defScope s_gained_at) := ⟨rfl, rfl, rfl, by decide +kernel, rfl, by decide +kernel, by decide +kernel⟩
theorem ok_gained_at (D : DefAt K mg "gained_at" s_gained_at) (T : Kinds mg) (G_worth : OkAt P w K mg base 4 "worth" ["groups", "pays", "x", "y"] (spWorth K)) (G_right_in_both : OkAt P w K mg base 7 "right_in_both" ["groups", "pays", "x"] (spRB K leastK)) (G_gained : OkAt P w K mg base 5 "gained" ["cells", "chances", "pays"] (spGained K))
    (G_chances_for : OkAt P w K mg base 5 "chances_for" ["kind", "cells", "pays", "x"] (spChK K)) (G_plus : OkAt P w K mg base 3 "plus" ["first", "second"] (spTwo K (· + ·) fun _ => True)) : OkAt P w K mg base 8 "gained_at" ["kind", "groups", "pays", "x"] (spGainAt K) := by
  refine okAt_of D (fun _ _ _ _ _ _ us hl => match us, hl with | [_, _, _, _], _ => rfl) fun f fd F => ?_
  have nd := sc_gained_at.nd
  refine F.ok sc_gained_at (fun vs H Q E h => ?_) (fun cdv A outer s H vs Q E hr h => ?_)
  · obtain ⟨kind, a, z, y, c0, c1, u, v, x, rfl, _⟩ := h
    rfl
  · obtain ⟨kind, a, z, y, c0, c1, u, v, x, rfl, k1, k3, hg, full, hz, hu, hv, hy, x0, sx, k⟩ := h
    refine ⟨_, (pss_cons (ps_if (pt_cmpR op_eq (pv 0) (pe_gi T.SAME_BOTH (by rfl)) (nomark _)) (pss_one (ps_ret (pe_callO G_worth (hr.mono (by decide)) (by rfl) (pa_cons (pv 1) (pa_cons (pv 2) (pa_cons (pv 3) (pa_cons (pe_callO G_right_in_both (hr.mono (by decide)) (by rfl) (pa_cons (pv 1) (pa_cons (pv 2) (pa_cons (pv 3) pa_nil)))) pa_nil))))))) pss_nil) (pss_cons (ps_set (i := 4) nd rfl (Or.inl rfl) (pe_callO G_gained (hr.mono (by decide)) (by rfl) (pa_cons (pe_ix ix_list (pv 1) pe_int (fun _ _ => rfl)) (pa_cons (pe_callO G_chances_for (hr.mono (by decide)) (by rfl) (pa_cons (pv 0) (pa_cons (pe_ix ix_list (pv 1) pe_int (fun _ _ => rfl)) (pa_cons (pv 2) (pa_cons (pv 3) pa_nil))))) (pa_cons (pv 2) pa_nil))))) (pss_cons (ps_set (i := 5) nd rfl (Or.inl rfl) (pe_callO G_gained (hr.mono (by decide)) (by rfl) (pa_cons (pe_ix ix_list (pv 1) pe_int (fun _ _ => rfl)) (pa_cons (pe_callO G_chances_for (hr.mono (by decide)) (by rfl) (pa_cons (pv 0) (pa_cons (pe_ix ix_list (pv 1) pe_int (fun _ _ => rfl)) (pa_cons (pv 2) (pa_cons (pv 3) pa_nil))))) (pa_cons (pv 2) pa_nil))))) (pss_one (ps_ret (pe_callO G_plus (hr.mono (by decide)) (by rfl) (pa_cons (pv 4) (pa_cons (pv 5) pa_nil)))))))), ?_⟩
    refine ⟨_, rfl, rfl, _, rfl, ?_⟩
    rw [kd]
    by_cases e3 : kind = 3
    · subst e3
      refine iteT ?_
      refine ⟨_, rfl, _, rfl, _, rfl, _, rfl, _, rfl, _, rfl, a, z, y, c0, c1, u, v, x, 400, rfl, hg, full, hz, hu, hv, hy, x0, sx, by decide, fun H2 v2 s2 f2 => ?_⟩
      refine ⟨a, z, y, v2, c0, c1, u, v, x, _, 440, rfl, hg.same s2, full.ok0, full.ok1, hz.same s2, hu, hv, hy.same s2, f2, sx.mono (by decide), least_sz full x0 sx, by decide, fun H3 v3 s3 f3 => ?_⟩
      exact k H3 v3 (s2.trans s3) f3
    · rw [decide_eq_false (by omega)]
      refine iteF ?_
      have eg : gainK kind u v c0 c1 x = wsum (chK kind u v c0 x) (gai u v c0) + wsum (chK kind u v c1 x) (gai u v c1) := by
        unfold gainK
        rw [if_neg e3]
      rw [eg] at k
      obtain ⟨g0, g1, hgl, hc0, hc1⟩ := hg
      have q0 := ch_sz (kind := kind) (u := u) (v := v) full.ok0 x0 sx
      have q1 := ch_sz (kind := kind) (u := u) (v := v) full.ok1 x0 sx
      have l0 := chK_len kind u v c0 x
      have l1 := chK_len kind u v c1 x
      refine ⟨_, rfl, a, _, _, _, rfl, rfl, hgl, at0, _, rfl, _, rfl, a, _, _, _, rfl, rfl, hgl, at0, _, rfl, _, rfl, kind, g0, z, y, c0, u, v, x, 400, rfl, k1, k3, hc0, full.ok0, hz, hu, hv, hy, x0, sx, by decide, fun H2 v2 s2 ⟨p2, e2, _, h2⟩ => ?_⟩
      subst e2
      refine ⟨_, rfl, g0, p2, z, c0, _, u, v, 530, rfl, hc0.same s2, full.ok0, h2.frs, l0, q0, by decide, hz.same s2, hu, hv, fun H3 v3 s3 f3 => ?_⟩
      have s23 := s2.trans s3
      refine ⟨_, rfl, a, _, _, _, rfl, rfl, s23.seq hgl, at1, _, rfl, _, rfl, a, _, _, _, rfl, rfl, s23.seq hgl, at1, _, rfl, _, rfl, kind, g1, z, y, c1, u, v, x, 400, rfl, k1, k3, hc1.same s23, full.ok1, hz.same s23, hu, hv, hy.same s23, x0, sx, by decide, fun H4 v4 s4 ⟨p4, e4, _, h4⟩ => ?_⟩
      subst e4
      have s24 := s23.trans s4
      refine ⟨_, rfl, g1, p4, z, c1, _, u, v, 530, rfl, hc1.same s24, full.ok1, h4.frs, l1, q1, by decide, hz.same s24, hu, hv, fun H5 v5 s5 f5 => ?_⟩
      have w0 := wsum_sz q0 (gai_small20 full.ok0 hu hv) (by rw [l0]; exact full.ok0.len)
      have w1 := wsum_sz q1 (gai_small20 full.ok1 hu hv) (by rw [l1]; exact full.ok1.len)
      refine ⟨_, rfl, _, rfl, v3, v5, _, _, _, _, rfl, (f3.same s4).same s5, f5, w0, w1, by decide, trivial, fun H6 v6 s6 f6 => ?_⟩
      exact k H6 v6 ((s24.trans s5).trans s6) f6
def spFree (K : PySem.W.Frag) : Sp := fun vs H Q _ => ∃ (a : Addr) (z : V) (c0 c1 : Cells) (u v : Nat), vs = [.ref a, z] ∧ GroupsAt K H a c0 c1 ∧ c0.length ≤ 4 ∧ c1.length ≤ 4 ∧ Pr K H z (u, v) ∧ u ≤ 100 ∧ v ≤ 100 ∧ Gives H Q fun H' v' => Fr K H' v' ((freeK u v c0 c1 : Int) : Rat)
theorem filter_more {l : List Int} {i : Nat} {z : Int} {f : Int → Bool} (h : l[i]? = some z) (hf : f z = true) : (((l.take i).filter f).map V.int) ++ [V.int z] = ((l.take (i + 1)).filter f).map V.int := by
  rw [take_more h, List.filter_append, List.filter_cons, if_pos hf, List.map_append]
  rfl
theorem filter_less {l : List Int} {i : Nat} {z : Int} {f : Int → Bool} (h : l[i]? = some z) (hf : ¬ f z = true) : (l.take (i + 1)).filter f = (l.take i).filter f := by
  rw [take_more h, List.filter_append, List.filter_cons, if_neg hf, List.filter_nil, List.append_nil]
abbrev s_gained_freely : Stmt := top 44
theorem sc_gained_freely : FnScope ["groups", "pays", "gains", "gain"] ["groups", "pays"] (defScope s_gained_freely) := ⟨rfl, rfl, rfl, by decide +kernel, rfl, by decide +kernel, by decide +kernel⟩
theorem ok_gained_freely (D : DefAt K mg "gained_freely" s_gained_freely) (B : Blt mg) (G_gains_of : OkAt P w K mg base 1 "gains_of" ["cells", "pays"] (spGainsOf K)) (G_whole : OkAt P w K mg base 1 "whole" ["number"] (spWhole K)) :
    OkAt P w K mg base 2 "gained_freely" ["groups", "pays"] (spFree K) := by
  refine okAt_of D (fun _ _ _ _ _ _ us hl => match us, hl with | [_, _], _ => rfl) fun f fd F => ?_
  have nd := sc_gained_freely.nd
  refine F.ok sc_gained_freely (fun vs H Q E h => ?_) (fun cdv A outer s H vs Q E hr h => ?_)
  · obtain ⟨a, z, c0, c1, u, v, rfl, _⟩ := h
    rfl
  · obtain ⟨a, z, c0, c1, u, v, rfl, ⟨g0, g1, hg, hc0, hc1⟩, l0, l1, hz, hu, hv, k⟩ := h
    refine ⟨_, (pss_cons (ps_set (i := 2) nd rfl (Or.inl rfl) (pe_op op_cat (pe_callO G_gains_of (hr.mono (by decide)) (by rfl) (pa_cons (pe_ix ix_list (pv 0) pe_int (fun _ _ => rfl)) (pa_cons (pv 1) pa_nil))) (pe_callO G_gains_of (hr.mono (by decide)) (by rfl) (pa_cons (pe_ix ix_list (pv 0) pe_int (fun _ _ => rfl)) (pa_cons (pv 1) pa_nil))))) (pss_one (ps_ret (pe_callO G_whole (hr.mono (by decide)) (by rfl) (pa_cons (pe_callB (cr_sum rfl) (by rfl) B.sum (by decide +kernel) (pa_cons (pe_lc (own := [("gain", 3)]) (g := (gName 3)) (te := (tVar 3)) (tt := (tTest (tOp (rI0 fun i j => .bl (decide (j < i))) (tVar 3) (tC (.int 0))))) (by rfl) nd (pi_list (pv 2)) (blkOk_by (own := [("gain", 3)]) (N := ["groups", "pays", "gains", "gain"]) (sc := defScope s_gained_freely) (by decide +kernel)) (fun _ _ _ _ _ => (pg_name (i := 3) nd rfl (Or.inl rfl))) (fun _ _ _ _ _ => (pts_one (pt_cmpR op_gt (pv 3) pe_int (nomark _)))) (fun _ _ _ _ _ => (pv 3))) pa_nil)) pa_nil))))), ?_⟩
    refine ⟨_, rfl, a, _, _, _, rfl, rfl, hg, at0, _, rfl, g0, z, c0, u, v, rfl, hc0, hz, hu, hv, l0, fun H2 v2 s2 ⟨p2, e2, h2⟩ => ?_⟩
    subst e2
    refine ⟨_, rfl, a, _, _, _, rfl, rfl, s2.seq hg, at1, _, rfl, g1, z, c1, u, v, rfl, hc1.same s2, hz.same s2, hu, hv, l1, fun H3 v3 s3 ⟨p3, e3, h3⟩ => ?_⟩
    subst e3
    refine ⟨p2, p3, _, _, rfl, rfl, s3 _ _ h2, h3, ?_, fun q hq => ?_⟩
    · rw [List.length_map, List.length_map, len_gai, len_gai]
      exact Nat.le_of_lt (lt_line (by omega))
    rw [← List.map_append]
    have s4 : Same H3 (upd H3 q (.lst ((gai u v c0 ++ gai u v c1).map V.int))) := Same.new hq
    have ll : (gai u v c0 ++ gai u v c1).length ≤ 8 := by
      rw [List.length_append, len_gai, len_gai]
      omega
    unfold freeK at k
    generalize gai u v c0 ++ gai u v c1 = L at s4 ll k
    refine ⟨_, rfl, q, rfl, ⟨_, SqL.of upd_same⟩, fun d hd => lc_list (K := K) (a := q) (xs := L.map V.int) (fun i H' => Same (upd H3 q (.lst (L.map V.int))) H' ∧ H' d = some (.lst (((L.take i).filter fun z => decide (0 < z)).map V.int))) ⟨Same.new hd, upd_same⟩ (fun i H' _ ⟨s, _⟩ => SqL.of (s _ _ upd_same)) ?_ ?_⟩
    · rintro i x H' hx ⟨s5, h5⟩
      obtain ⟨y, hy, rfl⟩ := ints_get hx
      refine ⟨rfl, ?_⟩
      refine ⟨_, rfl, _, _, rfl, rfl, _, rfl, ?_⟩
      by_cases c : 0 < y
      · rw [decide_eq_true c]
        refine iteT ⟨_, rfl, _, h5, ?_, made_same hd s5, ?_⟩
        · refine lt_line ?_
          rw [List.length_map]
          have := List.length_filter_le (fun z : Int => decide (0 < z)) (L.take i)
          have := List.length_take_le' i L
          omega
        · rw [upd_same, filter_more hy (decide_eq_true c)]
      · rw [decide_eq_false c]
        refine iteF ⟨s5, ?_⟩
        rw [filter_less hy (fun z => c (of_decide_eq_true z))]
        exact h5
    · rintro H5 ⟨s5, h5⟩
      rw [List.length_map, List.take_length] at h5
      refine ⟨d, _, rfl, SqL.of h5, _, rfl, fun H6 v6 s6 f6 => ?_⟩
      exact k H6 v6 ((((s2.trans s3).trans s4).trans s5).trans s6) f6
def spBest (K : PySem.W.Frag) (g : Nat → Nat → Nat → Cells → Cells → Rat) (lo : Nat) : Sp := fun vs H Q _ => ∃ (kind : Nat) (a : Addr) (z : V) (c0 c1 : Cells) (u v : Nat), vs = [.int (kind : Int), .ref a, z] ∧ lo ≤ kind ∧ kind ≤ 3 ∧ GroupsAt K H a c0 c1 ∧ Full c0 c1 ∧ Pr K H z (u, v) ∧ u ≤ 100 ∧ v ≤ 100 ∧
  Gives H Q fun H' v' => Fr K H' v' (g kind u v c0 c1)
abbrev s_best_x : Stmt := top 45
theorem sc_best_x : FnScope ["kind", "groups", "pays", "marks", "best", "most", "mark", "gain"] ["kind", "groups", "pays"] (defScope s_best_x) := ⟨rfl, rfl, rfl, by decide +kernel, rfl, by decide +kernel, by decide +kernel⟩
theorem ok_best_x (D : DefAt K mg "best_x" s_best_x) (G_candidates : OkAt P w K mg base 9 "candidates" ["kind", "groups", "pays"] (spCand K candK)) (G_gained_at : OkAt P w K mg base 8 "gained_at" ["kind", "groups", "pays", "x"] (spGainAt K)) (G_less : OkAt P w K mg base 1 "less" ["first", "second"] (spLess K)) :
    OkAt P w K mg base 10 "best_x" ["kind", "groups", "pays"] (spBest K bestK 1) := by
  refine okAt_of D (fun _ _ _ _ _ _ us hl => match us, hl with | [_, _, _], _ => rfl) fun f fd F => ?_
  have nd := sc_best_x.nd
  refine F.ok sc_best_x (fun vs H Q E h => ?_) (fun cdv A outer s H vs Q E hr h => ?_)
  · obtain ⟨kind, a, z, c0, c1, u, v, rfl, _⟩ := h
    rfl
  · obtain ⟨kind, a, z, c0, c1, u, v, rfl, k1, k3, hg, full, hz, hu, hv, k⟩ := h
    refine ⟨_, (pss_cons (ps_set (i := 3) nd rfl (Or.inl rfl) (pe_callO G_candidates (hr.mono (by decide)) (by rfl) (pa_cons (pv 0) (pa_cons (pv 1) (pa_cons (pv 2) pa_nil))))) (pss_cons (ps_set (i := 4) nd rfl (Or.inl rfl) (pe_ix ix_list (pv 3) pe_int (fun _ _ => rfl))) (pss_cons (ps_set (i := 5) nd rfl (Or.inl rfl) (pe_callO G_gained_at (hr.mono (by decide)) (by rfl) (pa_cons (pv 0) (pa_cons (pv 1) (pa_cons (pv 2) (pa_cons (pv 4) pa_nil)))))) (pss_cons (ps_for PassesOwn.never rfl (pi_list (pv 3)) (pg_name (i := 6) nd rfl (Or.inl rfl)) (pss_cons (ps_set (i := 7) nd rfl (Or.inl rfl) (pe_callO G_gained_at (hr.mono (by decide)) (by rfl) (pa_cons (pv 0) (pa_cons (pv 1) (pa_cons (pv 2) (pa_cons (pv 6) pa_nil)))))) (pss_one (ps_if (pt_val (pe_callO G_less (hr.mono (by decide)) (by rfl) (pa_cons (pv 5) (pa_cons (pv 7) pa_nil)))) (pss_cons (ps_set (i := 4) nd rfl (Or.inl rfl) (pv 6)) (pss_one (ps_set (i := 5) nd rfl (Or.inl rfl) (pv 7)))) pss_nil)))) (pss_one (ps_ret (pv 4))))))), ?_⟩
    refine ⟨_, rfl, _, rfl, _, rfl, kind, a, z, c0, c1, u, v, rfl, k1, k3, hg, full, hz, hu, hv, fun H2 v2 s2 ⟨p2, e2, hp2⟩ => ?_⟩
    subst e2
    obtain ⟨vs, hvs, hf⟩ := hp2
    have hd := cand_head (kind := kind) (u := u) (v := v) full
    have inC : ∀ x ∈ candK kind u v c0 c1, 0 ≤ x ∧ x ≤ 1 ∧ Sz 400 x := fun x hx => cand_in full hx
    rw [bestK_eq] at k
    generalize candK kind u v c0 c1 = C at hf hd inC k
    have m0 : C[0]? = some 0 := by
      cases C with
      | nil => cases hd
      | cons y l => exact hd
    obtain ⟨v0, hv0, fv0⟩ := hf.at m0
    have ⟨z0, _, zs⟩ := inC 0 (List.mem_of_getElem? m0)
    refine ⟨_, rfl, p2, _, _, _, rfl, rfl, hvs, atI_nat (j := 0) hv0, ?_⟩
    refine ⟨_, rfl, _, rfl, _, rfl, _, rfl, kind, a, z, v0, c0, c1, u, v, 0, rfl, k1, k3, hg.same s2, full, hz.same s2, hu, hv, fv0, z0, zs, fun H3 v3 s3 f3 => ?_⟩
    refine ⟨_, rfl, p2, rfl, ⟨_, s3.seq hvs⟩, for_list (K := K) (a := p2) (xs := vs) (fun i σ H' => ∃ (vb vm : V) (x1 x2 : Option V), σ = [some (.int (kind : Int)), some (.ref a), some z, some (.ref p2), some vb, some vm, x1, x2] ∧ Same H2 H' ∧ ((C.take i).foldl (pick (gainK kind u v c0 c1)) 0) ∈ C ∧ Fr K H' vb ((C.take i).foldl (pick (gainK kind u v c0 c1)) 0) ∧ Fr K H' vm (gainK kind u v c0 c1 ((C.take i).foldl (pick (gainK kind u v c0 c1)) 0)))
      ⟨v0, v3, none, none, rfl, s3, List.mem_of_getElem? m0, fv0.same s3, f3⟩ (fun i σ H' _ ⟨_, _, _, _, _, s5, _⟩ => s5.seq hvs) ?_ ?_⟩
    · rintro i w' σ H' hx ⟨vb, vm, x1, x2, rfl, s5, mem, fb, fm⟩
      obtain ⟨x, hxi, fx⟩ := hf.get hx
      have ⟨x0, _, xs⟩ := inC x (List.mem_of_getElem? hxi)
      have ⟨b0, _, bs⟩ := inC _ mem
      have s25 := s2.trans s5
      refine ⟨_, rfl, _, rfl, _, rfl, _, rfl, kind, a, z, w', c0, c1, u, v, x, rfl, k1, k3, hg.same s25, full, hz.same s25, hu, hv, fx.same s5, x0, xs, fun H6 v6 s6 f6 => ?_⟩
      refine ⟨_, rfl, _, rfl, vm, v6, _, _, 4500, 4500, rfl, fm.same s6, f6, gain_sz full hu hv b0 bs, gain_sz full hu hv x0 xs, by decide, _, rfl, ?_⟩
      have more := best_more (g := gainK kind u v c0 c1) (b := 0) hxi
      have mem' := pick_mem (g := gainK kind u v c0 c1) mem (List.mem_of_getElem? hxi)
      by_cases c : gainK kind u v c0 c1 ((C.take i).foldl (pick (gainK kind u v c0 c1)) 0) < gainK kind u v c0 c1 x
      · rw [decide_eq_true c]
        have ep : pick (gainK kind u v c0 c1) ((C.take i).foldl (pick (gainK kind u v c0 c1)) 0) x = x := if_pos c
        rw [ep] at more mem'
        refine iteT ⟨_, rfl, _, rfl, w', v6, some w', some v6, rfl, s5.trans s6, ?_, ?_, ?_⟩
        · rw [more]; exact mem'
        · rw [more]; exact (fx.same s5).same s6
        · rw [more]; exact f6
      · rw [decide_eq_false c]
        have ep : pick (gainK kind u v c0 c1) ((C.take i).foldl (pick (gainK kind u v c0 c1)) 0) x = (C.take i).foldl (pick (gainK kind u v c0 c1)) 0 := if_neg c
        rw [ep] at more mem'
        refine iteF ⟨vb, vm, some w', some v6, rfl, s5.trans s6, ?_, ?_, ?_⟩
        · rw [more]; exact mem'
        · rw [more]; exact fb.same s6
        · rw [more]; exact fm.same s6
    · rintro σ H' ⟨vb, vm, x1, x2, rfl, s5, mem, fb, fm⟩
      rw [hf.1, List.take_length] at fb
      exact ⟨_, rfl, k H' vb (s2.trans s5) fb⟩
abbrev s_most_of : Stmt := top 46
theorem sc_most_of : FnScope ["kind", "groups", "pays"] ["kind", "groups", "pays"] (defScope s_most_of) := ⟨rfl, rfl, rfl, by decide +kernel, rfl, by decide +kernel, by decide +kernel⟩
theorem ok_most_of (D : DefAt K mg "most_of" s_most_of) (T : Kinds mg) (G_gained_freely : OkAt P w K mg base 2 "gained_freely" ["groups", "pays"] (spFree K)) (G_gained_at : OkAt P w K mg base 8 "gained_at" ["kind", "groups", "pays", "x"] (spGainAt K)) (G_best_x : OkAt P w K mg base 10 "best_x" ["kind", "groups", "pays"] (spBest K bestK 1)) :
    OkAt P w K mg base 11 "most_of" ["kind", "groups", "pays"] (spBest K mostK 0) := by
  refine okAt_of D (fun _ _ _ _ _ _ us hl => match us, hl with | [_, _, _], _ => rfl) fun f fd F => ?_
  have nd := sc_most_of.nd
  refine F.ok sc_most_of (fun vs H Q E h => ?_) (fun cdv A outer s H vs Q E hr h => ?_)
  · obtain ⟨kind, a, z, c0, c1, u, v, rfl, _⟩ := h
    rfl
  · obtain ⟨kind, a, z, c0, c1, u, v, rfl, k1, k3, hg, full, hz, hu, hv, k⟩ := h
    refine ⟨_, (pss_cons (ps_if (pt_cmpR op_eq (pv 0) (pe_gi T.FREELY (by rfl)) (nomark _)) (pss_one (ps_ret (pe_callO G_gained_freely (hr.mono (by decide)) (by rfl) (pa_cons (pv 1) (pa_cons (pv 2) pa_nil))))) pss_nil) (pss_one (ps_ret (pe_callO G_gained_at (hr.mono (by decide)) (by rfl) (pa_cons (pv 0) (pa_cons (pv 1) (pa_cons (pv 2) (pa_cons (pe_callO G_best_x (hr.mono (by decide)) (by rfl) (pa_cons (pv 0) (pa_cons (pv 1) (pa_cons (pv 2) pa_nil)))) pa_nil)))))))), ?_⟩
    refine ⟨_, rfl, rfl, _, rfl, ?_⟩
    rw [kd]
    by_cases e0 : kind = 0
    · subst e0
      refine iteT ?_
      exact ⟨_, rfl, _, rfl, a, z, c0, c1, u, v, rfl, hg, full.ok0.len, full.ok1.len, hz, hu, hv, k⟩
    · rw [decide_eq_false (by omega)]
      refine iteF ?_
      refine ⟨_, rfl, _, rfl, _, rfl, _, rfl, _, rfl, _, rfl, kind, a, z, c0, c1, u, v, rfl, by omega, k3, hg, full, hz, hu, hv, fun H2 v2 s2 f2 => ?_⟩
      have ⟨b0, _, bs⟩ := cand_in full (best_cand (kind := kind) (u := u) (v := v) full)
      refine ⟨kind, a, z, v2, c0, c1, u, v, _, rfl, by omega, k3, hg.same s2, full, hz.same s2, hu, hv, f2, b0, bs, fun H3 v3 s3 f3 => ?_⟩
      refine k H3 v3 (s2.trans s3) ?_
      unfold mostK
      rw [if_neg e0]
      exact f3
abbrev s_part_of : Stmt := top 47
theorem sc_part_of : FnScope ["kind", "groups", "pays", "x"] ["kind", "groups", "pays"] (defScope s_part_of) := ⟨rfl, rfl, rfl, by decide +kernel, rfl, by decide +kernel, by decide +kernel⟩
theorem ok_part_of (D : DefAt K mg "part_of" s_part_of) (T : Kinds mg) (G_right_in_both : OkAt P w K mg base 7 "right_in_both" ["groups", "pays", "x"] (spRB K leastK)) (G_best_x : OkAt P w K mg base 10 "best_x" ["kind", "groups", "pays"] (spBest K bestK 1)) :
    OkAt P w K mg base 11 "part_of" ["kind", "groups", "pays"] (spBest K partK 1) := by
  refine okAt_of D (fun _ _ _ _ _ _ us hl => match us, hl with | [_, _, _], _ => rfl) fun f fd F => ?_
  have nd := sc_part_of.nd
  refine F.ok sc_part_of (fun vs H Q E h => ?_) (fun cdv A outer s H vs Q E hr h => ?_)
  · obtain ⟨kind, a, z, c0, c1, u, v, rfl, _⟩ := h
    rfl
  · obtain ⟨kind, a, z, c0, c1, u, v, rfl, k1, k3, hg, full, hz, hu, hv, k⟩ := h
    refine ⟨_, (pss_cons (ps_set (i := 3) nd rfl (Or.inl rfl) (pe_callO G_best_x (hr.mono (by decide)) (by rfl) (pa_cons (pv 0) (pa_cons (pv 1) (pa_cons (pv 2) pa_nil))))) (pss_cons (ps_if (pt_cmpR op_eq (pv 0) (pe_gi T.SAME_BOTH (by rfl)) (nomark _)) (pss_one (ps_ret (pe_callO G_right_in_both (hr.mono (by decide)) (by rfl) (pa_cons (pv 1) (pa_cons (pv 2) (pa_cons (pv 3) pa_nil)))))) pss_nil) (pss_one (ps_ret (pv 3))))), ?_⟩
    refine ⟨_, rfl, _, rfl, _, rfl, kind, a, z, c0, c1, u, v, rfl, k1, k3, hg, full, hz, hu, hv, fun H2 v2 s2 f2 => ?_⟩
    have ⟨b0, _, bs⟩ := cand_in full (best_cand (kind := kind) (u := u) (v := v) full)
    refine ⟨_, rfl, rfl, _, rfl, ?_⟩
    rw [kd]
    by_cases e3 : kind = 3
    · subst e3
      refine iteT ?_
      refine ⟨_, rfl, _, rfl, _, rfl, a, z, v2, c0, c1, u, v, _, 400, rfl, hg.same s2, full, hz.same s2, hu, hv, f2, b0, bs, by decide, fun H3 v3 s3 f3 => ?_⟩
      exact k H3 v3 (s2.trans s3) f3
    · rw [decide_eq_false (by omega)]
      refine iteF ⟨_, rfl, k H2 v2 s2 ?_⟩
      unfold partK
      rw [if_neg e3]
      exact f2
end
end My
namespace My
open PySem PySem.Spec PyProof.Rows L2
/-! ## methods by their promise -/
structure MOkAt (P : Program) (w : World) (K : PySem.W.Frag) (mg : Str → Option Value) (base : Heap) (C : Addr) (k : Nat) (m : Str) (ps : List Str) (sp : Sp) : Prop where
  ex : ∃ (f : Addr) (fd : FuncData), Meth K C m f ∧ Binds K fd ps [] ∧ FnOk P w K mg base CX0 k f fd ps sp
structure MDefAt (K : PySem.W.Frag) (C : Addr) (m qual : Str) (st : Stmt) : Prop where
  ex : ∃ (f : Addr) (fd : FuncData), Fun K m qual st f fd ∧ Meth K C m f
theorem mdefAt_mk {K : PySem.W.Frag} {C : Addr} {m qual : Str} {st : Stmt} {f : Addr} {oc : Value} {od an : Option Addr} {osl : Array (Option Value)} {kV doc pm cdv ct : Value} (a : PySem.W.findIn K (.ref C) m = some (some (.ref f))) (i : PySem.W.isFn K (.ref f) = true)
    (l : K.lookup f = some ⟨oc, od, .func (PySem.W.fnOf m qual (defArgs st) (defBody st) (defScope st) .none kV doc pm an cdv ct), osl⟩) (c : PySem.W.codeIn K cdv qual = true) (k : PySem.W.keepIn K (.ref f) = true) : MDefAt K C m qual st := ⟨⟨f, _, fun_mk l c k, ⟨a, i, k⟩⟩⟩
section
variable {P : Program} {w : World} {K : PySem.W.Frag} {mg : Str → Option Value} {base : Heap} {C : Addr}
theorem mokAt_of {m qual : Str} {st : Stmt} {ps : List Str} {k : Nat} {sp : Sp} (D : MDefAt K C m qual st) (hb : ∀ (kV doc pm : Value) (an : Option Addr) (cdv ct : Value) (us : List Value), us.length = ps.length → bindArgs (PySem.W.fnOf m qual (defArgs st) (defBody st) (defScope st) .none kV doc pm an cdv ct) ⟨us, []⟩ = pure (ps.zip us))
    (h : ∀ f fd, Fun K m qual st f fd → FnOk P w K mg base CX0 k f fd ps sp) : MOkAt P w K mg base C k m ps sp := by
  obtain ⟨f, fd, F, mm⟩ := D.ex
  exact ⟨f, fd, mm, F.binds hb, h f fd F⟩
end
section
variable {X : Cx} {k : Nat} {C : Addr} {ps : List Str} {sp : Sp} {m x : Str} {p pos apos : Pos} {o e : Expr} {es : List Expr} {ta : TE} {t : TA} {pl : Sem Bool}
def tMethO (C : Addr) (m : Str) (sp : Sp) (ta : TE) (t : TA) : TE := fun σ H Q => ta σ H fun x H1 => ∃ a dx fs, x = .ref a ∧ H1 a = some (.ins C dx fs) ∧ fs.lookup m = none ∧ t σ H1 fun vs H2 => sp (x :: vs) H2 Q E0
theorem pe_methO (G : MOkAt X.prog X.w X.K X.mg X.base C k m ps sp) (hr : Room k X.A) (c : Cls X.K C) (he : PE X o ta) (ha : PA X (e :: es) t)
    (hst : starEach (e :: es) X.env = (false, eval e X.env) :: starEach es X.env := by rfl) (hpl : (backTo pos (starEach es X.env)).any (·.1) = false := by rfl)
    (ht : eval (.Call (.Attribute o m apos) (e :: es) [] pos) X.env = (do
      let ov ← eval o X.env
      standAt apos.atName
      let (g, first) ← holding [ov] (getMethod ov m pl)
      callWith pos g first (backTo pos (starEach (e :: es) X.env)) (backToKw pos (keywordEach [] X.env))) := by rfl) :
    PE X (.Call (.Attribute o m apos) (e :: es) [] pos) (tMethO C m sp ta t) := by
  obtain ⟨f, fd, hm, hb, F⟩ := G.ex
  have h := pe_meth (pl := pl) he c hm F hr hb .nil pass0 ha hst hpl ht
  have e0 : tMeth C m sp [] E0 ta t = tMethO C m sp ta t := by
    funext σ H Q
    unfold tMeth tMethO
    simp only [List.append_nil]
  rw [← e0]
  exact h
/-- C(): the class makes an instance by its __init__ -/
structure MkAt (P : Program) (w : World) (K : PySem.W.Frag) (mg : Str → Option Value) (base : Heap) (C : Addr) (k : Nat) (sp : Sp) : Prop where
  ex : ∃ (f : Addr) (fd : FuncData), Mk K C f ∧ Binds K fd ["self"] [] ∧ FnOk P w K mg base CX0 k f fd ["self"] sp
def tMakeO (C : Addr) (sp : Sp) : TE := fun σ H Q => ∀ x dx, H x = none → H dx = none → dx ≠ x → sp [.ref x] (upd (upd H dx (.own x)) x (.ins C dx [])) (fun v H2 => v = .non ∧ Q (.ref x) H2) E0
theorem pe_makeO (G : MkAt X.prog X.w X.K X.mg X.base C k sp) (hr : Room (k + 1) X.A) (hg : Gl X x) (hm : X.mg x = some (.ref C)) (hdb : (x == ("__debug__" : Str)) = false := by decide) : PE X (.Call (.Name x p) [] [] pos) (tMakeO C sp) := by
  obtain ⟨f, fd, M, hb, F⟩ := G.ex
  exact pe_make0 M F hr hg hm hb .nil pass0 hdb
end
/-! ## the state -/
structure Pm where
  k : Nat
  c0 : Cells
  c1 : Cells
  q0 : List Rat
  q1 : List Rat
  u : Nat
  v : Nat
structure Pm.Ok (m : Pm) : Prop where
  k4 : m.k ≤ 4
  l0 : m.c0.length = m.k
  l1 : m.c1.length = m.k
  ok0 : CsOk m.c0
  ok1 : CsOk m.c1
  n0 : m.q0.length = m.k
  n1 : m.q1.length = m.k
  z0 : ∀ q ∈ m.q0, Sz 1900 q
  z1 : ∀ q ∈ m.q1, Sz 1900 q
  hu : m.u ≤ 100
  hv : m.v ≤ 100
def fresh (k : Nat) : Pm := ⟨k, List.replicate k (0, 0), List.replicate k (0, 0), zeros k, zeros k, 1, 1⟩
def Pm.tab (m : Pm) : Krdf.Table := ⟨m.k, [m.c0, m.c1], List.replicate 2 (List.replicate m.k false)⟩
def Pm.desk (m : Pm) : Krdi.Desk := ⟨m.tab, ⟨m.u, m.v⟩, [m.q0, m.q1]⟩
def Pm.abs (m : Pm) : Krdi.Abs := if m.k = 0 then none else some m.desk
theorem Pm.Ok.tabOk {m : Pm} (h : m.Ok) : Tab m.tab m.c0 m.c1 := ⟨rfl, h.l0, h.l1⟩
theorem csOk_nil {n : Nat} (h : n ≤ 4) : CsOk (List.replicate n (0, 0)) := ⟨by rw [List.length_replicate]; exact h, fun c hc => by
  rw [List.eq_of_mem_replicate hc]
  exact ⟨by decide, by decide⟩⟩
theorem fresh_ok {k : Nat} (h : k ≤ 4) : (fresh k).Ok := ⟨h, List.length_replicate, List.length_replicate, csOk_nil h, csOk_nil h, List.length_replicate, List.length_replicate, fun q hq => by rw [mem_zeros hq]; exact Sz.zero (by decide), fun q hq => by rw [mem_zeros hq]; exact Sz.zero (by decide), by show 1 ≤ 100; decide, by show 1 ≤ 100; decide⟩
def flds (k : Nat) (lg lq : Addr) (pz : V) : List (Str × V) := [("scores", .int (k : Int)), ("groups", .ref lg), ("chances", .ref lq), ("pays", pz)]
/-- where the object's parts lie -/
structure Lay (K : PySem.W.Frag) (C : Addr) (H : Hp) (a : Addr) (m : Pm) (dx lg lq g0 g1 b0 b1 : Addr) (pz : V) : Prop where
  ins : H a = some (.ins C dx (flds m.k lg lq pz))
  pay : Pr K H pz (m.u, m.v)
  hlg : H lg = some (.lst [.ref g0, .ref g1])
  hlq : H lq = some (.lst [.ref b0, .ref b1])
  hg0 : CellsT K H g0 m.c0
  hg1 : CellsT K H g1 m.c1
  hb0 : FrsT K H b0 m.q0
  hb1 : FrsT K H b1 m.q1
  nd : [lg, lq, g0, g1, b0, b1].Nodup
def PAt (K : PySem.W.Frag) (C : Addr) (H : Hp) (a : Addr) (m : Pm) : Prop := ∃ dx lg lq g0 g1 b0 b1 pz, Lay K C H a m dx lg lq g0 g1 b0 b1 pz
theorem Lay.same {K : PySem.W.Frag} {C : Addr} {H H' : Hp} {a : Addr} {m : Pm} {dx lg lq g0 g1 b0 b1 : Addr} {pz : V} (h : Lay K C H a m dx lg lq g0 g1 b0 b1 pz) (e : Same H H') : Lay K C H' a m dx lg lq g0 g1 b0 b1 pz :=
  ⟨e _ _ h.ins, h.pay.same e, e _ _ h.hlg, e _ _ h.hlq, h.hg0.same e, h.hg1.same e, h.hb0.same e, h.hb1.same e, h.nd⟩
theorem PAt.same {K : PySem.W.Frag} {C : Addr} {H H' : Hp} {a : Addr} {m : Pm} (h : PAt K C H a m) (e : Same H H') : PAt K C H' a m := by
  obtain ⟨dx, lg, lq, g0, g1, b0, b1, pz, h⟩ := h
  exact ⟨dx, lg, lq, g0, g1, b0, b1, pz, h.same e⟩
theorem Lay.groups {K : PySem.W.Frag} {C : Addr} {H : Hp} {a : Addr} {m : Pm} {dx lg lq g0 g1 b0 b1 : Addr} {pz : V} (h : Lay K C H a m dx lg lq g0 g1 b0 b1 pz) : GroupsAt K H lg m.c0 m.c1 := ⟨g0, g1, SqL.of h.hlg, h.hg0.cells, h.hg1.cells⟩
structure ClsT (K : PySem.W.Frag) (mg : Str → Option Value) (C : Addr) : Prop where
  cl : Cls K C
  nS : NoAttr K C "scores"
  nG : NoAttr K C "groups"
  nC : NoAttr K C "chances"
  nP : NoAttr K C "pays"
  gPeople : mg "People" = some (.ref C)
theorem flds_scores {k : Nat} {lg lq : Addr} {pz : V} : (flds k lg lq pz).lookup ("scores" : Str) = some (.int (k : Int)) := by
  unfold flds
  rw [List.lookup_cons_self]
theorem lk_past {k g : Str} {v : V} {r : List (Str × V)} (h : (k == g) = false) : List.lookup k ((g, v) :: r) = List.lookup k r := by
  rw [List.lookup_cons, h]
theorem flds_groups {k : Nat} {lg lq : Addr} {pz : V} : (flds k lg lq pz).lookup ("groups" : Str) = some (.ref lg) := by
  unfold flds
  rw [lk_past (by decide +kernel), List.lookup_cons_self]
theorem flds_chances {k : Nat} {lg lq : Addr} {pz : V} : (flds k lg lq pz).lookup ("chances" : Str) = some (.ref lq) := by
  unfold flds
  rw [lk_past (by decide +kernel), lk_past (by decide +kernel), List.lookup_cons_self]
theorem flds_pays {k : Nat} {lg lq : Addr} {pz : V} : (flds k lg lq pz).lookup ("pays" : Str) = some pz := by
  unfold flds
  rw [lk_past (by decide +kernel), lk_past (by decide +kernel), lk_past (by decide +kernel), List.lookup_cons_self]
theorem flds_begin {k : Nat} {lg lq : Addr} {pz : V} : (flds k lg lq pz).lookup ("begin" : Str) = none := by
  unfold flds
  rw [lk_past (by decide +kernel), lk_past (by decide +kernel), lk_past (by decide +kernel), lk_past (by decide +kernel)]
  rfl
theorem flds_len {k : Nat} {lg lq : Addr} {pz : V} : (flds k lg lq pz).length < 1000 := by
  show 4 < 1000
  decide
theorem put_here {f : Str} {v x : V} {r : List (Str × V)} : putF f v ((f, x) :: r) = (f, v) :: r := if_pos rfl
theorem put_past {f g : Str} {v x : V} {r : List (Str × V)} (h : ¬ g = f) : putF f v ((g, x) :: r) = (g, x) :: putF f v r := if_neg h
theorem put_pays {k : Nat} {lg lq : Addr} {pz z : V} : putF "pays" z (flds k lg lq pz) = flds k lg lq z := by
  unfold flds
  rw [put_past (by decide +kernel), put_past (by decide +kernel), put_past (by decide +kernel), put_here]
theorem put_chances {k : Nat} {lg lq l : Addr} {pz : V} : putF "chances" (.ref l) (flds k lg lq pz) = flds k lg l pz := by
  unfold flds
  rw [put_past (by decide +kernel), put_past (by decide +kernel), put_here]
/-- what begin does to the attributes, new or old -/
def OldF (fs : List (Str × V)) : Prop := fs = [] ∨ ∃ k lg lq pz, fs = flds k lg lq pz
theorem put_all {fs : List (Str × V)} (h : OldF fs) (k : Nat) (lg lq : Addr) (pz : V) : putF "pays" pz (putF "chances" (.ref lq) (putF "groups" (.ref lg) (putF "scores" (.int (k : Int)) fs))) = flds k lg lq pz := by
  have a1 : ¬ (("scores" : Str) = "groups") := by decide +kernel
  have a2 : ¬ (("scores" : Str) = "chances") := by decide +kernel
  have a3 : ¬ (("scores" : Str) = "pays") := by decide +kernel
  have b2 : ¬ (("groups" : Str) = "chances") := by decide +kernel
  have b3 : ¬ (("groups" : Str) = "pays") := by decide +kernel
  have c3 : ¬ (("chances" : Str) = "pays") := by decide +kernel
  rcases h with rfl | ⟨k', lg', lq', pz', rfl⟩
  · unfold flds
    simp only [putF, a1, a2, a3, b2, b3, c3, if_false]
  · unfold flds
    simp only [putF, a1, a2, a3, b2, b3, c3, if_false, if_true]
theorem put_len {f : Str} {v : V} : ∀ fs : List (Str × V), (putF f v fs).length ≤ fs.length + 1
  | [] => Nat.le_refl _
  | (g, x) :: r => by
    unfold putF
    split
    · simp
    · have := put_len (f := f) (v := v) r
      rw [List.length_cons, List.length_cons]
      omega
theorem OldF.len {fs : List (Str × V)} (h : OldF fs) : fs.length ≤ 4 := by
  rcases h with rfl | ⟨k', lg', lq', pz', rfl⟩
  · exact Nat.zero_le _
  · exact Nat.le_refl _
end My
namespace My
open PySem PySem.Spec PyProof.Rows L2
section
variable {P : Program} {w : World} {K : PySem.W.Frag} {mg : Str → Option Value} {base : Heap} {C : Addr}
/-! ## People.begin, People.__init__ -/
/-- [(0, 0) for score in range(scores)] -/
theorem comp_cells {σ : L2.St} {H : Hp} {Q : VK} {k : Nat} (hk : k ≤ 4) (hs : σ[1]? = some (some (.int (k : Int)))) (hl : σ.length = 3) (h : ∀ d H', H d = none → Same H H' → CellsT K H' d (List.replicate k (0, 0)) → Q (.ref d) H') :
    tLc (iRng1 (tCons (tVar 1) tNil)) (gName 2) tYes (tTup (tCons (tC (.int 0)) (tCons (tC (.int 0)) tNil))) [2] σ H Q := by
  obtain ⟨s0, s1, s2, rfl⟩ : ∃ s0 s1 s2, σ = [s0, s1, s2] := by
    match σ, hl with
    | [a, b, c], _ => exact ⟨a, b, c, rfl⟩
  refine ⟨_, hs, ((k : Nat) : Int), rfl, by omega, by omega, fun d hd => ?_⟩
  have ek : ((k : Nat) : Int).toNat = k := by omega
  rw [ek]
  refine lc_range (lo := 0) (n := k) (fun i H' => Same H H' ∧ CellsT K H' d (List.replicate i (0, 0)) ∧ i ≤ k) ⟨Same.new hd, ⟨[], upd_same, LsOf.nil⟩, Nat.zero_le _⟩ ?_ ?_
  · rintro i H' hi ⟨s5, ⟨vs, h5, f5⟩, _⟩
    refine ⟨rfl, lc_yes ?_⟩
    refine ⟨two_le, fun t ht => ?_⟩
    have s6 : Same H' (upd H' t (.tup [.int 0, .int 0])) := Same.new ht
    have h6 := s6 _ _ h5
    have l5 := f5.1
    rw [List.length_replicate] at l5
    have pk : ∀ v c, Pr K (upd H' t (.tup [.int 0, .int 0])) v c → Pr K (upd (upd H' t (.tup [.int 0, .int 0])) d (.lst (vs ++ [.ref t]))) v c := fun v c ⟨y, e, hy⟩ => by
      subst e
      refine ⟨y, rfl, ?_⟩
      rcases hy with (h | ⟨o, h⟩) | h
      · exact .inl (.inl (by rw [upd_ne (ne_of h h6 (by intro z; cases z))]; exact h))
      · exact .inl (.inr ⟨o, by rw [upd_ne (ne_of h h6 (by intro z; cases z))]; exact h⟩)
      · exact .inr h
    refine ⟨_, h6, lt_line (by omega), made_same hd (s5.trans s6), ⟨vs ++ [.ref t], upd_same, ?_⟩, hi⟩
    rw [List.replicate_succ']
    exact (f5.imp fun v c f => pk v c (f.same s6)).snoc (pk _ _ ⟨t, rfl, SqT.of upd_same⟩)
  · rintro H' ⟨s5, c5, _⟩
    exact h d H' hd s5 c5
/-- [ZERO for score in range(scores)] -/
theorem comp_zeros {σ : L2.St} {H : Hp} {Q : VK} {k : Nat} (hk : k ≤ 4) (hs : σ[1]? = some (some (.int (k : Int)))) (hl : σ.length = 3) (h : ∀ d H', H d = none → Same H H' → FrsT K H' d (zeros k) → Q (.ref d) H') :
    tLc (iRng1 (tCons (tVar 1) tNil)) (gName 2) tYes (tGT K [.int 0, .int 1]) [2] σ H Q := by
  obtain ⟨s0, s1, s2, rfl⟩ : ∃ s0 s1 s2, σ = [s0, s1, s2] := by
    match σ, hl with
    | [a, b, c], _ => exact ⟨a, b, c, rfl⟩
  refine ⟨_, hs, ((k : Nat) : Int), rfl, by omega, by omega, fun d hd => ?_⟩
  have ek : ((k : Nat) : Int).toNat = k := by omega
  rw [ek]
  refine lc_range (lo := 0) (n := k) (fun i H' => Same H H' ∧ FrsT K H' d (zeros i) ∧ i ≤ k) ⟨Same.new hd, ⟨[], upd_same, LsOf.nil⟩, Nat.zero_le _⟩ ?_ ?_
  · rintro i H' hi ⟨s5, ⟨vs, h5, f5⟩, _⟩
    refine ⟨rfl, lc_yes ?_⟩
    intro z hz
    have l5 := f5.1
    unfold zeros at l5
    rw [List.length_replicate] at l5
    refine ⟨_, h5, lt_line (by omega), made_same hd s5, ⟨vs ++ [.ref z], upd_same, ?_⟩, hi⟩
    rw [← zeros_more]
    exact (f5.imp fun v c f => f.put h5).snoc ⟨z, rfl, hz _⟩
  · rintro H' ⟨s5, c5, _⟩
    exact h d H' hd s5 c5
/-- all but the object itself stays -/
def But (a : Addr) (H H' : Hp) : Prop := ∀ b o, H b = some o → b ≠ a → H' b = some o
def PAtF (K : PySem.W.Frag) (C : Addr) (H : Hp) (a : Addr) (m : Pm) (fp : List Addr) : Prop := ∃ dx lg lq g0 g1 b0 b1 pz, fp = [a, lg, lq, g0, g1, b0, b1] ∧ Lay K C H a m dx lg lq g0 g1 b0 b1 pz
def spBeginM (K : PySem.W.Frag) (C : Addr) : Sp := fun vs H Q _ => ∃ (a dx : Addr) (fs : List (Str × V)) (k : Nat), vs = [.ref a, .int (k : Int)] ∧ k ≤ 4 ∧ H a = some (.ins C dx fs) ∧ OldF fs ∧
  ∀ H' fp, PAtF K C H' a (fresh k) fp → (∀ b ∈ fp, b = a ∨ H b = none) → But a H H' → Q .non H'
theorem But.cells {a : Addr} {H H' : Hp} {d : Addr} {cs : Cells} {C dx : Addr} {fs : List (Str × V)} (b : But a H H') (ha : H a = some (.ins C dx fs)) (h : CellsT K H d cs) : CellsT K H' d cs := by
  obtain ⟨vs, h1, h2⟩ := h
  refine ⟨vs, b _ _ h1 (ne_of h1 ha (by intro z; cases z)), h2.imp fun v c ⟨y, e, hy⟩ => ?_⟩
  subst e
  refine ⟨y, rfl, ?_⟩
  rcases hy with (h | ⟨o, h⟩) | h
  · exact .inl (.inl (b _ _ h (ne_of h ha (by intro z; cases z))))
  · exact .inl (.inr ⟨o, b _ _ h (ne_of h ha (by intro z; cases z))⟩)
  · exact .inr h
theorem But.frs {a : Addr} {H H' : Hp} {d : Addr} {qs : List Rat} {C dx : Addr} {fs : List (Str × V)} (b : But a H H') (ha : H a = some (.ins C dx fs)) (h : FrsT K H d qs) : FrsT K H' d qs := by
  obtain ⟨vs, h1, h2⟩ := h
  refine ⟨vs, b _ _ h1 (ne_of h1 ha (by intro z; cases z)), h2.imp fun v c ⟨y, e, hy⟩ => ?_⟩
  subst e
  refine ⟨y, rfl, ?_⟩
  rcases hy with (h | ⟨o, h⟩) | h
  · exact .inl (.inl (b _ _ h (ne_of h ha (by intro z; cases z))))
  · exact .inl (.inr ⟨o, b _ _ h (ne_of h ha (by intro z; cases z))⟩)
  · exact .inr h
theorem But.put {a : Addr} {H : Hp} {o : HO} : But a H (upd H a o) := fun b u e ne => by rw [upd_ne ne]; exact e
theorem But.trans {a : Addr} {H H1 H2 : Hp} (x : But a H H1) (y : But a H1 H2) : But a H H2 := fun b o e ne => y b o (x b o e ne) ne
theorem But.of {a : Addr} {H H' : Hp} (s : Same H H') : But a H H' := fun b o e _ => s b o e
theorem But.free {a : Addr} {H H' : Hp} (b : But a H H') {l : Addr} (ne : l ≠ a) (h : H' l = none) : H l = none := by
  cases q : H l with
  | none => rfl
  | some o =>
    rw [b l o q ne] at h
    cases h
abbrev s_People_begin : Stmt := inClass (top 15) 1
theorem sc_People_begin : FnScope ["self", "scores", "score"] ["self", "scores"] (defScope s_People_begin) := ⟨rfl, rfl, rfl, by decide +kernel, rfl, by decide +kernel, by decide +kernel⟩
theorem ok_People_begin (D : MDefAt K C "begin" "People.begin" s_People_begin) (B : Blt mg) (T1 : Con1 K mg) (T0 : ClsT K mg C) : MOkAt P w K mg base C 1 "begin" ["self", "scores"] (spBeginM K C) := by
  refine mokAt_of D (fun _ _ _ _ _ _ us hl => match us, hl with | [_, _], _ => rfl) fun f fd F => ?_
  have nd := sc_People_begin.nd
  refine F.ok sc_People_begin (fun vs H Q E h => ?_) (fun cdv A outer s H vs Q E hr h => ?_)
  · obtain ⟨a, dx, fs, k, rfl, _⟩ := h
    rfl
  · obtain ⟨a, dx, fs, k, rfl, hk, ha, old, kk⟩ := h
    have T := T1
    refine ⟨_, (pss_cons (ps_fld (pv 0) (pv 1) rfl) (pss_cons (ps_fld (pv 0) (pe_lst (pa_cons (pe_lc (own := [("score", 2)]) (g := (gName 2)) (te := (tTup (tCons (tC (.int 0)) (tCons (tC (.int 0)) tNil)))) (tt := tYes) (by rfl) nd (pi_range1 (by rfl) B.range (pa_cons (pv 1) pa_nil)) (blkOk_by (own := [("score", 2)]) (N := ["self", "scores", "score"]) (sc := defScope s_People_begin) (by decide +kernel)) (fun _ _ _ _ _ => (pg_name (i := 2) nd rfl (Or.inl rfl))) (fun _ _ _ _ _ => pts_nil) (fun _ _ _ _ _ => (pe_tup (pa_cons pe_int (pa_cons pe_int pa_nil))))) (pa_cons (pe_lc (own := [("score", 2)]) (g := (gName 2)) (te := (tTup (tCons (tC (.int 0)) (tCons (tC (.int 0)) tNil)))) (tt := tYes) (by rfl) nd (pi_range1 (by rfl) B.range (pa_cons (pv 1) pa_nil)) (blkOk_by (own := [("score", 2)]) (N := ["self", "scores", "score"]) (sc := defScope s_People_begin) (by decide +kernel)) (fun _ _ _ _ _ => (pg_name (i := 2) nd rfl (Or.inl rfl))) (fun _ _ _ _ _ => pts_nil) (fun _ _ _ _ _ => (pe_tup (pa_cons pe_int (pa_cons pe_int pa_nil))))) pa_nil))) rfl) (pss_cons (ps_fld (pv 0) (pe_lst (pa_cons (pe_lc (own := [("score", 2)]) (g := (gName 2)) (te := (tGT K [.int 0, .int 1])) (tt := tYes) (by rfl) nd (pi_range1 (by rfl) B.range (pa_cons (pv 1) pa_nil)) (blkOk_by (own := [("score", 2)]) (N := ["self", "scores", "score"]) (sc := defScope s_People_begin) (by decide +kernel)) (fun _ _ _ _ _ => (pg_name (i := 2) nd rfl (Or.inl rfl))) (fun _ _ _ _ _ => pts_nil) (fun _ _ _ _ _ => (pe_gt T.ZERO (by rfl)))) (pa_cons (pe_lc (own := [("score", 2)]) (g := (gName 2)) (te := (tGT K [.int 0, .int 1])) (tt := tYes) (by rfl) nd (pi_range1 (by rfl) B.range (pa_cons (pv 1) pa_nil)) (blkOk_by (own := [("score", 2)]) (N := ["self", "scores", "score"]) (sc := defScope s_People_begin) (by decide +kernel)) (fun _ _ _ _ _ => (pg_name (i := 2) nd rfl (Or.inl rfl))) (fun _ _ _ _ _ => pts_nil) (fun _ _ _ _ _ => (pe_gt T.ZERO (by rfl)))) pa_nil))) rfl) (pss_one (ps_fld (pv 0) (pe_tup (pa_cons pe_int (pa_cons pe_int pa_nil))) rfl))))), ?_⟩
    have ol := old.len
    -- self.scores = scores
    refine ⟨_, rfl, _, rfl, a, C, dx, fs, rfl, ha, T0.cl, T0.nS, by omega, ?_⟩
    have a1 : upd H a (.ins C dx (putF "scores" (.int (k : Int)) fs)) a = some (.ins C dx (putF "scores" (.int (k : Int)) fs)) := upd_same
    have B1 : But a H (upd H a (.ins C dx (putF "scores" (.int (k : Int)) fs))) := But.put
    have p1 := put_len (f := "scores") (v := .int (k : Int)) fs
    generalize upd H a (.ins C dx (putF "scores" (.int (k : Int)) fs)) = H1 at a1 B1
    -- self.groups = [.., ..]
    try dsimp only [tSeq, sFld, tLst, tCons]
    refine comp_cells (K := K) (k := k) hk (by rfl) (by rfl) fun g0 H2 n2 s2 c2 => ?_
    try dsimp only [tSeq, sFld, tLst, tCons]
    refine comp_cells (K := K) (k := k) hk (by rfl) (by rfl) fun g1 H3 n3 s3 c3 => ?_
    refine ⟨by show 2 ≤ sizeLine; decide, fun lg nlg => ?_⟩
    have s4 : Same H3 (upd H3 lg (.lst [.ref g0, .ref g1])) := Same.new nlg
    have s14 : Same H1 (upd H3 lg (.lst [.ref g0, .ref g1])) := (s2.trans s3).trans s4
    refine ⟨_, rfl, a, C, dx, _, rfl, s14 _ _ a1, T0.cl, T0.nG, by omega, ?_⟩
    have p2 := put_len (f := "groups") (v := .ref lg) (putF "scores" (.int (k : Int)) fs)
    have hlg4 : upd H3 lg (.lst [.ref g0, .ref g1]) lg = some (.lst [.ref g0, .ref g1]) := upd_same
    have cg0 := (c2.same s3).same s4
    have cg1 := c3.same s4
    have n_g1 : H1 g1 = none := s2.free n3
    have n_lg : H1 lg = none := (s2.trans s3).free nlg
    have d01 : g0 ≠ g1 := by obtain ⟨vs, h, _⟩ := c2; exact ne_of_none h n3
    have d0l : g0 ≠ lg := by obtain ⟨vs, h, _⟩ := c2.same s3; exact ne_of_none h nlg
    have d1l : g1 ≠ lg := by obtain ⟨vs, h, _⟩ := c3; exact ne_of_none h nlg
    have nea : ∀ x, H1 x = none → x ≠ a := fun x hx e => by
      rw [e, a1] at hx
      cases hx
    have B4 : But a H1 (upd H3 lg (.lst [.ref g0, .ref g1])) := But.of s14
    have a4 := s14 _ _ a1
    generalize upd H3 lg (.lst [.ref g0, .ref g1]) = H4 at hlg4 cg0 cg1 B4 a4 s14
    have a5 : upd H4 a (.ins C dx (putF "groups" (.ref lg) (putF "scores" (.int (k : Int)) fs))) a = some (.ins C dx (putF "groups" (.ref lg) (putF "scores" (.int (k : Int)) fs))) := upd_same
    have B5 : But a H4 (upd H4 a (.ins C dx (putF "groups" (.ref lg) (putF "scores" (.int (k : Int)) fs)))) := But.put
    have hlg5 := B5 _ _ hlg4 (nea _ n_lg)
    have cg05 := B5.cells a4 cg0
    have cg15 := B5.cells a4 cg1
    generalize upd H4 a (.ins C dx (putF "groups" (.ref lg) (putF "scores" (.int (k : Int)) fs))) = H5 at a5 B5 hlg5 cg05 cg15
    -- self.chances = [.., ..]
    try dsimp only [tSeq, sFld, tLst, tCons]
    refine comp_zeros (K := K) (k := k) hk (by rfl) (by rfl) fun b0 H6 n6 s6 f6 => ?_
    try dsimp only [tSeq, sFld, tLst, tCons]
    refine comp_zeros (K := K) (k := k) hk (by rfl) (by rfl) fun b1 H7 n7 s7 f7 => ?_
    refine ⟨by show 2 ≤ sizeLine; decide, fun lq nlq => ?_⟩
    have s8 : Same H7 (upd H7 lq (.lst [.ref b0, .ref b1])) := Same.new nlq
    have s58 : Same H5 (upd H7 lq (.lst [.ref b0, .ref b1])) := (s6.trans s7).trans s8
    refine ⟨_, rfl, a, C, dx, _, rfl, s58 _ _ a5, T0.cl, T0.nC, by omega, ?_⟩
    have p3 := put_len (f := "chances") (v := .ref lq) (putF "groups" (.ref lg) (putF "scores" (.int (k : Int)) fs))
    have hlq8 : upd H7 lq (.lst [.ref b0, .ref b1]) lq = some (.lst [.ref b0, .ref b1]) := upd_same
    have fb0 := (f6.same s7).same s8
    have fb1 := f7.same s8
    have n_b0 : H5 b0 = none := n6
    have n_b1 : H5 b1 = none := s6.free n7
    have n_lq : H5 lq = none := (s6.trans s7).free nlq
    have e01 : b0 ≠ b1 := by obtain ⟨vs, h, _⟩ := f6; exact ne_of_none h n7
    have e0l : b0 ≠ lq := by obtain ⟨vs, h, _⟩ := f6.same s7; exact ne_of_none h nlq
    have e1l : b1 ≠ lq := by obtain ⟨vs, h, _⟩ := f7; exact ne_of_none h nlq
    have nea5 : ∀ x, H5 x = none → x ≠ a := fun x hx e => by
      rw [e, a5] at hx
      cases hx
    have a8 := s58 _ _ a5
    have cg08 := cg05.same s58
    have cg18 := cg15.same s58
    have hlg8 := s58 _ _ hlg5
    generalize upd H7 lq (.lst [.ref b0, .ref b1]) = H8 at hlq8 fb0 fb1 s58 a8 cg08 cg18 hlg8
    have a9 : upd H8 a (.ins C dx (putF "chances" (.ref lq) (putF "groups" (.ref lg) (putF "scores" (.int (k : Int)) fs)))) a = some (.ins C dx (putF "chances" (.ref lq) (putF "groups" (.ref lg) (putF "scores" (.int (k : Int)) fs)))) := upd_same
    have B9 : But a H8 (upd H8 a (.ins C dx (putF "chances" (.ref lq) (putF "groups" (.ref lg) (putF "scores" (.int (k : Int)) fs))))) := But.put
    have hlg9 := B9 _ _ hlg8 (nea _ n_lg)
    have hlq9 := B9 _ _ hlq8 (nea5 _ n_lq)
    have cg09 := B9.cells a8 cg08
    have cg19 := B9.cells a8 cg18
    have fb09 := B9.frs a8 fb0
    have fb19 := B9.frs a8 fb1
    generalize upd H8 a (.ins C dx (putF "chances" (.ref lq) (putF "groups" (.ref lg) (putF "scores" (.int (k : Int)) fs)))) = H9 at a9 B9 hlg9 hlq9 cg09 cg19 fb09 fb19
    -- self.pays = (1, 1)
    refine ⟨two_le, fun t nt => ?_⟩
    have sA : Same H9 (upd H9 t (.tup [.int 1, .int 1])) := Same.new nt
    refine ⟨_, rfl, a, C, dx, _, rfl, sA _ _ a9, T0.cl, T0.nP, by omega, ?_⟩
    have htA : upd H9 t (.tup [.int 1, .int 1]) t = some (.tup [.int 1, .int 1]) := upd_same
    have aA := sA _ _ a9
    have BB : But a (upd H9 t (.tup [.int 1, .int 1])) (upd (upd H9 t (.tup [.int 1, .int 1])) a (.ins C dx (putF "pays" (.ref t) (putF "chances" (.ref lq) (putF "groups" (.ref lg) (putF "scores" (.int (k : Int)) fs)))))) := But.put
    have tot : But a H _ := B1.trans (B4.trans (B5.trans ((But.of s58).trans (B9.trans ((But.of sA).trans BB)))))
    refine kk _ [a, lg, lq, g0, g1, b0, b1] ⟨dx, lg, lq, g0, g1, b0, b1, .ref t, rfl, ?_⟩ ?_ tot
    · refine ⟨?_, ?_, BB _ _ (sA _ _ hlg9) (nea _ n_lg), BB _ _ (sA _ _ hlq9) (nea5 _ n_lq), BB.cells aA (cg09.same sA), BB.cells aA (cg19.same sA), BB.frs aA (fb09.same sA), BB.frs aA (fb19.same sA), ?_⟩
      · rw [upd_same, put_all old]
        rfl
      · exact ⟨t, rfl, SqT.of (BB _ _ htA (ne_of htA aA (by intro z; cases z)))⟩
      · have x1 : lg ≠ lq := ne_of_none hlg5 n_lq
        have x2 : lg ≠ b0 := ne_of_none hlg5 n_b0
        have x3 : lg ≠ b1 := ne_of_none hlg5 n_b1
        have gz : ∀ x, H5 x = none → g0 ≠ x := fun x hx => by obtain ⟨vs, h, _⟩ := cg05; exact ne_of_none h hx
        have gy : ∀ x, H5 x = none → g1 ≠ x := fun x hx => by obtain ⟨vs, h, _⟩ := cg15; exact ne_of_none h hx
        simp only [List.nodup_cons, List.mem_cons, List.not_mem_nil, or_false, not_or, List.nodup_nil, and_true, not_false_eq_true]
        exact ⟨⟨x1, d0l.symm, d1l.symm, x2, x3⟩, ⟨(gz _ n_lq).symm, (gy _ n_lq).symm, e0l.symm, e1l.symm⟩, ⟨d01, gz _ n_b0, gz _ n_b1⟩, ⟨gy _ n_b0, gy _ n_b1⟩, e01⟩
    · have B14 := B1.trans B4
      have B15 := B14.trans B5
      intro b hb
      simp only [List.mem_cons, List.not_mem_nil, or_false] at hb
      rcases hb with rfl | rfl | rfl | rfl | rfl | rfl | rfl
      · exact .inl rfl
      · exact .inr (B1.free (nea _ n_lg) n_lg)
      · exact .inr (B15.free (nea5 _ n_lq) n_lq)
      · exact .inr (B1.free (nea _ n2) n2)
      · exact .inr (B1.free (nea _ n_g1) n_g1)
      · exact .inr (B15.free (nea5 _ n_b0) n_b0)
      · exact .inr (B15.free (nea5 _ n_b1) n_b1)
def spInitM (K : PySem.W.Frag) (C : Addr) : Sp := fun vs H Q _ => ∃ (a dx : Addr), vs = [.ref a] ∧ H a = some (.ins C dx []) ∧ ∀ H' fp, PAtF K C H' a (fresh 0) fp → (∀ b ∈ fp, b = a ∨ H b = none) → But a H H' → Q .non H'
abbrev s_People_init : Stmt := inClass (top 15) 0
theorem sc_People_init : FnScope ["self"] ["self"] (defScope s_People_init) := ⟨rfl, rfl, rfl, by decide +kernel, rfl, by decide +kernel, by decide +kernel⟩
theorem ok_People_init (D : MDefAt K C "__init__" "People.__init__" s_People_init) (T : ClsT K mg C) (mk : PySem.W.makesIn K C = true) (kc : PySem.W.keepIn K (.ref C) = true) (M_begin : MOkAt P w K mg base C 1 "begin" ["self", "scores"] (spBeginM K C)) : MkAt P w K mg base C 2 (spInitM K C) := by
  obtain ⟨f, fd, F, mm⟩ := D.ex
  have nd := sc_People_init.nd
  refine ⟨f, fd, ⟨mk, mm.at_, mm.fn, kc⟩, F.binds fun _ _ _ _ _ _ us hl => match us, hl with | [_], _ => rfl, ?_⟩
  refine F.ok sc_People_init (fun vs H Q E h => ?_) (fun cdv A outer s H vs Q E hr h => ?_)
  · obtain ⟨a, dx, rfl, _⟩ := h
    rfl
  · obtain ⟨a, dx, rfl, ha, k⟩ := h
    refine ⟨_, (pss_one (ps_expr (pe_methO M_begin (hr.mono (by decide)) T.cl (pv 0) (pa_cons pe_int pa_nil)))), ?_⟩
    refine ⟨_, rfl, a, dx, [], rfl, ha, rfl, a, dx, [], 0, rfl, by decide, ha, .inl rfl, fun H' fp hp hf hb => ?_⟩
    exact k H' fp hp hf hb
end
end My
namespace My
open PySem PySem.Spec PyProof.Rows L2
/-! ## calls.py -/
/-- a call is answered: the object is as the specification has it, the numbers are told in a new list -/
def Done (K : PySem.W.Frag) (C : Addr) (H : Hp) (a : Addr) (fp : List Addr) (x : Krdi.Abs) (y : List Int) (Q : VK) : Prop :=
  ∀ (H' : Hp) (p : Addr) (m : Pm) (fp' : List Addr), PAtF K C H' a m fp' → m.Ok → m.abs = x → (∀ b ∈ fp', b ∈ fp ∨ H b = none) → (∀ b o, H b = some o → b ∉ fp → H' b = some o) → H p = none → H' p = some (.lst (y.map V.int)) → Q (.ref p) H'
def spC (K : PySem.W.Frag) (C : Addr) (free : Bool) (ar : List Nat → Option Krdi.Call) : Sp := fun vs H Q _ => ∃ (a l : Addr) (m : Pm) (fp : List Addr) (ns : List Nat) (c : Krdi.Call), vs = [.ref a, .ref l] ∧ PAtF K C H a m fp ∧ m.Ok ∧ (free = true ∨ m.k ≠ 0) ∧ SqL K H l (ofN ns) ∧ ar ns = some c ∧ (∀ n ∈ ns, n < 4294967296) ∧
  Done K C H a fp (Krdi.act m.abs c).1 (KrdiNeutral.told (Krdi.act m.abs c).2) Q
theorem PAtF.same {K : PySem.W.Frag} {C : Addr} {H H' : Hp} {a : Addr} {m : Pm} {fp : List Addr} (h : PAtF K C H a m fp) (e : Same H H') : PAtF K C H' a m fp := by
  obtain ⟨dx, lg, lq, g0, g1, b0, b1, pz, h1, h2⟩ := h
  exact ⟨dx, lg, lq, g0, g1, b0, b1, pz, h1, h2.same e⟩
/-- nothing changes, some numbers are told -/
theorem Done.tell {K : PySem.W.Frag} {C : Addr} {H H' : Hp} {a p : Addr} {fp : List Addr} {x : Krdi.Abs} {y : List Int} {Q : VK} {m : Pm} (h : Done K C H a fp x y Q) (hp : PAtF K C H a m fp) (ok : m.Ok) (e : m.abs = x) (s : Same H H') (np : H p = none) (hy : H' p = some (.lst (y.map V.int))) : Q (.ref p) H' :=
  h H' p m fp (hp.same s) ok e (fun b hb => .inl hb) (fun b o q _ => s b o q) np hy
theorem abs_some {m : Pm} (h : m.k ≠ 0) : m.abs = some m.desk := if_neg h
section
variable {P : Program} {w : World} {K : PySem.W.Frag} {mg : Str → Option Value} {base : Heap} {C : Addr}
structure Nums (mg : Str → Option Value) : Prop where
  BEGIN : ∃ t, mg "BEGIN" = some (.int 0 t)
  NO_SUCH : ∃ t, mg "NO_SUCH" = some (.int (-2) t)
  NOT_BEGUN : ∃ t, mg "NOT_BEGUN" = some (.int (-11) t)
  NOT_RIGHT : ∃ t, mg "NOT_RIGHT" = some (.int (-22) t)
  LACKING : ∃ t, mg "LACKING" = some (.int (-33) t)
  MOST_SCORES : ∃ t, mg "MOST_SCORES" = some (.int 4 t)
  MOST_PEOPLE : ∃ t, mg "MOST_PEOPLE" = some (.int 99 t)
  MOST_PAY : ∃ t, mg "MOST_PAY" = some (.int 100 t)
  MOST_LOWER : ∃ t, mg "MOST_LOWER" = some (.int 1000 t)
/-- all that the defs of calls.py ask of the top -/
structure Tops (K : PySem.W.Frag) (mg : Str → Option Value) (C : Addr) : Prop extends Nums mg, Kinds mg, Con1 K mg, ClsT K mg C
/-! no_group, no_cell, told -/
def spNoGroup : Sp := fun vs H Q _ => ∃ g : Nat, vs = [.int (g : Int)] ∧ Q (.bl (decide (1 < g))) H
abbrev s_no_group : Stmt := top 65
theorem sc_no_group : FnScope ["group"] ["group"] (defScope s_no_group) := ⟨rfl, rfl, rfl, by decide +kernel, rfl, by decide +kernel, by decide +kernel⟩
theorem ok_no_group (D : DefAt K mg "no_group" s_no_group) : OkAt P w K mg base 1 "no_group" ["group"] spNoGroup := by
  refine okAt_of D (fun _ _ _ _ _ _ us hl => match us, hl with | [_], _ => rfl) fun f fd F => ?_
  have nd := sc_no_group.nd
  refine F.ok sc_no_group (fun vs H Q E h => ?_) (fun cdv A outer s H vs Q E hr h => ?_)
  · obtain ⟨g, rfl, _⟩ := h
    rfl
  · obtain ⟨g, rfl, k⟩ := h
    refine ⟨_, (pss_one (ps_ret (pe_cmpR op_gt (pv 0) pe_int (nomark _)))), ?_⟩
    refine ⟨_, rfl, _, _, rfl, rfl, ?_⟩
    have e : decide ((1 : Int) < (g : Int)) = decide (1 < g) := decide_eq_decide.mpr (by omega)
    rw [← e] at k
    exact k
def spNoCell (K : PySem.W.Frag) (C : Addr) : Sp := fun vs H Q _ => ∃ (a : Addr) (m : Pm) (fp : List Addr) (g s : Nat), vs = [.ref a, .int (g : Int), .int (s : Int)] ∧ PAtF K C H a m fp ∧ Q (.bl (decide (1 < g) || decide (m.k ≤ s))) H
abbrev s_no_cell : Stmt := top 66
theorem sc_no_cell : FnScope ["people", "group", "score"] ["people", "group", "score"] (defScope s_no_cell) := ⟨rfl, rfl, rfl, by decide +kernel, rfl, by decide +kernel, by decide +kernel⟩
theorem ok_no_cell (D : DefAt K mg "no_cell" s_no_cell) (T : Tops K mg C) (G_no_group : OkAt P w K mg base 1 "no_group" ["group"] spNoGroup) : OkAt P w K mg base 2 "no_cell" ["people", "group", "score"] (spNoCell K C) := by
  refine okAt_of D (fun _ _ _ _ _ _ us hl => match us, hl with | [_, _, _], _ => rfl) fun f fd F => ?_
  have nd := sc_no_cell.nd
  refine F.ok sc_no_cell (fun vs H Q E h => ?_) (fun cdv A outer s H vs Q E hr h => ?_)
  · obtain ⟨a, m, fp, g, s, rfl, _⟩ := h
    rfl
  · obtain ⟨a, m, fp, g, s, rfl, ⟨dx, lg, lq, g0, g1, b0, b1, pz, _, L⟩, k⟩ := h
    refine ⟨_, (pss_one (ps_ret (pe_or (pe_callO G_no_group (hr.mono (by decide)) (by rfl) (pa_cons (pv 1) pa_nil)) (pe_one (pe_cmpR op_ge (pv 2) (pe_fld (pv 0) rfl) (nomark _)))))), ?_⟩
    refine ⟨_, rfl, g, rfl, _, rfl, ?_⟩
    by_cases c : 1 < g
    · rw [decide_eq_true c] at k ⊢
      exact iteT k
    · rw [decide_eq_false c] at k ⊢
      refine iteF ⟨_, rfl, _, rfl, a, C, dx, _, _, rfl, L.ins, T.cl, T.nS, flds_scores, _, _, rfl, rfl, ?_⟩
      have e : decide (((m.k : Nat) : Int) ≤ (s : Int)) = decide (m.k ≤ s) := decide_eq_decide.mpr (by omega)
      rw [Bool.false_or, ← e] at k
      exact k
def spTold (K : PySem.W.Frag) : Sp := fun vs H Q _ => ∃ (y : V) (q : Rat), vs = [y] ∧ Fr K H y q ∧ ∀ H' p, Same H H' → H p = none → H' p = some (.lst ([0, q.num, (q.den : Int)].map V.int)) → Q (.ref p) H'
abbrev s_told : Stmt := top 70
theorem sc_told : FnScope ["fraction"] ["fraction"] (defScope s_told) := ⟨rfl, rfl, rfl, by decide +kernel, rfl, by decide +kernel, by decide +kernel⟩
theorem ok_told (D : DefAt K mg "told" s_told) : OkAt P w K mg base 1 "told" ["fraction"] (spTold K) := by
  refine okAt_of D (fun _ _ _ _ _ _ us hl => match us, hl with | [_], _ => rfl) fun f fd F => ?_
  have nd := sc_told.nd
  refine F.ok sc_told (fun vs H Q E h => ?_) (fun cdv A outer s H vs Q E hr h => ?_)
  · obtain ⟨y, q, rfl, _⟩ := h
    rfl
  · obtain ⟨y, q, rfl, ⟨t, rfl, ht⟩, k⟩ := h
    refine ⟨_, (pss_one (ps_ret (pe_lst (pa_cons pe_int (pa_cons (pe_ix ix_tup (pv 0) pe_int (fun _ _ => rfl)) (pa_cons (pe_ix ix_tup (pv 0) pe_int (fun _ _ => rfl)) pa_nil)))))), ?_⟩
    refine ⟨_, rfl, t, _, _, _, rfl, rfl, ht, at0, _, rfl, t, _, _, _, rfl, rfl, ht, at1, by show 3 ≤ sizeLine; decide, fun p np => ?_⟩
    exact k _ p (Same.new np) np upd_same
theorem told_frac (r : Rat) : KrdiNeutral.told (Krdf.frac r) = [0, r.num, (r.den : Int)] := rfl
theorem one_le {x : V} : [x].length ≤ sizeLine := by
  show 1 ≤ sizeLine
  decide
/-! no_kind, no_pays, no_lower -/
def spNoKind : Sp := fun vs H Q _ => ∃ q : Nat, vs = [.int (q : Int)] ∧ Q (.bl (decide (3 < q))) H
abbrev s_no_kind : Stmt := top 67
theorem sc_no_kind : FnScope ["kind"] ["kind"] (defScope s_no_kind) := ⟨rfl, rfl, rfl, by decide +kernel, rfl, by decide +kernel, by decide +kernel⟩
theorem ok_no_kind (D : DefAt K mg "no_kind" s_no_kind) (T : Tops K mg C) : OkAt P w K mg base 1 "no_kind" ["kind"] spNoKind := by
  refine okAt_of D (fun _ _ _ _ _ _ us hl => match us, hl with | [_], _ => rfl) fun f fd F => ?_
  have nd := sc_no_kind.nd
  refine F.ok sc_no_kind (fun vs H Q E h => ?_) (fun cdv A outer s H vs Q E hr h => ?_)
  · obtain ⟨g, rfl, _⟩ := h
    rfl
  · obtain ⟨g, rfl, k⟩ := h
    refine ⟨_, (pss_one (ps_ret (pe_cmpR op_gt (pv 0) (pe_gi T.SAME_BOTH (by rfl)) (nomark _)))), ?_⟩
    refine ⟨_, rfl, _, _, rfl, rfl, ?_⟩
    have e : decide ((3 : Int) < (g : Int)) = decide (3 < g) := decide_eq_decide.mpr (by omega)
    rw [← e] at k
    exact k
def spNoPays : Sp := fun vs H Q _ => ∃ u v : Nat, vs = [.int (u : Int), .int (v : Int)] ∧ Q (.bl (decide (100 < u) || decide (100 < v))) H
abbrev s_no_pays : Stmt := top 68
theorem sc_no_pays : FnScope ["gain", "loss"] ["gain", "loss"] (defScope s_no_pays) := ⟨rfl, rfl, rfl, by decide +kernel, rfl, by decide +kernel, by decide +kernel⟩
theorem ok_no_pays (D : DefAt K mg "no_pays" s_no_pays) (T : Tops K mg C) : OkAt P w K mg base 1 "no_pays" ["gain", "loss"] spNoPays := by
  refine okAt_of D (fun _ _ _ _ _ _ us hl => match us, hl with | [_, _], _ => rfl) fun f fd F => ?_
  have nd := sc_no_pays.nd
  refine F.ok sc_no_pays (fun vs H Q E h => ?_) (fun cdv A outer s H vs Q E hr h => ?_)
  · obtain ⟨u, v, rfl, _⟩ := h
    rfl
  · obtain ⟨u, v, rfl, k⟩ := h
    refine ⟨_, (pss_one (ps_ret (pe_or (pe_cmpR op_gt (pv 0) (pe_gi T.MOST_PAY (by rfl)) (nomark _)) (pe_one (pe_cmpR op_gt (pv 1) (pe_gi T.MOST_PAY (by rfl)) (nomark _)))))), ?_⟩
    refine ⟨_, rfl, _, _, rfl, rfl, _, rfl, ?_⟩
    have e1 : decide ((100 : Int) < (u : Int)) = decide (100 < u) := decide_eq_decide.mpr (by omega)
    have e2 : decide ((100 : Int) < (v : Int)) = decide (100 < v) := decide_eq_decide.mpr (by omega)
    rw [e1]
    by_cases c : 100 < u
    · rw [decide_eq_true c] at k ⊢
      exact iteT k
    · rw [decide_eq_false c] at k ⊢
      refine iteF ⟨_, rfl, _, _, rfl, rfl, ?_⟩
      rw [Bool.false_or, ← e2] at k
      exact k
def spNoLower : Sp := fun vs H Q _ => ∃ b : Nat, vs = [.int (b : Int)] ∧ Q (.bl (decide (b < 1) || decide (1000 < b))) H
abbrev s_no_lower : Stmt := top 69
theorem sc_no_lower : FnScope ["lower"] ["lower"] (defScope s_no_lower) := ⟨rfl, rfl, rfl, by decide +kernel, rfl, by decide +kernel, by decide +kernel⟩
theorem ok_no_lower (D : DefAt K mg "no_lower" s_no_lower) (T : Tops K mg C) : OkAt P w K mg base 1 "no_lower" ["lower"] spNoLower := by
  refine okAt_of D (fun _ _ _ _ _ _ us hl => match us, hl with | [_], _ => rfl) fun f fd F => ?_
  have nd := sc_no_lower.nd
  refine F.ok sc_no_lower (fun vs H Q E h => ?_) (fun cdv A outer s H vs Q E hr h => ?_)
  · obtain ⟨b, rfl, _⟩ := h
    rfl
  · obtain ⟨b, rfl, k⟩ := h
    refine ⟨_, (pss_one (ps_ret (pe_or (pe_cmpR op_lt (pv 0) pe_int (nomark _)) (pe_one (pe_cmpR op_gt (pv 0) (pe_gi T.MOST_LOWER (by rfl)) (nomark _)))))), ?_⟩
    refine ⟨_, rfl, _, _, rfl, rfl, _, rfl, ?_⟩
    have e1 : decide ((b : Int) < 1) = decide (b < 1) := decide_eq_decide.mpr (by omega)
    have e2 : decide ((1000 : Int) < (b : Int)) = decide (1000 < b) := decide_eq_decide.mpr (by omega)
    rw [e1]
    by_cases c : b < 1
    · rw [decide_eq_true c] at k ⊢
      exact iteT k
    · rw [decide_eq_false c] at k ⊢
      refine iteF ⟨_, rfl, _, _, rfl, rfl, ?_⟩
      rw [Bool.false_or, ← e2] at k
      exact k
/-! row_of -/
def flat (qs : List Rat) : List Int := qs.flatMap Krdf.fr
theorem flat_len (qs : List Rat) : (flat qs).length = 2 * qs.length := by
  unfold flat
  induction qs with
  | nil => rfl
  | cons q l ih =>
    rw [List.flatMap_cons, List.length_append, ih, List.length_cons]
    show 2 + _ = _
    omega
theorem flat_more {qs : List Rat} {i : Nat} {q : Rat} (h : qs[i]? = some q) : (flat (qs.take i)).map V.int ++ [V.int q.num, V.int (q.den : Int)] = (flat (qs.take (i + 1))).map V.int := by
  unfold flat
  rw [take_more h, List.flatMap_append, List.map_append]
  rfl
def spRowOf (K : PySem.W.Frag) : Sp := fun vs H Q _ => ∃ (a : Addr) (qs : List Rat), vs = [.ref a] ∧ Frs K H a qs ∧ qs.length ≤ 4 ∧ ∀ H' p, Same H H' → H p = none → H' p = some (.lst ((flat qs).map V.int)) → Q (.ref p) H'
abbrev s_row_of : Stmt := top 71
theorem sc_row_of : FnScope ["fractions", "row", "fraction"] ["fractions"] (defScope s_row_of) := ⟨rfl, rfl, rfl, by decide +kernel, rfl, by decide +kernel, by decide +kernel⟩
theorem ok_row_of (D : DefAt K mg "row_of" s_row_of) : OkAt P w K mg base 1 "row_of" ["fractions"] (spRowOf K) := by
  refine okAt_of D (fun _ _ _ _ _ _ us hl => match us, hl with | [_], _ => rfl) fun f fd F => ?_
  have nd := sc_row_of.nd
  refine F.ok sc_row_of (fun vs H Q E h => ?_) (fun cdv A outer s H vs Q E hr h => ?_)
  · obtain ⟨a, qs, rfl, _⟩ := h
    rfl
  · obtain ⟨a, qs, rfl, ⟨vs, ha, hf⟩, h4, k⟩ := h
    refine ⟨_, (pss_cons (ps_set (i := 1) nd rfl (Or.inl rfl) (pe_lst pa_nil)) (pss_cons (ps_for PassesOwn.never rfl (pi_list (pv 0)) (pg_name (i := 2) nd rfl (Or.inl rfl)) (pss_one (ps_expr (pe_bm PySem.F.plainAttrs_list PySem.F.slot_list_extend PySem.F.type_list_extend mt_extend (pv 1) (pa_cons (pe_lst (pa_cons (pe_ix ix_tup (pv 2) pe_int (fun _ _ => rfl)) (pa_cons (pe_ix ix_tup (pv 2) pe_int (fun _ _ => rfl)) pa_nil))) pa_nil))))) (pss_one (ps_ret (pv 1))))), ?_⟩
    refine ⟨Nat.zero_le _, fun d hd => ?_⟩
    have s0 : Same H (upd H d (.lst [])) := Same.new hd
    refine ⟨_, rfl, a, rfl, ⟨_, s0.seq ha⟩, for_list (K := K) (a := a) (xs := vs) (fun i σ H' => ∃ v : Option V, σ = [some (.ref a), some (.ref d), v] ∧ Same H H' ∧ H' d = some (.lst ((flat (qs.take i)).map V.int))) ⟨none, rfl, s0, upd_same⟩ (fun i σ H' _ ⟨_, _, s5, _⟩ => s5.seq ha) ?_ ?_⟩
    · rintro i x σ H' hx ⟨v, rfl, s5, h5⟩
      obtain ⟨q, hq, t, rfl, ht⟩ := hf.get hx
      have tl := List.length_take_le' i qs
      refine ⟨_, rfl, .inl ⟨rfl, _, SqL.of h5⟩, ?_⟩
      refine ⟨_, rfl, t, _, _, _, rfl, rfl, Same.tup s5 ht, at0, _, rfl, t, _, _, _, rfl, rfl, Same.tup s5 ht, at1, two_le, fun e ne => ?_⟩
      have s6 : Same H' (upd H' e (.lst [.int q.num, .int (q.den : Int)])) := Same.new ne
      refine ⟨d, e, _, _, rfl, rfl, s6 _ _ h5, upd_same, ?_, ?_⟩
      · rw [List.length_map, flat_len]
        exact Nat.le_of_lt (lt_line (by show 2 * (qs.take i).length + 2 ≤ 100; omega))
      · refine ⟨_, rfl, made_same hd (s5.trans s6), ?_⟩
        rw [upd_same, flat_more hq]
    · rintro σ H' ⟨v, rfl, s5, h5⟩
      rw [hf.1, List.take_length] at h5
      exact ⟨_, rfl, k H' d s5 hd h5⟩
/-! refusal -/
def refuse : Bool → Bool → List Int
  | true, _ => [-22]
  | false, true => [-33]
  | false, false => []
def spRefusal (K : PySem.W.Frag) (C : Addr) : Sp := fun vs H Q _ => ∃ (a : Addr) (m : Pm) (fp : List Addr) (b : Bool), vs = [.ref a, .bl b] ∧ PAtF K C H a m fp ∧ m.Ok ∧ ∀ H' p, Same H H' → H p = none → H' p = some (.lst ((refuse b (lack m.c0 || lack m.c1)).map V.int)) → Q (.ref p) H'
theorem one_le' {x : V} : [x].length ≤ sizeLine := by
  show 1 ≤ sizeLine
  decide
abbrev s_refusal : Stmt := top 80
theorem sc_refusal : FnScope ["people", "wrong"] ["people", "wrong"] (defScope s_refusal) := ⟨rfl, rfl, rfl, by decide +kernel, rfl, by decide +kernel, by decide +kernel⟩
theorem ok_refusal (D : DefAt K mg "refusal" s_refusal) (T : Tops K mg C) (G_somebody_lacks : OkAt P w K mg base 2 "somebody_lacks" ["groups"] (spLacks K)) : OkAt P w K mg base 3 "refusal" ["people", "wrong"] (spRefusal K C) := by
  refine okAt_of D (fun _ _ _ _ _ _ us hl => match us, hl with | [_, _], _ => rfl) fun f fd F => ?_
  have nd := sc_refusal.nd
  refine F.ok sc_refusal (fun vs H Q E h => ?_) (fun cdv A outer s H vs Q E hr h => ?_)
  · obtain ⟨a, m, fp, b, rfl, _⟩ := h
    rfl
  · obtain ⟨a, m, fp, b, rfl, hp, ok, k⟩ := h
    refine ⟨_, (pss_cons (ps_if (pt_val (pv 1)) (pss_one (ps_ret (pe_lst (pa_cons (pe_gi T.NOT_RIGHT (by rfl)) pa_nil)))) pss_nil) (pss_cons (ps_if (pt_val (pe_callO G_somebody_lacks (hr.mono (by decide)) (by rfl) (pa_cons (pe_fld (pv 0) rfl) pa_nil))) (pss_one (ps_ret (pe_lst (pa_cons (pe_gi T.LACKING (by rfl)) pa_nil)))) pss_nil) (pss_one (ps_ret (pe_lst pa_nil))))), ?_⟩
    refine ⟨_, rfl, _, rfl, ?_⟩
    cases b with
    | true =>
      refine iteT ?_
      exact ⟨one_le', fun p np => k _ p (Same.new np) np upd_same⟩
    | false =>
      refine iteF ?_
      obtain ⟨dx, lg, lq, g0, g1, b0, b1, pz, hfp, L⟩ := id hp
      refine ⟨_, rfl, a, C, dx, _, _, rfl, L.ins, T.cl, T.nG, flds_groups, lg, m.c0, m.c1, rfl, L.groups, ok.ok0.len, ok.ok1.len, fun H2 v2 s2 e2 => ?_⟩
      subst e2
      refine ⟨_, rfl, ?_⟩
      cases cl : lack m.c0 || lack m.c1 with
      | true =>
        rw [cl] at k
        refine iteT ?_
        exact ⟨one_le', fun p np => k _ p (s2.trans (Same.new np)) (s2.free np) upd_same⟩
      | false =>
        rw [cl] at k
        refine iteF ?_
        exact ⟨Nat.zero_le _, fun p np => k _ p (s2.trans (Same.new np)) (s2.free np) upd_same⟩
/-- refused != [] -/
theorem t_ref_yes {σ : L2.St} {H : Hp} {i : Nat} {p : Addr} {z : Int} {R : Bool → Hp → Prop} (hs : σ[i]? = some (some (.ref p))) (h2 : H p = some (.lst [.int z])) (h : ∀ H', Same H H' → R true H') : tTest (tOp (rNeD K) (tVar i) (tLst tNil)) σ H R := by
  refine ⟨_, hs, Nat.zero_le _, fun q nq => ?_⟩
  have s : Same H (upd H q (.lst [])) := Same.new nq
  exact ⟨.list [.int z], .list [], .lst (SqL.of (s _ _ h2)) (.cons (.int z) .nil), .lst (SqL.of upd_same) .nil, rfl, rfl, _, rfl, h _ s⟩
theorem t_ref_no {σ : L2.St} {H : Hp} {i : Nat} {p : Addr} {R : Bool → Hp → Prop} (hs : σ[i]? = some (some (.ref p))) (h2 : H p = some (.lst [])) (h : ∀ H', Same H H' → R false H') : tTest (tOp (rNeD K) (tVar i) (tLst tNil)) σ H R := by
  refine ⟨_, hs, Nat.zero_le _, fun q nq => ?_⟩
  have s : Same H (upd H q (.lst [])) := Same.new nq
  exact ⟨.list [], .list [], .lst (SqL.of (s _ _ h2)) .nil, .lst (SqL.of upd_same) .nil, rfl, rfl, _, rfl, h _ s⟩
/-! begin -/
def arBegin : List Nat → Option Krdi.Call
  | [k] => some (.begin_ k)
  | _ => none
theorem act_begin (x : Krdi.Abs) (k : Nat) : Krdi.act x (.begin_ k) = if k = 0 ∨ 4 < k then (x, Krdf.say (-22)) else ((fresh k).abs, Krdf.say 0) := by
  by_cases h : k = 0 ∨ 4 < k
  · have hb : (k = 0 || decide (Krdf.mostScores < k)) = true := by
      rcases h with h | h
      · simp [h]
      · simp [Krdf.mostScores, h]
    rw [if_pos h]
    simp only [Krdi.act, Krdf.act, hb, if_true]
  · have hb : (k = 0 || decide (Krdf.mostScores < k)) = false := by
      have h1 : ¬ k = 0 := fun z => h (.inl z)
      have h2 : ¬ 4 < k := fun z => h (.inr z)
      have h3 : ¬ Krdf.mostScores < k := h2
      rw [decide_eq_false h1, decide_eq_false h3]
      rfl
    rw [if_neg h]
    simp only [Krdi.act, Krdf.act, hb, Bool.false_eq_true, if_false]
    rw [abs_some (show (fresh k).k ≠ 0 from fun z => h (.inl z))]
    have e : Krdh.none_ (Krdf.empty k) = zeros k := none_zeros (t := Krdf.empty k) rfl
    rw [e]
    rfl
abbrev s_begin : Stmt := top 72
theorem sc_begin : FnScope ["people", "given", "scores"] ["people", "given"] (defScope s_begin) := ⟨rfl, rfl, rfl, by decide +kernel, rfl, by decide +kernel, by decide +kernel⟩
theorem ok_begin (D : DefAt K mg "begin" s_begin) (T : Tops K mg C) (M_begin : MOkAt P w K mg base C 1 "begin" ["self", "scores"] (spBeginM K C)) : OkAt P w K mg base 2 "begin" ["people", "given"] (spC K C true arBegin) := by
  refine okAt_of D (fun _ _ _ _ _ _ us hl => match us, hl with | [_, _], _ => rfl) fun f fd F => ?_
  have nd := sc_begin.nd
  refine F.ok sc_begin (fun vs H Q E h => ?_) (fun cdv A outer s H vs Q E hr h => ?_)
  · obtain ⟨a, l, m, fp, ns, c, rfl, _⟩ := h
    rfl
  · obtain ⟨a, l, m, fp, ns, c, rfl, hp, ok, _, hl, har, hb, k⟩ := h
    refine ⟨_, (pss_cons (ps_set (i := 2) nd rfl (Or.inl rfl) (pe_ix ix_list (pv 1) pe_int (fun _ _ => rfl))) (pss_cons (ps_if (PW.pt (pw_or (pt_cmpR op_lt (pv 2) pe_int (nomark _)) (pw_or1 (pt_cmpR op_gt (pv 2) (pe_gi T.MOST_SCORES (by rfl)) (nomark _))))) (pss_one (ps_ret (pe_lst (pa_cons (pe_gi T.NOT_RIGHT (by rfl)) pa_nil)))) pss_nil) (pss_cons (ps_expr (pe_methO M_begin (hr.mono (by decide)) T.cl (pv 0) (pa_cons (pv 2) pa_nil))) (pss_one (ps_ret (pe_lst (pa_cons pe_int pa_nil))))))), ?_⟩
    match ns, har with
    | [n], har =>
      have ec : Krdi.Call.begin_ n = c := Option.some.inj har
      subst ec
      rw [act_begin] at k
      refine ⟨_, rfl, l, _, _, _, rfl, rfl, hl, at0, ?_⟩
      refine ⟨_, rfl, _, _, rfl, rfl, _, rfl, ?_⟩
      by_cases c1 : n = 0
      · rw [if_pos (.inl c1)] at k
        rw [decide_eq_true (by omega)]
        refine iteT (iteT ?_)
        exact ⟨one_le, fun p np => k.tell hp ok rfl (Same.new np) np upd_same⟩
      · rw [decide_eq_false (by omega)]
        refine iteF ⟨_, rfl, _, _, rfl, rfl, _, rfl, ?_⟩
        by_cases c2 : 4 < n
        · rw [if_pos (.inr c2)] at k
          rw [decide_eq_true (by omega)]
          refine iteT ?_
          exact ⟨one_le, fun p np => k.tell hp ok rfl (Same.new np) np upd_same⟩
        · rw [if_neg (by omega)] at k
          rw [decide_eq_false (by omega)]
          refine iteF ?_
          obtain ⟨dx, lg, lq, g0, g1, b0, b1, pz, hfp, L⟩ := hp
          have am : a ∈ fp := by rw [hfp]; exact List.mem_cons_self
          refine ⟨_, rfl, a, dx, _, rfl, L.ins, flds_begin, _, rfl, a, dx, _, n, rfl, by omega, L.ins, .inr ⟨_, _, _, _, rfl⟩, fun H' fp' hp' hf hbut => ?_⟩
          refine ⟨one_le, fun p np => ?_⟩
          have ne : p ≠ a := fun e => by
            obtain ⟨dx', lg', lq', g0', g1', b0', b1', pz', _, L'⟩ := hp'
            rw [e, L'.ins] at np
            cases np
          have s2 : Same H' (upd H' p (.lst [.int 0])) := Same.new np
          refine k _ p (fresh n) fp' (hp'.same s2) (fresh_ok (by omega)) rfl (fun b hb => ?_) (fun b o q nb => ?_) (hbut.free ne np) upd_same
          · rcases hf b hb with e | e
            · exact .inl (e ▸ am)
            · exact .inr e
          · exact s2 b o (hbut b o q fun e => nb (e ▸ am))
/-! cell -/
def arCell : List Nat → Option Krdi.Call
  | [g, s] => some (.cell g s)
  | _ => none
theorem act_cell {m : Pm} (h : m.k ≠ 0) (g s : Nat) : Krdi.act m.abs (.cell g s) = (m.abs, if decide (1 < g) || decide (m.k ≤ s) then Krdf.say (-2) else { num := (m.tab.cell g s).1, nums := [((m.tab.cell g s).2 : Int)] }) := by
  rw [abs_some h]
  rfl
def rowM (m : Pm) (g : Nat) : Cells := if g = 0 then m.c0 else m.c1
theorem row_tab (m : Pm) {g : Nat} (h : ¬ 1 < g) : rowOf m.tab g = rowM m g := by
  unfold rowM
  split
  · rename_i e
    subst e
    rfl
  · have e : g = 1 := by omega
    subst e
    rfl
theorem Lay.row {H : Hp} {a : Addr} {m : Pm} {dx lg lq g0 g1 b0 b1 : Addr} {pz : V} (h : Lay K C H a m dx lg lq g0 g1 b0 b1 pz) {g : Nat} (hg : ¬ 1 < g) : ∃ gg, atI [V.ref g0, V.ref g1] (g : Int) = some (.ref gg) ∧ CellsT K H gg (rowM m g) ∧ ((g = 0 ∧ gg = g0) ∨ (g = 1 ∧ gg = g1)) := by
  unfold rowM
  by_cases e : g = 0
  · subst e
    exact ⟨g0, at0, h.hg0, .inl ⟨rfl, rfl⟩⟩
  · have e1 : g = 1 := by omega
    subst e1
    exact ⟨g1, at1, h.hg1, .inr ⟨rfl, rfl⟩⟩
theorem row_len {m : Pm} (ok : m.Ok) (g : Nat) : (rowM m g).length = m.k := by
  unfold rowM
  split
  · exact ok.l0
  · exact ok.l1
abbrev s_cell : Stmt := top 74
theorem sc_cell : FnScope ["people", "given", "there"] ["people", "given"] (defScope s_cell) := ⟨rfl, rfl, rfl, by decide +kernel, rfl, by decide +kernel, by decide +kernel⟩
theorem ok_cell (D : DefAt K mg "cell" s_cell) (T : Tops K mg C) (G_no_cell : OkAt P w K mg base 2 "no_cell" ["people", "group", "score"] (spNoCell K C)) : OkAt P w K mg base 3 "cell" ["people", "given"] (spC K C false arCell) := by
  refine okAt_of D (fun _ _ _ _ _ _ us hl => match us, hl with | [_, _], _ => rfl) fun f fd F => ?_
  have nd := sc_cell.nd
  refine F.ok sc_cell (fun vs H Q E h => ?_) (fun cdv A outer s H vs Q E hr h => ?_)
  · obtain ⟨a, l, m, fp, ns, c, rfl, _⟩ := h
    rfl
  · obtain ⟨a, l, m, fp, ns, c, rfl, hp, ok, hk, hl, har, hb, k⟩ := h
    refine ⟨_, (pss_cons (ps_if (pt_val (pe_callO G_no_cell (hr.mono (by decide)) (by rfl) (pa_cons (pv 0) (pa_cons (pe_ix ix_list (pv 1) pe_int (fun _ _ => rfl)) (pa_cons (pe_ix ix_list (pv 1) pe_int (fun _ _ => rfl)) pa_nil))))) (pss_one (ps_ret (pe_lst (pa_cons (pe_gi T.NO_SUCH (by rfl)) pa_nil)))) pss_nil) (pss_cons (ps_set (i := 2) nd rfl (Or.inl rfl) (pe_ix ix_list (pe_ix ix_list (pe_fld (pv 0) rfl) (pe_ix ix_list (pv 1) pe_int (fun _ _ => rfl)) (fun _ _ => rfl)) (pe_ix ix_list (pv 1) pe_int (fun _ _ => rfl)) (fun _ _ => rfl))) (pss_one (ps_ret (pe_lst (pa_cons (pe_ix ix_tup (pv 2) pe_int (fun _ _ => rfl)) (pa_cons (pe_ix ix_tup (pv 2) pe_int (fun _ _ => rfl)) pa_nil))))))), ?_⟩
    have hk : m.k ≠ 0 := by simpa using hk
    match ns, har with
    | [g, s], har =>
      have ec : Krdi.Call.cell g s = c := Option.some.inj har
      subst ec
      rw [act_cell hk] at k
      refine ⟨_, rfl, _, rfl, l, _, _, _, rfl, rfl, hl, at0, _, rfl, l, _, _, _, rfl, rfl, hl, at1, a, m, fp, g, s, rfl, hp, _, rfl, ?_⟩
      cases cc : decide (1 < g) || decide (m.k ≤ s) with
      | true =>
        rw [cc, if_pos rfl] at k
        refine iteT ?_
        exact ⟨one_le, fun p np => k.tell hp ok rfl (Same.new np) np upd_same⟩
      | false =>
        rw [cc, if_neg Bool.false_ne_true] at k
        have ⟨c1, c2⟩ := Bool.or_eq_false_iff.mp cc
        have c1' := of_decide_eq_false c1
        have c2' := of_decide_eq_false c2
        refine iteF ?_
        obtain ⟨dx, lg, lq, g0, g1, b0, b1, pz, hfp, L⟩ := id hp
        obtain ⟨gg, eg, ⟨vs, hvs, hf⟩, _⟩ := L.row c1'
        have hs : s < (rowM m g).length := by rw [row_len ok]; omega
        have hci : (rowM m g)[s]? = some ((rowM m g).getD s (0, 0)) := by rw [List.getD_eq_getElem?_getD, List.getElem?_eq_getElem hs]; rfl
        obtain ⟨x, hx, t, rfl, ht⟩ := hf.at hci
        refine ⟨_, rfl, a, C, dx, _, _, rfl, L.ins, T.cl, T.nG, flds_groups, _, rfl, l, _, _, _, rfl, rfl, hl, at0, lg, _, _, _, rfl, rfl, SqL.of L.hlg, eg, ?_⟩
        refine ⟨_, rfl, l, _, _, _, rfl, rfl, hl, at1, gg, _, _, _, rfl, rfl, SqL.of hvs, atI_nat hx, ?_⟩
        refine ⟨_, rfl, t, _, _, _, rfl, rfl, ht, at0, _, rfl, t, _, _, _, rfl, rfl, ht, at1, two_le, fun p np => k.tell hp ok rfl (Same.new np) np ?_⟩
        rw [upd_same, cell_eq, row_tab m c1']
        rfl
end
end My
namespace My
open PySem PySem.Spec PyProof.Rows L2
section
variable {P : Program} {w : World} {K : PySem.W.Frag} {mg : Str → Option Value} {base : Heap} {C : Addr}
/-! a list is stored to; the rest stays -/
theorem Pr.put {H : Hp} {d : Addr} {xs ys : List V} {v : V} {c : Nat × Nat} (h : Pr K H v c) (hd : H d = some (.lst xs)) : Pr K (upd H d (.lst ys)) v c := by
  obtain ⟨t, rfl, ht⟩ := h
  refine ⟨t, rfl, ?_⟩
  rcases ht with (h | ⟨o, h⟩) | h
  · exact .inl (.inl (by rw [upd_ne (ne_of h hd (by intro z; cases z))]; exact h))
  · exact .inl (.inr ⟨o, by rw [upd_ne (ne_of h hd (by intro z; cases z))]; exact h⟩)
  · exact .inr h
theorem CellsT.put {H : Hp} {d x : Addr} {xs ys : List V} {cs : Cells} (h : CellsT K H x cs) (hd : H d = some (.lst xs)) (ne : x ≠ d) : CellsT K (upd H d (.lst ys)) x cs := by
  obtain ⟨vs, h1, h2⟩ := h
  exact ⟨vs, by rw [upd_ne ne]; exact h1, h2.imp fun v c f => f.put hd⟩
def setRow (m : Pm) (g : Nat) (cs : Cells) : Pm := if g = 0 then { m with c0 := cs } else { m with c1 := cs }
def setQ (m : Pm) (g : Nat) (qs : List Rat) : Pm := if g = 0 then { m with q0 := qs } else { m with q1 := qs }
def rowQ (m : Pm) (g : Nat) : List Rat := if g = 0 then m.q0 else m.q1
theorem nodup6 {a b c d e f : Addr} (h : [a, b, c, d, e, f].Nodup) : (a ≠ b ∧ a ≠ c ∧ a ≠ d ∧ a ≠ e ∧ a ≠ f) ∧ (b ≠ c ∧ b ≠ d ∧ b ≠ e ∧ b ≠ f) ∧ (c ≠ d ∧ c ≠ e ∧ c ≠ f) ∧ (d ≠ e ∧ d ≠ f) ∧ e ≠ f := by
  simpa only [List.nodup_cons, List.mem_cons, List.not_mem_nil, or_false, not_or, List.nodup_nil, and_true, not_false_eq_true] using h
theorem Lay.setCell {H : Hp} {a : Addr} {m : Pm} {dx lg lq g0 g1 b0 b1 gg : Addr} {pz : V} {g : Nat} {xs ys : List V} {cs : Cells} (L : Lay K C H a m dx lg lq g0 g1 b0 b1 pz) (hg : (g = 0 ∧ gg = g0) ∨ (g = 1 ∧ gg = g1)) (hx : H gg = some (.lst xs)) (hy : LsOf (Pr K H) ys cs) :
    Lay K C (upd H gg (.lst ys)) a (setRow m g cs) dx lg lq g0 g1 b0 b1 pz := by
  obtain ⟨⟨n1, n2, n3, n4, n5⟩, ⟨n6, n7, n8, n9⟩, ⟨n10, n11, n12⟩, ⟨n13, n14⟩, n15⟩ := nodup6 L.nd
  have nea : a ≠ gg := ne_of L.ins hx (by intro z; cases z)
  have hc : CellsT K (upd H gg (.lst ys)) gg cs := ⟨ys, upd_same, hy.imp fun v c f => f.put hx⟩
  rcases hg with ⟨rfl, rfl⟩ | ⟨rfl, rfl⟩
  · exact ⟨by rw [upd_ne nea]; exact L.ins, L.pay.put hx, by rw [upd_ne n2]; exact L.hlg, by rw [upd_ne n6]; exact L.hlq, hc, L.hg1.put hx n10.symm, L.hb0.put hx n11.symm, L.hb1.put hx n12.symm, L.nd⟩
  · exact ⟨by rw [upd_ne nea]; exact L.ins, L.pay.put hx, by rw [upd_ne n3]; exact L.hlg, by rw [upd_ne n7]; exact L.hlq, L.hg0.put hx n10, hc, L.hb0.put hx n13.symm, L.hb1.put hx n14.symm, L.nd⟩
/-! count -/
def arCount : List Nat → Option Krdi.Call
  | [g, s, y, n] => some (.count g s y n)
  | _ => none
theorem setRow_abs {m : Pm} {g : Nat} (h : m.k ≠ 0) (hg : ¬ 1 < g) (cs : Cells) : (setRow m g cs).abs = some { m.desk with t := { m.tab with cells := m.tab.cells.set g cs } } := by
  unfold setRow
  split
  · rename_i e
    subst e
    exact abs_some h
  · have e : g = 1 := by omega
    subst e
    exact abs_some h
theorem act_count {m : Pm} (h : m.k ≠ 0) (g s y n : Nat) : Krdi.act m.abs (.count g s y n) = if decide (1 < g) || decide (m.k ≤ s) then (m.abs, Krdf.say (-2)) else if decide (99 < y) || decide (99 < n) then (m.abs, Krdf.say (-22)) else ((setRow m g ((rowM m g).set s (y, n))).abs, Krdf.nat (y + n)) := by
  have inner : Krdf.act (some m.tab) (.count g s y n) = if decide (1 < g) || decide (m.k ≤ s) then (some m.tab, Krdf.say (-2)) else if decide (99 < y) || decide (99 < n) then (some m.tab, Krdf.say (-22)) else (some { m.tab with cells := m.tab.cells.set g ((m.tab.cells.getD g []).set s (y, n)) }, Krdf.nat (y + n)) := rfl
  have outer : Krdi.act (some m.desk) (.count g s y n) = (match Krdf.act (some m.tab) (.count g s y n) with
    | (some u, r) => (some { m.desk with t := u }, r)
    | (none, r) => (some m.desk, r)) := rfl
  by_cases c : (decide (1 < g) || decide (m.k ≤ s)) = true
  · rw [if_pos c] at inner ⊢
    rw [abs_some h, outer, inner]
    rfl
  · have hg : ¬ 1 < g := fun z => c (by rw [decide_eq_true z, Bool.true_or])
    rw [if_neg c] at inner ⊢
    by_cases d : (decide (99 < y) || decide (99 < n)) = true
    · rw [if_pos d] at inner ⊢
      rw [abs_some h, outer, inner]
      rfl
    · rw [if_neg d] at inner ⊢
      have e : m.tab.cells.getD g [] = rowM m g := row_tab m hg
      rw [e] at inner
      rw [setRow_abs h hg, abs_some h, outer, inner]
theorem csOk_set {cs : Cells} {s y n : Nat} (h : CsOk cs) (hy : y ≤ 99) (hn : n ≤ 99) : CsOk (cs.set s (y, n)) := ⟨by rw [List.length_set]; exact h.len, fun c hc => by
  rcases List.mem_or_eq_of_mem_set hc with h' | rfl
  · exact h.small c h'
  · exact ⟨hy, hn⟩⟩
theorem setRow_ok {m : Pm} {g : Nat} {cs : Cells} (ok : m.Ok) (hl : cs.length = m.k) (hc : CsOk cs) : (setRow m g cs).Ok := by
  unfold setRow
  split
  · exact ⟨ok.k4, hl, ok.l1, hc, ok.ok1, ok.n0, ok.n1, ok.z0, ok.z1, ok.hu, ok.hv⟩
  · exact ⟨ok.k4, ok.l0, hl, ok.ok0, hc, ok.n0, ok.n1, ok.z0, ok.z1, ok.hu, ok.hv⟩
theorem row_ok {m : Pm} (ok : m.Ok) (g : Nat) : CsOk (rowM m g) := by
  unfold rowM
  split
  · exact ok.ok0
  · exact ok.ok1
theorem gg_mem {a lg lq g0 g1 b0 b1 gg : Addr} {g : Nat} (h : (g = 0 ∧ gg = g0) ∨ (g = 1 ∧ gg = g1)) : gg ∈ [a, lg, lq, g0, g1, b0, b1] := by
  rcases h with ⟨_, rfl⟩ | ⟨_, rfl⟩ <;> simp
abbrev s_count : Stmt := top 73
theorem sc_count : FnScope ["people", "given", "group", "score", "so", "others"] ["people", "given"] (defScope s_count) := ⟨rfl, rfl, rfl, by decide +kernel, rfl, by decide +kernel, by decide +kernel⟩
theorem ok_count (D : DefAt K mg "count" s_count) (T : Tops K mg C) (G_no_cell : OkAt P w K mg base 2 "no_cell" ["people", "group", "score"] (spNoCell K C)) : OkAt P w K mg base 3 "count" ["people", "given"] (spC K C false arCount) := by
  refine okAt_of D (fun _ _ _ _ _ _ us hl => match us, hl with | [_, _], _ => rfl) fun f fd F => ?_
  have nd := sc_count.nd
  refine F.ok sc_count (fun vs H Q E h => ?_) (fun cdv A outer s H vs Q E hr h => ?_)
  · obtain ⟨a, l, m, fp, ns, c, rfl, _⟩ := h
    rfl
  · obtain ⟨a, l, m, fp, ns, c, rfl, hp, ok, hk, hl, har, hb, k⟩ := h
    refine ⟨_, (pss_cons (ps_set (i := 2) nd rfl (Or.inl rfl) (pe_ix ix_list (pv 1) pe_int (fun _ _ => rfl))) (pss_cons (ps_set (i := 3) nd rfl (Or.inl rfl) (pe_ix ix_list (pv 1) pe_int (fun _ _ => rfl))) (pss_cons (ps_set (i := 4) nd rfl (Or.inl rfl) (pe_ix ix_list (pv 1) pe_int (fun _ _ => rfl))) (pss_cons (ps_set (i := 5) nd rfl (Or.inl rfl) (pe_ix ix_list (pv 1) pe_int (fun _ _ => rfl))) (pss_cons (ps_if (pt_val (pe_callO G_no_cell (hr.mono (by decide)) (by rfl) (pa_cons (pv 0) (pa_cons (pv 2) (pa_cons (pv 3) pa_nil))))) (pss_one (ps_ret (pe_lst (pa_cons (pe_gi T.NO_SUCH (by rfl)) pa_nil)))) pss_nil) (pss_cons (ps_if (PW.pt (pw_or (pt_cmpR op_gt (pv 4) (pe_gi T.MOST_PEOPLE (by rfl)) (nomark _)) (pw_or1 (pt_cmpR op_gt (pv 5) (pe_gi T.MOST_PEOPLE (by rfl)) (nomark _))))) (pss_one (ps_ret (pe_lst (pa_cons (pe_gi T.NOT_RIGHT (by rfl)) pa_nil)))) pss_nil) (pss_cons (ps_asg (pe_tup (pa_cons (pv 4) (pa_cons (pv 5) pa_nil))) (pg_sub (pe_ix ix_list (pe_fld (pv 0) rfl) (pv 2) (fun _ _ => rfl)) (pv 3) set_list)) (pss_one (ps_ret (pe_lst (pa_cons (pe_op op_add (pv 4) (pv 5)) pa_nil))))))))))), ?_⟩
    have hk : m.k ≠ 0 := by simpa using hk
    match ns, har with
    | [g, s, y, n], har =>
      have ec : Krdi.Call.count g s y n = c := Option.some.inj har
      subst ec
      rw [act_count hk] at k
      refine ⟨_, rfl, l, _, _, _, rfl, rfl, hl, at0, ?_⟩
      refine ⟨_, rfl, l, _, _, _, rfl, rfl, hl, at1, ?_⟩
      refine ⟨_, rfl, l, _, _, _, rfl, rfl, hl, atI_nat (j := 2) rfl, ?_⟩
      refine ⟨_, rfl, l, _, _, _, rfl, rfl, hl, atI_nat (j := 3) rfl, ?_⟩
      refine ⟨_, rfl, _, rfl, _, rfl, a, m, fp, g, s, rfl, hp, _, rfl, ?_⟩
      cases cc : decide (1 < g) || decide (m.k ≤ s) with
      | true =>
        rw [cc, if_pos rfl] at k
        refine iteT ?_
        exact ⟨one_le, fun p np => k.tell hp ok rfl (Same.new np) np upd_same⟩
      | false =>
        rw [cc, if_neg Bool.false_ne_true] at k
        have ⟨c1, c2⟩ := Bool.or_eq_false_iff.mp cc
        have c1' := of_decide_eq_false c1
        have c2' := of_decide_eq_false c2
        refine iteF ?_
        refine ⟨_, rfl, _, _, rfl, rfl, _, rfl, ?_⟩
        by_cases y9 : 99 < y
        · rw [decide_eq_true y9, Bool.true_or, if_pos rfl] at k
          rw [decide_eq_true (by omega)]
          refine iteT (iteT ?_)
          exact ⟨one_le, fun p np => k.tell hp ok rfl (Same.new np) np upd_same⟩
        · rw [decide_eq_false y9, Bool.false_or] at k
          rw [decide_eq_false (by omega)]
          refine iteF ⟨_, rfl, _, _, rfl, rfl, _, rfl, ?_⟩
          by_cases n9 : 99 < n
          · rw [decide_eq_true n9, if_pos rfl] at k
            rw [decide_eq_true (by omega)]
            refine iteT ?_
            exact ⟨one_le, fun p np => k.tell hp ok rfl (Same.new np) np upd_same⟩
          · rw [decide_eq_false n9, if_neg Bool.false_ne_true] at k
            rw [decide_eq_false (by omega)]
            refine iteF ?_
            refine ⟨_, rfl, _, rfl, two_le, fun t nt => ?_⟩
            have s1 : Same H (upd H t (.tup [.int (y : Int), .int (n : Int)])) := Same.new nt
            have htt : upd H t (.tup [.int (y : Int), .int (n : Int)]) t = some (.tup [.int (y : Int), .int (n : Int)]) := upd_same
            obtain ⟨dx, lg, lq, g0, g1, b0, b1, pz, hfp, L0⟩ := hp
            have L := L0.same s1
            generalize upd H t (.tup [.int (y : Int), .int (n : Int)]) = H1 at s1 L htt
            obtain ⟨gg, eg, ⟨vs, hvs, hf⟩, hgg⟩ := L.row c1'
            have hrl := row_len ok g
            refine ⟨_, rfl, a, C, dx, _, _, rfl, L.ins, T.cl, T.nG, flds_groups, _, rfl, lg, _, _, _, rfl, rfl, SqL.of L.hlg, eg, _, rfl, ?_⟩
            refine ⟨gg, vs, _, s, rfl, rfl, hvs, ?_, ?_⟩
            · unfold ixN
              rw [if_pos (by omega), if_pos (by rw [hf.1]; omega)]
              rfl
            have L2' := L.setCell (g := g) (cs := (rowM m g).set s (y, n)) hgg hvs (hf.set ⟨t, rfl, SqT.of htt⟩)
            refine ⟨_, rfl, _, rfl, _, _, rfl, rfl, one_le, fun p np => ?_⟩
            have ggm : gg ∈ fp := by rw [hfp]; exact gg_mem hgg
            have np' : H p = none := by
              refine s1.free ?_
              by_cases e : p = gg
              · rw [e, upd_same] at np
                cases np
              · rw [upd_ne e] at np
                exact np
            refine k _ p (setRow m g ((rowM m g).set s (y, n))) fp ⟨dx, lg, lq, g0, g1, b0, b1, pz, hfp, L2'.same (Same.new np)⟩ (setRow_ok ok (by rw [List.length_set, hrl]) (csOk_set (row_ok ok g) (by omega) (by omega))) rfl (fun b hb => .inl hb) (fun b o q nb => ?_) np' ?_
            · refine Same.new np b o ?_
              rw [upd_ne (fun e => nb (by rw [e]; exact ggm))]
              exact s1 b o q
            · rw [upd_same]
              have e : KrdiNeutral.told (Krdf.nat (y + n)) = [((y + n : Nat) : Int)] := rfl
              rw [e, Int.natCast_add]
              rfl
/-! pays -/
def arPays : List Nat → Option Krdi.Call
  | [u, v] => some (.pays u v)
  | _ => none
theorem act_pays {m : Pm} (h : m.k ≠ 0) (u v : Nat) : Krdi.act m.abs (.pays u v) = if decide (100 < u) || decide (100 < v) then (m.abs, Krdf.say (-22)) else (({ m with u := u, v := v } : Pm).abs, Krdf.say 0) := by
  rw [abs_some h]
  have e : ({ m with u := u, v := v } : Pm).abs = some ({ m with u := u, v := v } : Pm).desk := abs_some h
  rw [e]
  rfl
abbrev s_pays : Stmt := top 75
theorem sc_pays : FnScope ["people", "given"] ["people", "given"] (defScope s_pays) := ⟨rfl, rfl, rfl, by decide +kernel, rfl, by decide +kernel, by decide +kernel⟩
theorem ok_pays (D : DefAt K mg "pays" s_pays) (T : Tops K mg C) (G_no_pays : OkAt P w K mg base 1 "no_pays" ["gain", "loss"] spNoPays) : OkAt P w K mg base 2 "pays" ["people", "given"] (spC K C false arPays) := by
  refine okAt_of D (fun _ _ _ _ _ _ us hl => match us, hl with | [_, _], _ => rfl) fun f fd F => ?_
  have nd := sc_pays.nd
  refine F.ok sc_pays (fun vs H Q E h => ?_) (fun cdv A outer s H vs Q E hr h => ?_)
  · obtain ⟨a, l, m, fp, ns, c, rfl, _⟩ := h
    rfl
  · obtain ⟨a, l, m, fp, ns, c, rfl, hp, ok, hk, hl, har, hb, k⟩ := h
    refine ⟨_, (pss_cons (ps_if (pt_val (pe_callO G_no_pays (hr.mono (by decide)) (by rfl) (pa_cons (pe_ix ix_list (pv 1) pe_int (fun _ _ => rfl)) (pa_cons (pe_ix ix_list (pv 1) pe_int (fun _ _ => rfl)) pa_nil)))) (pss_one (ps_ret (pe_lst (pa_cons (pe_gi T.NOT_RIGHT (by rfl)) pa_nil)))) pss_nil) (pss_cons (ps_fld (pv 0) (pe_tup (pa_cons (pe_ix ix_list (pv 1) pe_int (fun _ _ => rfl)) (pa_cons (pe_ix ix_list (pv 1) pe_int (fun _ _ => rfl)) pa_nil))) rfl) (pss_one (ps_ret (pe_lst (pa_cons pe_int pa_nil)))))), ?_⟩
    have hk : m.k ≠ 0 := by simpa using hk
    match ns, har with
    | [u, v], har =>
      have ec : Krdi.Call.pays u v = c := Option.some.inj har
      subst ec
      rw [act_pays hk] at k
      refine ⟨_, rfl, l, _, _, _, rfl, rfl, hl, at0, _, rfl, l, _, _, _, rfl, rfl, hl, at1, u, v, rfl, _, rfl, ?_⟩
      cases cb : decide (100 < u) || decide (100 < v) with
      | true =>
        rw [cb, if_pos rfl] at k
        refine iteT ?_
        exact ⟨one_le, fun p np => k.tell hp ok rfl (Same.new np) np upd_same⟩
      | false =>
          rw [cb, if_neg Bool.false_ne_true] at k
          have ⟨cu, cv⟩ := Bool.or_eq_false_iff.mp cb
          have u9 := of_decide_eq_false cu
          have v9 := of_decide_eq_false cv
          refine iteF ?_
          refine ⟨_, rfl, l, _, _, _, rfl, rfl, hl, at0, _, rfl, l, _, _, _, rfl, rfl, hl, at1, two_le, fun t nt => ?_⟩
          have s1 : Same H (upd H t (.tup [.int (u : Int), .int (v : Int)])) := Same.new nt
          have htt : upd H t (.tup [.int (u : Int), .int (v : Int)]) t = some (.tup [.int (u : Int), .int (v : Int)]) := upd_same
          obtain ⟨dx, lg, lq, g0, g1, b0, b1, pz, hfp, L0⟩ := hp
          have L := L0.same s1
          generalize upd H t (.tup [.int (u : Int), .int (v : Int)]) = H1 at s1 L htt
          refine ⟨_, rfl, a, C, dx, _, rfl, L.ins, T.cl, T.nP, flds_len, ?_⟩
          rw [put_pays]
          have B1 : But a H1 (upd H1 a (.ins C dx (flds m.k lg lq (.ref t)))) := But.put
          have nl : ∀ {x : Addr} {xs : List V}, H1 x = some (.lst xs) → x ≠ a := fun h => ne_of h L.ins (by intro z; cases z)
          have L2' : Lay K C (upd H1 a (.ins C dx (flds m.k lg lq (.ref t)))) a { m with u := u, v := v } dx lg lq g0 g1 b0 b1 (.ref t) :=
            ⟨upd_same, ⟨t, rfl, SqT.of (B1 _ _ htt (ne_of htt L.ins (by intro z; cases z)))⟩, B1 _ _ L.hlg (nl L.hlg), B1 _ _ L.hlq (nl L.hlq), B1.cells L.ins L.hg0, B1.cells L.ins L.hg1, B1.frs L.ins L.hb0, B1.frs L.ins L.hb1, L.nd⟩
          refine ⟨one_le, fun p np => ?_⟩
          have am : a ∈ fp := by rw [hfp]; exact List.mem_cons_self
          have np' : H p = none := by
            refine s1.free ?_
            by_cases e : p = a
            · rw [e, upd_same] at np
              cases np
            · rw [upd_ne e] at np
              exact np
          refine k _ p { m with u := u, v := v } fp ⟨dx, lg, lq, g0, g1, b0, b1, .ref t, hfp, L2'.same (Same.new np)⟩ ⟨ok.k4, ok.l0, ok.l1, ok.ok0, ok.ok1, ok.n0, ok.n1, ok.z0, ok.z1, by show u ≤ 100; omega, by show v ≤ 100; omega⟩ rfl (fun b hb => .inl hb) (fun b o q nb => ?_) np' upd_same
          refine Same.new np b o ?_
          exact B1 b o (s1 b o q) fun e => nb (by rw [e]; exact am)
end
end My
namespace My
open PySem PySem.Spec PyProof.Rows L2
section
variable {P : Program} {w : World} {K : PySem.W.Frag} {mg : Str → Option Value} {base : Heap} {C : Addr}
/-! right_row, chances -/
def spRow (K : PySem.W.Frag) (C : Addr) : Sp := fun vs H Q _ => ∃ (a l : Addr) (m : Pm) (fp : List Addr) (b : Nat) (row : List Nat), vs = [.ref a, .int (b : Int), .ref l] ∧ PAtF K C H a m fp ∧ m.k ≤ 4 ∧ SqL K H l (ofN row) ∧ ∀ H', Same H H' → Q (.bl (decide (row.length = m.k) && row.all fun v => decide (v ≤ b))) H'
theorem ofN_get {l : List Nat} {i : Nat} {x : V} (h : (ofN l)[i]? = some x) : ∃ c, l[i]? = some c ∧ x = V.int (c : Int) := by
  unfold ofN at h
  rw [List.getElem?_map] at h
  cases e : l[i]? with
  | none => rw [e] at h; cases h
  | some c => rw [e] at h; exact ⟨c, rfl, (Option.some.inj h).symm⟩
theorem ofN_len (l : List Nat) : (ofN l).length = l.length := List.length_map _
theorem all_id {l : List Nat} {f : Nat → Bool} : (l.map f).all id = l.all f := by
  rw [List.all_map]
  rfl
abbrev s_right_row : Stmt := top 76
theorem sc_right_row : FnScope ["people", "lower", "row", "upper"] ["people", "lower", "row"] (defScope s_right_row) := ⟨rfl, rfl, rfl, by decide +kernel, rfl, by decide +kernel, by decide +kernel⟩
theorem ok_right_row (D : DefAt K mg "right_row" s_right_row) (B : Blt mg) (T : Tops K mg C) : OkAt P w K mg base 1 "right_row" ["people", "lower", "row"] (spRow K C) := by
  refine okAt_of D (fun _ _ _ _ _ _ us hl => match us, hl with | [_, _, _], _ => rfl) fun f fd F => ?_
  have nd := sc_right_row.nd
  refine F.ok sc_right_row (fun vs H Q E h => ?_) (fun cdv A outer s H vs Q E hr h => ?_)
  · obtain ⟨a, l, m, fp, b, row, rfl, _⟩ := h
    rfl
  · obtain ⟨a, l, m, fp, b, row, rfl, ⟨dx, lg, lq, g0, g1, b0, b1, pz, _, L⟩, k4, hl, k⟩ := h
    refine ⟨_, (pss_one (ps_ret (pe_and (pe_cmpR op_eq (pe_callB call_len_seq (by rfl) B.len (by decide +kernel) (pa_cons (pv 2) pa_nil)) (pe_fld (pv 0) rfl) (nomark _)) (pe_one (pe_callB (cr_all rfl) (by rfl) B.all (by decide +kernel) (pa_cons (pe_lc (own := [("upper", 3)]) (g := (gName 3)) (te := (tOp (rI0 fun i j => .bl (decide (i ≤ j))) (tVar 3) (tVar 1))) (tt := tYes) (by rfl) nd (pi_list (pv 2)) (blkOk_by (own := [("upper", 3)]) (N := ["people", "lower", "row", "upper"]) (sc := defScope s_right_row) (by decide +kernel)) (fun _ _ _ _ _ => (pg_name (i := 3) nd rfl (Or.inl rfl))) (fun _ _ _ _ _ => pts_nil) (fun _ _ _ _ _ => (pe_cmpR op_le (pv 3) (pv 1) (nomark _)))) pa_nil)))))), ?_⟩
    refine ⟨_, rfl, l, _, rfl, .inl hl, _, rfl, a, C, dx, _, _, rfl, L.ins, T.cl, T.nS, flds_scores, rfl, _, rfl, ?_⟩
    have e1 : decide (V.int (((ofN row).length : Nat) : Int) = V.int ((m.k : Nat) : Int)) = decide (row.length = m.k) := by
      rw [dec_v, ofN_len]
      exact decide_eq_decide.mpr (by omega)
    rw [e1]
    by_cases c : row.length = m.k
    · rw [decide_eq_true c] at k ⊢
      refine iteT ?_
      refine ⟨_, rfl, l, rfl, ⟨_, hl⟩, fun d hd => lc_list (K := K) (a := l) (xs := ofN row) (fun i H' => Same H H' ∧ H' d = some (.lst (((row.take i).map fun v => decide (v ≤ b)).map V.bl))) ⟨Same.new hd, upd_same⟩ (fun i H' _ ⟨s, _⟩ => s.seq hl) ?_ ?_⟩
      · rintro i x H' hx ⟨s5, h5⟩
        obtain ⟨y, hy, rfl⟩ := ofN_get hx
        refine ⟨rfl, lc_yes ?_⟩
        refine ⟨_, rfl, _, rfl, _, _, rfl, rfl, _, h5, lt_line ?_, made_same hd s5, ?_⟩
        · rw [List.length_map, List.length_map]
          have := List.length_take_le' i row
          omega
        · have e2 : decide ((y : Int) ≤ (b : Int)) = decide (y ≤ b) := decide_eq_decide.mpr (by omega)
          rw [upd_same, take_more hy, List.map_append, List.map_append]
          show some (HO.lst (_ ++ [V.bl (decide ((y : Int) ≤ (b : Int)))])) = some (HO.lst (_ ++ [V.bl (decide (y ≤ b))]))
          rw [e2]
      · rintro H' ⟨s5, h5⟩
        rw [ofN_len, List.take_length] at h5
        refine ⟨d, _, rfl, SqL.of h5, ?_⟩
        rw [all_id]
        exact k H' s5
    · rw [decide_eq_false c] at k ⊢
      exact iteF (k H (Same.refl H))
def arChances : List Nat → Option Krdi.Call
  | g :: b :: _ :: l => some (.chances g b l)
  | _ => none
theorem setQ_abs {m : Pm} {g : Nat} (h : m.k ≠ 0) (hg : ¬ 1 < g) (qs : List Rat) : (setQ m g qs).abs = some { m.desk with chances := m.desk.chances.set g qs } := by
  unfold setQ
  split
  · rename_i e
    subst e
    exact abs_some h
  · have e : g = 1 := by omega
    subst e
    exact abs_some h
def badRow (m : Pm) (b : Nat) (l : List Nat) : Bool := decide (b < 1) || decide (1000 < b) || !(decide (l.length = m.k) && l.all fun v => decide (v ≤ b))
theorem act_chances {m : Pm} (h : m.k ≠ 0) (g b : Nat) (l : List Nat) : Krdi.act m.abs (.chances g b l) = if decide (1 < g) then (m.abs, Krdf.say (-2)) else if badRow m b l then (m.abs, Krdf.say (-22)) else ((setQ m g (l.map fun v => Krdh.rat v b)).abs, Krdf.say 0) := by
  have outer : Krdi.act (some m.desk) (.chances g b l) = if decide (1 < g) then (some m.desk, Krdf.say (-2)) else if l.length ≠ m.k || b = 0 || decide (1000 < b) || !(l.all fun v => decide (v ≤ b)) then (some m.desk, Krdf.say (-22)) else (some { m.desk with chances := m.desk.chances.set g (l.map fun v => Krdh.rat v b) }, Krdf.say 0) := rfl
  have eb : (decide (l.length ≠ m.k) || decide (b = 0) || decide (1000 < b) || !(l.all fun v => decide (v ≤ b))) = badRow m b l := by
    unfold badRow
    by_cases h1 : l.length = m.k <;> by_cases h2 : b = 0 <;> by_cases h3 : 1000 < b <;> cases (l.all fun v => decide (v ≤ b)) <;> simp [h1, h2, h3] <;> omega
  rw [abs_some h, outer]
  by_cases c : decide (1 < g) = true
  · rw [if_pos c, if_pos c]
  · have hg : ¬ 1 < g := fun z => c (decide_eq_true z)
    rw [if_neg c, if_neg c, setQ_abs h hg, eb]
theorem Lay.setQs {H : Hp} {a : Addr} {m : Pm} {dx lg lq g0 g1 b0 b1 d : Addr} {pz : V} {g : Nat} {qs : List Rat} (L : Lay K C H a m dx lg lq g0 g1 b0 b1 pz) (hg : ¬ 1 < g) (hd : FrsT K H d qs) (nd : d ≠ lg ∧ d ≠ lq ∧ d ≠ g0 ∧ d ≠ g1 ∧ d ≠ b0 ∧ d ≠ b1) :
    Lay K C (upd H lq (.lst ([V.ref b0, V.ref b1].set g (.ref d)))) a (setQ m g qs) dx lg lq g0 g1 (if g = 0 then d else b0) (if g = 0 then b1 else d) pz := by
  obtain ⟨⟨n1, n2, n3, n4, n5⟩, ⟨n6, n7, n8, n9⟩, ⟨n10, n11, n12⟩, ⟨n13, n14⟩, n15⟩ := nodup6 L.nd
  obtain ⟨x1, x2, x3, x4, x5, x6⟩ := nd
  have nea : a ≠ lq := ne_of L.ins L.hlq (by intro z; cases z)
  unfold setQ
  by_cases e : g = 0
  · subst e
    rw [if_pos rfl, if_pos rfl, if_pos rfl]
    refine ⟨by rw [upd_ne nea]; exact L.ins, L.pay.put L.hlq, by rw [upd_ne n1]; exact L.hlg, upd_same, L.hg0.put L.hlq n6.symm, L.hg1.put L.hlq n7.symm, hd.put L.hlq x2, L.hb1.put L.hlq n9.symm, ?_⟩
    simp only [List.nodup_cons, List.mem_cons, List.not_mem_nil, or_false, not_or, List.nodup_nil, and_true, not_false_eq_true]
    exact ⟨⟨n1, n2, n3, x1.symm, n5⟩, ⟨n6, n7, x2.symm, n9⟩, ⟨n10, x3.symm, n12⟩, ⟨x4.symm, n14⟩, x6⟩
  · have e1 : g = 1 := by omega
    subst e1
    rw [if_neg (by decide), if_neg (by decide), if_neg (by decide)]
    refine ⟨by rw [upd_ne nea]; exact L.ins, L.pay.put L.hlq, by rw [upd_ne n1]; exact L.hlg, upd_same, L.hg0.put L.hlq n6.symm, L.hg1.put L.hlq n7.symm, L.hb0.put L.hlq n8.symm, hd.put L.hlq x2, ?_⟩
    simp only [List.nodup_cons, List.mem_cons, List.not_mem_nil, or_false, not_or, List.nodup_nil, and_true, not_false_eq_true]
    exact ⟨⟨n1, n2, n3, n4, x1.symm⟩, ⟨n6, n7, n8, x2.symm⟩, ⟨n10, n11, x3.symm⟩, ⟨n13, x4.symm⟩, x5.symm⟩
theorem setQ_ok {m : Pm} {g : Nat} {qs : List Rat} (ok : m.Ok) (hl : qs.length = m.k) (hq : ∀ q ∈ qs, Sz 1900 q) : (setQ m g qs).Ok := by
  unfold setQ
  split
  · exact ⟨ok.k4, ok.l0, ok.l1, ok.ok0, ok.ok1, hl, ok.n1, hq, ok.z1, ok.hu, ok.hv⟩
  · exact ⟨ok.k4, ok.l0, ok.l1, ok.ok0, ok.ok1, ok.n0, hl, ok.z0, hq, ok.hu, ok.hv⟩
theorem cut3 (xs : List V) : cutV xs (some 3) none = xs.drop 3 := by
  unfold cutV
  rw [HT.sIx_none]
  have e : HT.sIx xs.length 0 (some (3 : Int)) = min 3 xs.length := HT.sIx_nat xs.length 0 3
  rw [e]
  by_cases h : 3 ≤ xs.length
  · rw [Nat.min_eq_left h]
    exact List.take_of_length_le (by rw [List.length_drop]; exact Nat.le_refl _)
  · rw [Nat.min_eq_right (by omega), Nat.sub_self, List.take_zero, List.drop_eq_nil_of_le (by omega)]
abbrev s_chances : Stmt := top 77
theorem sc_chances : FnScope ["people", "given", "group", "lower", "row", "upper"] ["people", "given"] (defScope s_chances) := ⟨rfl, rfl, rfl, by decide +kernel, rfl, by decide +kernel, by decide +kernel⟩
theorem ok_chances (D : DefAt K mg "chances" s_chances) (T : Tops K mg C) (G_no_group : OkAt P w K mg base 1 "no_group" ["group"] spNoGroup) (G_no_lower : OkAt P w K mg base 1 "no_lower" ["lower"] spNoLower) (G_right_row : OkAt P w K mg base 1 "right_row" ["people", "lower", "row"] (spRow K C)) (G_ratio : OkAt P w K mg base 2 "ratio" ["upper", "lower"] (spRatio K)) :
    OkAt P w K mg base 3 "chances" ["people", "given"] (spC K C false arChances) := by
  refine okAt_of D (fun _ _ _ _ _ _ us hl => match us, hl with | [_, _], _ => rfl) fun f fd F => ?_
  have nd := sc_chances.nd
  refine F.ok sc_chances (fun vs H Q E h => ?_) (fun cdv A outer s H vs Q E hr h => ?_)
  · obtain ⟨a, l, m, fp, ns, c, rfl, _⟩ := h
    rfl
  · obtain ⟨a, l, m, fp, ns, c, rfl, hp, ok, hk, hl, har, hb, k⟩ := h
    refine ⟨_, (pss_cons (ps_set (i := 2) nd rfl (Or.inl rfl) (pe_ix ix_list (pv 1) pe_int (fun _ _ => rfl))) (pss_cons (ps_set (i := 3) nd rfl (Or.inr rfl) (pe_ix ix_list (pv 1) pe_int (fun _ _ => rfl))) (pss_cons (ps_set (i := 4) nd rfl (Or.inl rfl) (pe_slice sl_list (pv 1) (po_some pe_int) po_none)) (pss_cons (ps_if (pt_val (pe_callO G_no_group (hr.mono (by decide)) (by rfl) (pa_cons (pv 2) pa_nil))) (pss_one (ps_ret (pe_lst (pa_cons (pe_gi T.NO_SUCH (by rfl)) pa_nil)))) pss_nil) (pss_cons (ps_if (PW.pt (pw_or (pt_val (pe_callO G_no_lower (hr.mono (by decide)) (by rfl) (pa_cons (pv 3) pa_nil))) (pw_or1 (pt_not (pt_val (pe_callO G_right_row (hr.mono (by decide)) (by rfl) (pa_cons (pv 0) (pa_cons (pv 3) (pa_cons (pv 4) pa_nil))))))))) (pss_one (ps_ret (pe_lst (pa_cons (pe_gi T.NOT_RIGHT (by rfl)) pa_nil)))) pss_nil) (pss_cons (ps_asg (pe_lc (own := [("upper", 5)]) (g := (gName 5)) (te := (tCallO (spRatio K) (tCons (tVar 5) (tCons (tVar 3) tNil)))) (tt := tYes) (by rfl) nd (pi_list (pv 4)) (blkOk_by (own := [("upper", 5)]) (N := ["people", "given", "group", "lower", "row", "upper"]) (sc := defScope s_chances) (by decide +kernel)) (fun _ _ _ _ _ => (pg_name (i := 5) nd rfl (Or.inl rfl))) (fun _ _ _ _ _ => pts_nil) (fun _ _ _ _ _ => (pe_callO G_ratio (hr.mono (by decide)) (by rfl) (pa_cons (pv 5) (pa_cons (pv 3) pa_nil))))) (pg_sub (pe_fld (pv 0) rfl) (pv 2) set_list)) (pss_one (ps_ret (pe_lst (pa_cons pe_int pa_nil)))))))))), ?_⟩
    have hk : m.k ≠ 0 := by simpa using hk
    match ns, har with
    | g :: b :: z :: row, har =>
      have ec : Krdi.Call.chances g b row = c := Option.some.inj har
      subst ec
      rw [act_chances hk] at k
      refine ⟨_, rfl, l, _, _, _, rfl, rfl, hl, at0, ?_⟩
      refine ⟨_, rfl, l, _, _, _, rfl, rfl, hl, at1, ?_⟩
      refine ⟨_, rfl, _, rfl, l, _, rfl, hl, fun r nr => ?_⟩
      rw [cut3]
      have s1 : Same H (upd H r (.lst ((ofN (g :: b :: z :: row)).drop 3))) := Same.new nr
      have hr2 : upd H r (.lst ((ofN (g :: b :: z :: row)).drop 3)) r = some (.lst (ofN row)) := upd_same
      generalize upd H r (.lst ((ofN (g :: b :: z :: row)).drop 3)) = H1 at s1 hr2
      refine ⟨_, rfl, g, rfl, _, rfl, ?_⟩
      cases cg : decide (1 < g) with
      | true =>
        rw [cg, if_pos rfl] at k
        refine iteT ?_
        exact ⟨one_le, fun p np => k.tell hp ok rfl (s1.trans (Same.new np)) (s1.free np) upd_same⟩
      | false =>
        have hg := of_decide_eq_false cg
        rw [cg, if_neg Bool.false_ne_true] at k
        refine iteF ?_
        refine ⟨_, rfl, b, rfl, _, rfl, ?_⟩
        cases cb : decide (b < 1) || decide (1000 < b) with
        | true =>
          have eb : badRow m b row = true := by
            unfold badRow
            rw [cb, Bool.true_or]
          rw [eb, if_pos rfl] at k
          refine iteT (iteT ?_)
          exact ⟨one_le, fun p np => k.tell hp ok rfl (s1.trans (Same.new np)) (s1.free np) upd_same⟩
        | false =>
            have ⟨cb1, cb2⟩ := Bool.or_eq_false_iff.mp cb
            have c1 := of_decide_eq_false cb1
            have c2 := of_decide_eq_false cb2
            refine iteF ⟨_, rfl, _, rfl, _, rfl, a, r, m, fp, b, row, rfl, hp.same s1, ok.k4, SqL.of hr2, fun H2 s2 => ⟨_, rfl, ?_⟩⟩
            have s12 := s1.trans s2
            have eb : badRow m b row = !(decide (row.length = m.k) && row.all fun v => decide (v ≤ b)) := by
              unfold badRow
              rw [cb, Bool.false_or]
            rw [eb] at k
            cases cr : (decide (row.length = m.k) && row.all fun v => decide (v ≤ b)) with
            | false =>
              rw [cr, Bool.not_false, if_pos rfl] at k
              refine iteT ?_
              exact ⟨one_le, fun p np => k.tell hp ok rfl (s12.trans (Same.new np)) (s12.free np) upd_same⟩
            | true =>
              rw [cr, Bool.not_true, if_neg Bool.false_ne_true] at k
              refine iteF ?_
              have ⟨r1, r2⟩ := Bool.and_eq_true_iff.mp cr
              have rl := of_decide_eq_true r1
              have rs : ∀ v ∈ row, v ≤ b := fun v hv => of_decide_eq_true (List.all_eq_true.mp r2 v hv)
              have hr3 := s2 _ _ hr2
              have k4 := ok.k4
              -- [ratio(upper, lower) for upper in row]
              refine ⟨_, rfl, r, rfl, ⟨_, SqL.of hr3⟩, fun d hd => lc_list (K := K) (a := r) (xs := ofN row) (fun i H' => Same H2 H' ∧ FrsT K H' d ((row.take i).map fun v => Krdh.rat v b)) ⟨Same.new hd, [], upd_same, LsOf.nil⟩ (fun i H' _ ⟨s, _⟩ => SqL.of (s _ _ hr3)) ?_ ?_⟩
              · rintro i x H' hx ⟨s5, vs, h5, f5⟩
                obtain ⟨y, hy, rfl⟩ := ofN_get hx
                refine ⟨rfl, lc_yes ?_⟩
                refine ⟨_, rfl, _, rfl, (y : Int), b, 10, rfl, by omega, by decide, by decide, by omega, fun H6 v6 s6 f6 => ?_⟩
                have h6 := s6 _ _ h5
                have l5 := f5.1
                rw [List.length_map] at l5
                have tl := List.length_take_le' i row
                refine ⟨_, h6, lt_line (by omega), made_same hd (s5.trans s6), vs ++ [v6], upd_same, ?_⟩
                rw [take_more hy, List.map_append]
                have er : mkRat (y : Int) b = Krdh.rat y b := by
                  rw [Rat.mkRat_eq_div]
                  rfl
                rw [er] at f6
                exact (f5.imp fun v q f => (f.same s6).put h6).snoc (f6.put h6)
              · rintro H6 ⟨s6, f6⟩
                rw [ofN_len, List.take_length] at f6
                have s16 := s12.trans s6
                obtain ⟨dx, lg, lq, g0, g1, b0, b1, pz, hfp, L0⟩ := hp
                have L := L0.same s16
                have nd : H d = none := s12.free hd
                refine ⟨_, rfl, a, C, dx, _, _, rfl, L.ins, T.cl, T.nC, flds_chances, _, rfl, ?_⟩
                refine ⟨lq, _, _, g, rfl, rfl, L.hlq, ?_, ?_⟩
                · unfold ixN
                  rw [if_pos (by omega), if_pos (by show ((g : Nat) : Int) < 2; omega)]
                  rfl
                have lt : ∀ {x : Addr} {o : HO}, H x = some o → d ≠ x := fun h e => by
                  rw [← e, nd] at h
                  cases h
                obtain ⟨_, hh0, _⟩ := L0.hg0
                obtain ⟨_, hh1, _⟩ := L0.hg1
                obtain ⟨_, hh2, _⟩ := L0.hb0
                obtain ⟨_, hh3, _⟩ := L0.hb1
                have L2' := L.setQs hg f6 ⟨lt L0.hlg, lt L0.hlq, lt hh0, lt hh1, lt hh2, lt hh3⟩
                refine ⟨one_le, fun p np => ?_⟩
                have lqm : lq ∈ fp := by rw [hfp]; simp
                have np' : H p = none := by
                  refine s16.free ?_
                  by_cases e : p = lq
                  · rw [e, upd_same] at np
                    cases np
                  · rw [upd_ne e] at np
                    exact np
                refine k _ p (setQ m g (row.map fun v => Krdh.rat v b)) _ ⟨dx, lg, lq, g0, g1, _, _, pz, rfl, L2'.same (Same.new np)⟩ (setQ_ok ok (by rw [List.length_map, rl]) fun q hq => ?_) rfl (fun x hx => ?_) (fun x o q nx => ?_) np' upd_same
                · obtain ⟨v, hv, rfl⟩ := List.mem_map.mp hq
                  have e : Krdh.rat v b = mkRat (v : Int) b := by
                    rw [Rat.mkRat_eq_div]
                    rfl
                  rw [e]
                  have := rs v hv
                  exact (Sz.mk_ (n := 10) (by omega) (by omega) (by omega)).mono (by decide)
                · rw [hfp]
                  by_cases e0 : g = 0
                  · subst e0
                    simp only [if_true, List.mem_cons, List.not_mem_nil, or_false] at hx ⊢
                    rcases hx with h | h | h | h | h | h | h
                    · exact .inl (.inl h)
                    · exact .inl (.inr (.inl h))
                    · exact .inl (.inr (.inr (.inl h)))
                    · exact .inl (.inr (.inr (.inr (.inl h))))
                    · exact .inl (.inr (.inr (.inr (.inr (.inl h)))))
                    · exact .inr (by rw [h]; exact nd)
                    · exact .inl (.inr (.inr (.inr (.inr (.inr (.inr h))))))
                  · simp only [if_neg e0, List.mem_cons, List.not_mem_nil, or_false] at hx ⊢
                    rcases hx with h | h | h | h | h | h | h
                    · exact .inl (.inl h)
                    · exact .inl (.inr (.inl h))
                    · exact .inl (.inr (.inr (.inl h)))
                    · exact .inl (.inr (.inr (.inr (.inl h))))
                    · exact .inl (.inr (.inr (.inr (.inr (.inl h)))))
                    · exact .inl (.inr (.inr (.inr (.inr (.inr (.inl h))))))
                    · exact .inr (by rw [h]; exact nd)
                · refine Same.new np x o ?_
                  rw [upd_ne (fun e => nx (by rw [e]; exact lqm))]
                  exact s16 x o q
end
end My
namespace My
open PySem PySem.Spec PyProof.Rows L2
section
variable {P : Program} {w : World} {K : PySem.W.Frag} {mg : Str → Option Value} {base : Heap} {C : Addr}
theorem Lay.rowQs {H : Hp} {a : Addr} {m : Pm} {dx lg lq g0 g1 b0 b1 : Addr} {pz : V} (h : Lay K C H a m dx lg lq g0 g1 b0 b1 pz) {g : Nat} (hg : ¬ 1 < g) : ∃ bb, atI [V.ref b0, V.ref b1] (g : Int) = some (.ref bb) ∧ FrsT K H bb (rowQ m g) := by
  unfold rowQ
  by_cases e : g = 0
  · subst e
    exact ⟨b0, at0, h.hb0⟩
  · have e1 : g = 1 := by omega
    subst e1
    exact ⟨b1, at1, h.hb1⟩
theorem rowQ_len {m : Pm} (ok : m.Ok) (g : Nat) : (rowQ m g).length = m.k := by
  unfold rowQ
  split
  · exact ok.n0
  · exact ok.n1
theorem rowQ_sz {m : Pm} (ok : m.Ok) (g : Nat) : ∀ q ∈ rowQ m g, Sz 1900 q := by
  unfold rowQ
  split
  · exact ok.z0
  · exact ok.z1
theorem desk_q {m : Pm} {g : Nat} (hg : ¬ 1 < g) : m.desk.chances.getD g [] = rowQ m g := by
  unfold rowQ
  split
  · rename_i e
    subst e
    rfl
  · have e : g = 1 := by omega
    subst e
    rfl
/-! gains -/
def arGains : List Nat → Option Krdi.Call
  | [g] => some (.gains g)
  | _ => none
theorem act_gains {m : Pm} (ok : m.Ok) (h : m.k ≠ 0) (g : Nat) : Krdi.act m.abs (.gains g) = (m.abs, if decide (1 < g) then Krdf.say (-2) else Krdf.frac (wsum (rowQ m g) (gai m.u m.v (rowM m g)))) := by
  have outer : Krdi.act (some m.desk) (.gains g) = (some m.desk, if decide (1 < g) then Krdf.say (-2) else Krdf.frac (Krdi.gains m.tab ⟨m.u, m.v⟩ g (m.desk.chances.getD g []))) := rfl
  rw [abs_some h, outer]
  by_cases c : decide (1 < g) = true
  · rw [if_pos c, if_pos c]
  · have hg : ¬ 1 < g := fun z => c (decide_eq_true z)
    have hl : (rowOf m.tab g).length = m.tab.k := by
      rw [row_tab m hg]
      exact row_len ok g
    rw [if_neg c, if_neg c, desk_q hg, gains_eq hl (rowQ_len ok g), row_tab m hg]
abbrev s_gains : Stmt := top 78
theorem sc_gains : FnScope ["people", "given", "group"] ["people", "given"] (defScope s_gains) := ⟨rfl, rfl, rfl, by decide +kernel, rfl, by decide +kernel, by decide +kernel⟩
theorem ok_gains (D : DefAt K mg "gains" s_gains) (T : Tops K mg C) (G_no_group : OkAt P w K mg base 1 "no_group" ["group"] spNoGroup) (G_gained : OkAt P w K mg base 5 "gained" ["cells", "chances", "pays"] (spGained K)) (G_told : OkAt P w K mg base 1 "told" ["fraction"] (spTold K)) :
    OkAt P w K mg base 6 "gains" ["people", "given"] (spC K C false arGains) := by
  refine okAt_of D (fun _ _ _ _ _ _ us hl => match us, hl with | [_, _], _ => rfl) fun f fd F => ?_
  have nd := sc_gains.nd
  refine F.ok sc_gains (fun vs H Q E h => ?_) (fun cdv A outer s H vs Q E hr h => ?_)
  · obtain ⟨a, l, m, fp, ns, c, rfl, _⟩ := h
    rfl
  · obtain ⟨a, l, m, fp, ns, c, rfl, hp, ok, hk, hl, har, hb, k⟩ := h
    refine ⟨_, (pss_cons (ps_set (i := 2) nd rfl (Or.inl rfl) (pe_ix ix_list (pv 1) pe_int (fun _ _ => rfl))) (pss_cons (ps_if (pt_val (pe_callO G_no_group (hr.mono (by decide)) (by rfl) (pa_cons (pv 2) pa_nil))) (pss_one (ps_ret (pe_lst (pa_cons (pe_gi T.NO_SUCH (by rfl)) pa_nil)))) pss_nil) (pss_one (ps_ret (pe_callO G_told (hr.mono (by decide)) (by rfl) (pa_cons (pe_callO G_gained (hr.mono (by decide)) (by rfl) (pa_cons (pe_ix ix_list (pe_fld (pv 0) rfl) (pv 2) (fun _ _ => rfl)) (pa_cons (pe_ix ix_list (pe_fld (pv 0) rfl) (pv 2) (fun _ _ => rfl)) (pa_cons (pe_fld (pv 0) rfl) pa_nil)))) pa_nil)))))), ?_⟩
    have hk : m.k ≠ 0 := by simpa using hk
    match ns, har with
    | [g], har =>
      have ec : Krdi.Call.gains g = c := Option.some.inj har
      subst ec
      rw [act_gains ok hk] at k
      refine ⟨_, rfl, l, _, _, _, rfl, rfl, hl, at0, ?_⟩
      refine ⟨_, rfl, g, rfl, _, rfl, ?_⟩
      cases cg : decide (1 < g) with
      | true =>
        rw [cg, if_pos rfl] at k
        refine iteT ?_
        exact ⟨one_le, fun p np => k.tell hp ok rfl (Same.new np) np upd_same⟩
      | false =>
        have hg := of_decide_eq_false cg
        rw [cg, if_neg Bool.false_ne_true] at k
        refine iteF ?_
        obtain ⟨dx, lg, lq, g0, g1, b0, b1, pz, hfp, L⟩ := id hp
        obtain ⟨gg, eg, cT, _⟩ := L.row hg
        obtain ⟨bb, eb, fT⟩ := L.rowQs hg
        refine ⟨_, rfl, a, C, dx, _, _, rfl, L.ins, T.cl, T.nG, flds_groups, _, rfl, lg, _, _, _, rfl, rfl, SqL.of L.hlg, eg, ?_⟩
        refine ⟨_, rfl, a, C, dx, _, _, rfl, L.ins, T.cl, T.nC, flds_chances, _, rfl, lq, _, _, _, rfl, rfl, SqL.of L.hlq, eb, ?_⟩
        refine ⟨_, rfl, a, C, dx, _, _, rfl, L.ins, T.cl, T.nP, flds_pays, ?_⟩
        refine ⟨gg, bb, pz, rowM m g, rowQ m g, m.u, m.v, 1900, rfl, cT.cells, row_ok ok g, fT.frs, by rw [rowQ_len ok, row_len ok], rowQ_sz ok g, by decide, L.pay, ok.hu, ok.hv, fun H2 v2 s2 f2 => ?_⟩
        refine ⟨v2, _, rfl, f2, fun H3 p s3 np hp3 => ?_⟩
        exact k.tell hp ok rfl (s2.trans s3) (s2.free np) hp3
/-! picked -/
def arPicked : List Nat → Option Krdi.Call
  | [g] => some (.picked g)
  | _ => none
theorem act_picked {m : Pm} (ok : m.Ok) (h : m.k ≠ 0) (g : Nat) : Krdi.act m.abs (.picked g) = (m.abs, if decide (1 < g) then Krdf.say (-2) else if (siz (rowM m g)).sum = 0 then Krdf.say (-33) else Krdf.frac (wsum (rowQ m g) (siz (rowM m g)) / (((siz (rowM m g)).sum : Int) : Rat))) := by
  have outer : Krdi.act (some m.desk) (.picked g) = (some m.desk, if decide (1 < g) then Krdf.say (-2) else if Krdi.total m.tab g = 0 then Krdf.say (-33) else Krdf.frac (Krdi.picked m.tab g (m.desk.chances.getD g []))) := rfl
  rw [abs_some h, outer]
  by_cases c : decide (1 < g) = true
  · rw [if_pos c, if_pos c]
  · have hg : ¬ 1 < g := fun z => c (decide_eq_true z)
    have hl : (rowOf m.tab g).length = m.tab.k := by
      rw [row_tab m hg]
      exact row_len ok g
    have te := total_eq hl
    rw [row_tab m hg] at te
    rw [if_neg c, if_neg c, desk_q hg, picked_eq hl (rowQ_len ok g), row_tab m hg]
    by_cases z : (siz (rowM m g)).sum = 0
    · rw [if_pos z, if_pos (by omega)]
    · rw [if_neg z, if_neg (by omega)]
theorem siz_bounds {cs : Cells} (h : CsOk cs) : 0 ≤ (siz cs).sum ∧ (siz cs).sum ≤ 792 := by
  have a := so_sum h
  have b := oth_sum h
  rw [siz_sum]
  omega
abbrev s_picked : Stmt := top 79
theorem sc_picked : FnScope ["people", "given", "group", "sizes"] ["people", "given"] (defScope s_picked) := ⟨rfl, rfl, rfl, by decide +kernel, rfl, by decide +kernel, by decide +kernel⟩
theorem ok_picked (D : DefAt K mg "picked" s_picked) (B : Blt mg) (T : Tops K mg C) (G_no_group : OkAt P w K mg base 1 "no_group" ["group"] spNoGroup) (G_sizes_of : OkAt P w K mg base 1 "sizes_of" ["cells"] (spCells K siz)) (G_mean : OkAt P w K mg base 5 "mean" ["fractions", "weights"] (spMean K)) (G_told : OkAt P w K mg base 1 "told" ["fraction"] (spTold K)) :
    OkAt P w K mg base 6 "picked" ["people", "given"] (spC K C false arPicked) := by
  refine okAt_of D (fun _ _ _ _ _ _ us hl => match us, hl with | [_, _], _ => rfl) fun f fd F => ?_
  have nd := sc_picked.nd
  refine F.ok sc_picked (fun vs H Q E h => ?_) (fun cdv A outer s H vs Q E hr h => ?_)
  · obtain ⟨a, l, m, fp, ns, c, rfl, _⟩ := h
    rfl
  · obtain ⟨a, l, m, fp, ns, c, rfl, hp, ok, hk, hl, har, hb, k⟩ := h
    refine ⟨_, (pss_cons (ps_set (i := 2) nd rfl (Or.inl rfl) (pe_ix ix_list (pv 1) pe_int (fun _ _ => rfl))) (pss_cons (ps_if (pt_val (pe_callO G_no_group (hr.mono (by decide)) (by rfl) (pa_cons (pv 2) pa_nil))) (pss_one (ps_ret (pe_lst (pa_cons (pe_gi T.NO_SUCH (by rfl)) pa_nil)))) pss_nil) (pss_cons (ps_set (i := 3) nd rfl (Or.inl rfl) (pe_callO G_sizes_of (hr.mono (by decide)) (by rfl) (pa_cons (pe_ix ix_list (pe_fld (pv 0) rfl) (pv 2) (fun _ _ => rfl)) pa_nil))) (pss_cons (ps_if (pt_cmpR op_eq (pe_callB (cr_sum rfl) (by rfl) B.sum (by decide +kernel) (pa_cons (pv 3) pa_nil)) pe_int (nomark _)) (pss_one (ps_ret (pe_lst (pa_cons (pe_gi T.LACKING (by rfl)) pa_nil)))) pss_nil) (pss_one (ps_ret (pe_callO G_told (hr.mono (by decide)) (by rfl) (pa_cons (pe_callO G_mean (hr.mono (by decide)) (by rfl) (pa_cons (pe_ix ix_list (pe_fld (pv 0) rfl) (pv 2) (fun _ _ => rfl)) (pa_cons (pv 3) pa_nil))) pa_nil)))))))), ?_⟩
    have hk : m.k ≠ 0 := by simpa using hk
    match ns, har with
    | [g], har =>
      have ec : Krdi.Call.picked g = c := Option.some.inj har
      subst ec
      rw [act_picked ok hk] at k
      refine ⟨_, rfl, l, _, _, _, rfl, rfl, hl, at0, ?_⟩
      refine ⟨_, rfl, g, rfl, _, rfl, ?_⟩
      cases cg : decide (1 < g) with
      | true =>
        rw [cg, if_pos rfl] at k
        refine iteT ?_
        exact ⟨one_le, fun p np => k.tell hp ok rfl (Same.new np) np upd_same⟩
      | false =>
        have hg := of_decide_eq_false cg
        rw [cg, if_neg Bool.false_ne_true] at k
        refine iteF ?_
        obtain ⟨dx, lg, lq, g0, g1, b0, b1, pz, hfp, L⟩ := id hp
        obtain ⟨gg, eg, cT, _⟩ := L.row hg
        have rok := row_ok ok g
        have ⟨z0, z1⟩ := siz_bounds rok
        refine ⟨_, rfl, a, C, dx, _, _, rfl, L.ins, T.cl, T.nG, flds_groups, _, rfl, lg, _, _, _, rfl, rfl, SqL.of L.hlg, eg, gg, rowM m g, rfl, cT.cells, rok.len, fun H2 v2 s2 ⟨p2, e2, h2⟩ => ?_⟩
        subst e2
        refine ⟨_, rfl, p2, _, rfl, SqL.of h2, rfl, _, rfl, ?_⟩
        rw [dec_v]
        by_cases z : (siz (rowM m g)).sum = 0
        · rw [if_pos z] at k
          rw [decide_eq_true z]
          refine iteT ?_
          exact ⟨one_le, fun p np => k.tell hp ok rfl (s2.trans (Same.new np)) (s2.free np) upd_same⟩
        · rw [if_neg z] at k
          rw [decide_eq_false z]
          refine iteF ?_
          obtain ⟨bb, eb, fT⟩ := (L.same s2).rowQs hg
          have L2 := L.same s2
          refine ⟨_, rfl, a, C, dx, _, _, rfl, L2.ins, T.cl, T.nC, flds_chances, _, rfl, lq, _, _, _, rfl, rfl, SqL.of L2.hlq, eb, ?_⟩
          have ql := rowQ_len ok g
          have rl := row_len ok g
          have k4 := ok.k4
          refine ⟨_, rfl, bb, p2, rowQ m g, siz (rowM m g), 1900, rfl, fT.frs, SqL.of h2, by rw [ql, len_siz, rl], rowQ_sz ok g, ⟨siz_small rok⟩, by omega, by decide, by omega, by omega, fun H3 v3 s3 f3 => ?_⟩
          refine ⟨v3, _, rfl, f3, fun H6 p s6 np hp6 => ?_⟩
          have s25 := s2.trans s3
          exact k.tell hp ok rfl (s25.trans s6) (s25.free np) hp6
/-! most, part -/
theorem full_lack {m : Pm} (ok : m.Ok) : (!Krdh.full m.tab) = (lack m.c0 || lack m.c1) := by
  have y0 := yes_eq (t := m.tab) (g := 0) ok.l0
  have n0 := no_eq (t := m.tab) (g := 0) ok.l0
  have y1 := yes_eq (t := m.tab) (g := 1) ok.l1
  have n1 := no_eq (t := m.tab) (g := 1) ok.l1
  have e0 : rowOf m.tab 0 = m.c0 := rfl
  have e1 : rowOf m.tab 1 = m.c1 := rfl
  rw [e0] at y0 n0
  rw [e1] at y1 n1
  have ef : Krdh.full m.tab = ((decide (0 < m.tab.yes 0) && decide (0 < m.tab.no 0)) && ((decide (0 < m.tab.yes 1) && decide (0 < m.tab.no 1)) && true)) := rfl
  have d0 : decide ((so m.c0).sum = 0) = !decide (0 < m.tab.yes 0) := by
    rw [← decide_not]
    exact decide_eq_decide.mpr (by omega)
  have d1 : decide ((oth m.c0).sum = 0) = !decide (0 < m.tab.no 0) := by
    rw [← decide_not]
    exact decide_eq_decide.mpr (by omega)
  have d2 : decide ((so m.c1).sum = 0) = !decide (0 < m.tab.yes 1) := by
    rw [← decide_not]
    exact decide_eq_decide.mpr (by omega)
  have d3 : decide ((oth m.c1).sum = 0) = !decide (0 < m.tab.no 1) := by
    rw [← decide_not]
    exact decide_eq_decide.mpr (by omega)
  unfold lack
  rw [ef, d0, d1, d2, d3]
  cases decide (0 < m.tab.yes 0) <;> cases decide (0 < m.tab.no 0) <;> cases decide (0 < m.tab.yes 1) <;> cases decide (0 < m.tab.no 1) <;> rfl
theorem full_of {m : Pm} (ok : m.Ok) (h : (lack m.c0 || lack m.c1) = false) : Full m.c0 m.c1 := by
  have ⟨h0, h1⟩ := Bool.or_eq_false_iff.mp h
  unfold lack at h0 h1
  have ⟨a0, a1⟩ := Bool.or_eq_false_iff.mp h0
  have ⟨b0, b1⟩ := Bool.or_eq_false_iff.mp h1
  have x0 := of_decide_eq_false a0
  have x1 := of_decide_eq_false a1
  have x2 := of_decide_eq_false b0
  have x3 := of_decide_eq_false b1
  have y0 := so_sum ok.ok0
  have y1 := oth_sum ok.ok0
  have y2 := so_sum ok.ok1
  have y3 := oth_sum ok.ok1
  exact ⟨ok.ok0, ok.ok1, by omega, by omega, by omega, by omega⟩
def arMost : List Nat → Option Krdi.Call
  | [q] => some (.most q)
  | _ => none
theorem act_most {m : Pm} (ok : m.Ok) (h : m.k ≠ 0) (q : Nat) : Krdi.act m.abs (.most q) = (m.abs, if decide (3 < q) then Krdf.say (-22) else if (lack m.c0 || lack m.c1) = true then Krdf.say (-33) else Krdf.frac (mostK q m.u m.v m.c0 m.c1)) := by
  have outer : Krdi.act (some m.desk) (.most q) = (some m.desk, if decide (3 < q) then Krdf.say (-22) else if (!Krdh.full m.tab) = true then Krdf.say (-33) else Krdf.frac (Krdi.most m.tab ⟨m.u, m.v⟩ q)) := rfl
  rw [abs_some h, outer, full_lack ok]
  by_cases c : decide (3 < q) = true
  · rw [if_pos c, if_pos c]
  · rw [if_neg c, if_neg c]
    have hq : ¬ 3 < q := fun z => c (decide_eq_true z)
    by_cases d : (lack m.c0 || lack m.c1) = true
    · rw [if_pos d, if_pos d]
    · rw [if_neg d, if_neg d, most_all ok.tabOk (full_of ok (Bool.eq_false_iff.mpr d)) (by omega)]
abbrev s_most : Stmt := top 81
theorem sc_most : FnScope ["people", "given", "kind", "refused"] ["people", "given"] (defScope s_most) := ⟨rfl, rfl, rfl, by decide +kernel, rfl, by decide +kernel, by decide +kernel⟩
theorem ok_most (D : DefAt K mg "most" s_most) (T : Tops K mg C) (G_refusal : OkAt P w K mg base 3 "refusal" ["people", "wrong"] (spRefusal K C)) (G_no_kind : OkAt P w K mg base 1 "no_kind" ["kind"] spNoKind) (G_most_of : OkAt P w K mg base 11 "most_of" ["kind", "groups", "pays"] (spBest K mostK 0)) (G_told : OkAt P w K mg base 1 "told" ["fraction"] (spTold K)) :
    OkAt P w K mg base 12 "most" ["people", "given"] (spC K C false arMost) := by
  refine okAt_of D (fun _ _ _ _ _ _ us hl => match us, hl with | [_, _], _ => rfl) fun f fd F => ?_
  have nd := sc_most.nd
  refine F.ok sc_most (fun vs H Q E h => ?_) (fun cdv A outer s H vs Q E hr h => ?_)
  · obtain ⟨a, l, m, fp, ns, c, rfl, _⟩ := h
    rfl
  · obtain ⟨a, l, m, fp, ns, c, rfl, hp, ok, hk, hl, har, hb, k⟩ := h
    refine ⟨_, (pss_cons (ps_set (i := 2) nd rfl (Or.inl rfl) (pe_ix ix_list (pv 1) pe_int (fun _ _ => rfl))) (pss_cons (ps_set (i := 3) nd rfl (Or.inl rfl) (pe_callO G_refusal (hr.mono (by decide)) (by rfl) (pa_cons (pv 0) (pa_cons (pe_callO G_no_kind (hr.mono (by decide)) (by rfl) (pa_cons (pv 2) pa_nil)) pa_nil)))) (pss_cons (ps_if (pt_cmpR (op_neD hr.units) (pv 3) (pe_lst pa_nil) (nomark _)) (pss_one (ps_ret (pv 3))) pss_nil) (pss_one (ps_ret (pe_callO G_told (hr.mono (by decide)) (by rfl) (pa_cons (pe_callO G_most_of (hr.mono (by decide)) (by rfl) (pa_cons (pv 2) (pa_cons (pe_fld (pv 0) rfl) (pa_cons (pe_fld (pv 0) rfl) pa_nil)))) pa_nil))))))), ?_⟩
    have hk : m.k ≠ 0 := by simpa using hk
    match ns, har with
    | [q], har =>
      have ec : Krdi.Call.most q = c := Option.some.inj har
      subst ec
      rw [act_most ok hk] at k
      refine ⟨_, rfl, l, _, _, _, rfl, rfl, hl, at0, ?_⟩
      refine ⟨_, rfl, _, rfl, q, rfl, a, m, fp, _, rfl, hp, ok, fun H2 p2 s2 n2 h2 => ?_⟩
      cases c3 : decide (3 < q) with
      | true =>
        rw [c3, if_pos rfl] at k
        rw [c3] at h2
        refine t_ref_yes (K := K) (i := 3) (z := -22) rfl h2 fun H3 s3 => ?_
        exact iteT ⟨_, rfl, k.tell hp ok rfl (s2.trans s3) n2 (s3 _ _ h2)⟩
      | false =>
        rw [c3, if_neg Bool.false_ne_true] at k
        rw [c3] at h2
        have q3 := of_decide_eq_false c3
        cases cl : lack m.c0 || lack m.c1 with
        | true =>
          rw [cl, if_pos rfl] at k
          rw [cl] at h2
          refine t_ref_yes (K := K) (i := 3) (z := -33) rfl h2 fun H3 s3 => ?_
          exact iteT ⟨_, rfl, k.tell hp ok rfl (s2.trans s3) n2 (s3 _ _ h2)⟩
        | false =>
          rw [cl, if_neg Bool.false_ne_true] at k
          rw [cl] at h2
          refine t_ref_no (K := K) (i := 3) rfl h2 fun H3 s3 => iteF ?_
          have s23 := s2.trans s3
          have full := full_of ok cl
          obtain ⟨dx, lg, lq, g0, g1, b0, b1, pz, hfp, L0⟩ := id hp
          have L := L0.same s23
          refine ⟨_, rfl, _, rfl, a, C, dx, _, _, rfl, L.ins, T.cl, T.nG, flds_groups, _, rfl, a, C, dx, _, _, rfl, L.ins, T.cl, T.nP, flds_pays, ?_⟩
          refine ⟨q, lg, pz, m.c0, m.c1, m.u, m.v, rfl, Nat.zero_le _, by omega, L.groups, full, L.pay, ok.hu, ok.hv, fun H4 v4 s4 f4 => ?_⟩
          refine ⟨v4, _, rfl, f4, fun H5 p s5 np hp5 => ?_⟩
          have s24 := s23.trans s4
          exact k.tell hp ok rfl (s24.trans s5) (s24.free np) hp5
def arPart : List Nat → Option Krdi.Call
  | [q] => some (.part q)
  | _ => none
theorem act_part {m : Pm} (ok : m.Ok) (h : m.k ≠ 0) (q : Nat) : Krdi.act m.abs (.part q) = (m.abs, if (decide (q = 0) || decide (3 < q)) = true then Krdf.say (-22) else if (lack m.c0 || lack m.c1) = true then Krdf.say (-33) else Krdf.frac (partK q m.u m.v m.c0 m.c1)) := by
  have outer : Krdi.act (some m.desk) (.part q) = (some m.desk, if (decide (3 < q) || decide (q = 0)) = true then Krdf.say (-22) else if (!Krdh.full m.tab) = true then Krdf.say (-33) else if q = 1 then Krdf.frac (Krdi.bestPart m.tab ⟨m.u, m.v⟩) else if q = 2 then Krdf.frac (Krdi.bestHits m.tab ⟨m.u, m.v⟩) else Krdf.frac (Krdh.best m.tab m.u m.v).2) := rfl
  rw [abs_some h, outer, full_lack ok, Bool.or_comm]
  by_cases c : (decide (q = 0) || decide (3 < q)) = true
  · rw [if_pos c, if_pos c]
  · rw [if_neg c, if_neg c]
    have ⟨c1, c2⟩ := Bool.or_eq_false_iff.mp (Bool.eq_false_iff.mpr c)
    have q0 := of_decide_eq_false c1
    have q3 := of_decide_eq_false c2
    by_cases d : (lack m.c0 || lack m.c1) = true
    · rw [if_pos d, if_pos d]
    · rw [if_neg d, if_neg d]
      have full := full_of ok (Bool.eq_false_iff.mpr d)
      unfold partK
      by_cases e1 : q = 1
      · subst e1
        rw [if_pos rfl, if_neg (by decide), bestPart_eq ok.tabOk full]
      · rw [if_neg e1]
        by_cases e2 : q = 2
        · subst e2
          rw [if_pos rfl, if_neg (by decide), bestHits_eq ok.tabOk full]
        · have e3 : q = 3 := by omega
          subst e3
          rw [if_neg e2, if_pos rfl, best3_eq ok.tabOk full]
abbrev s_part : Stmt := top 82
theorem sc_part : FnScope ["people", "given", "kind", "refused"] ["people", "given"] (defScope s_part) := ⟨rfl, rfl, rfl, by decide +kernel, rfl, by decide +kernel, by decide +kernel⟩
theorem ok_part (D : DefAt K mg "part" s_part) (T : Tops K mg C) (G_refusal : OkAt P w K mg base 3 "refusal" ["people", "wrong"] (spRefusal K C)) (G_no_kind : OkAt P w K mg base 1 "no_kind" ["kind"] spNoKind) (G_part_of : OkAt P w K mg base 11 "part_of" ["kind", "groups", "pays"] (spBest K partK 1)) (G_told : OkAt P w K mg base 1 "told" ["fraction"] (spTold K)) :
    OkAt P w K mg base 12 "part" ["people", "given"] (spC K C false arPart) := by
  refine okAt_of D (fun _ _ _ _ _ _ us hl => match us, hl with | [_, _], _ => rfl) fun f fd F => ?_
  have nd := sc_part.nd
  refine F.ok sc_part (fun vs H Q E h => ?_) (fun cdv A outer s H vs Q E hr h => ?_)
  · obtain ⟨a, l, m, fp, ns, c, rfl, _⟩ := h
    rfl
  · obtain ⟨a, l, m, fp, ns, c, rfl, hp, ok, hk, hl, har, hb, k⟩ := h
    refine ⟨_, (pss_cons (ps_set (i := 2) nd rfl (Or.inl rfl) (pe_ix ix_list (pv 1) pe_int (fun _ _ => rfl))) (pss_cons (ps_set (i := 3) nd rfl (Or.inl rfl) (pe_callO G_refusal (hr.mono (by decide)) (by rfl) (pa_cons (pv 0) (pa_cons (pe_or (pe_cmpR op_eq (pv 2) (pe_gi T.FREELY (by rfl)) (nomark _)) (pe_one (pe_callO G_no_kind (hr.mono (by decide)) (by rfl) (pa_cons (pv 2) pa_nil)))) pa_nil)))) (pss_cons (ps_if (pt_cmpR (op_neD hr.units) (pv 3) (pe_lst pa_nil) (nomark _)) (pss_one (ps_ret (pv 3))) pss_nil) (pss_one (ps_ret (pe_callO G_told (hr.mono (by decide)) (by rfl) (pa_cons (pe_callO G_part_of (hr.mono (by decide)) (by rfl) (pa_cons (pv 2) (pa_cons (pe_fld (pv 0) rfl) (pa_cons (pe_fld (pv 0) rfl) pa_nil)))) pa_nil))))))), ?_⟩
    have hk : m.k ≠ 0 := by simpa using hk
    match ns, har with
    | [q], har =>
      have ec : Krdi.Call.part q = c := Option.some.inj har
      subst ec
      rw [act_part ok hk] at k
      refine ⟨_, rfl, l, _, _, _, rfl, rfl, hl, at0, ?_⟩
      -- kind == FREELY or no_kind(kind)
      have test : ∀ (R : VK), R (.bl (decide (q = 0) || decide (3 < q))) H → tOrV (tOp rEq (tVar 2) (tC (.int 0))) (tCallO spNoKind (tCons (tVar 2) tNil)) [some (.ref a), some (.ref l), some (.int (q : Int)), none] H R := by
        intro R hR
        refine ⟨_, rfl, rfl, _, rfl, ?_⟩
        rw [kd]
        by_cases c0 : q = 0
        · rw [decide_eq_true c0, Bool.true_or] at hR
          rw [decide_eq_true (by omega)]
          exact iteT hR
        · rw [decide_eq_false c0, Bool.false_or] at hR
          rw [decide_eq_false (by omega)]
          exact iteF ⟨_, rfl, q, rfl, hR⟩
      refine ⟨_, rfl, ?_⟩
      refine test _ ?_
      refine ⟨a, m, fp, _, rfl, hp, ok, fun H2 p2 s2 n2 h2 => ?_⟩
      cases c3 : decide (q = 0) || decide (3 < q) with
      | true =>
        rw [c3, if_pos rfl] at k
        rw [c3] at h2
        refine t_ref_yes (K := K) (i := 3) (z := -22) rfl h2 fun H3 s3 => ?_
        exact iteT ⟨_, rfl, k.tell hp ok rfl (s2.trans s3) n2 (s3 _ _ h2)⟩
      | false =>
        rw [c3, if_neg Bool.false_ne_true] at k
        rw [c3] at h2
        have ⟨d0, d3⟩ := Bool.or_eq_false_iff.mp c3
        have q0 := of_decide_eq_false d0
        have q3 := of_decide_eq_false d3
        cases cl : lack m.c0 || lack m.c1 with
        | true =>
          rw [cl, if_pos rfl] at k
          rw [cl] at h2
          refine t_ref_yes (K := K) (i := 3) (z := -33) rfl h2 fun H3 s3 => ?_
          exact iteT ⟨_, rfl, k.tell hp ok rfl (s2.trans s3) n2 (s3 _ _ h2)⟩
        | false =>
          rw [cl, if_neg Bool.false_ne_true] at k
          rw [cl] at h2
          refine t_ref_no (K := K) (i := 3) rfl h2 fun H3 s3 => iteF ?_
          have s23 := s2.trans s3
          have full := full_of ok cl
          obtain ⟨dx, lg, lq, g0, g1, b0, b1, pz, hfp, L0⟩ := id hp
          have L := L0.same s23
          refine ⟨_, rfl, _, rfl, a, C, dx, _, _, rfl, L.ins, T.cl, T.nG, flds_groups, _, rfl, a, C, dx, _, _, rfl, L.ins, T.cl, T.nP, flds_pays, ?_⟩
          refine ⟨q, lg, pz, m.c0, m.c1, m.u, m.v, rfl, by omega, by omega, L.groups, full, L.pay, ok.hu, ok.hv, fun H4 v4 s4 f4 => ?_⟩
          refine ⟨v4, _, rfl, f4, fun H5 p s5 np hp5 => ?_⟩
          have s24 := s23.trans s4
          exact k.tell hp ok rfl (s24.trans s5) (s24.free np) hp5
end
end My
namespace My
open PySem PySem.Spec PyProof.Rows L2
/-! ## kinds.py -/
def widths : List Int := [1, 4, 2, 2, 2, 1, 1, 1, 1, 1, 2, 1, 1, 3, 3, 3, 0]
theorem widths_at {p : Nat} (h : p ≤ 16) : (widths.map V.int)[p]? = some (V.int (wid p : Int)) := by
  have : p < 17 := by omega
  match p, this with
  | 0, _ => rfl
  | 1, _ => rfl
  | 2, _ => rfl
  | 3, _ => rfl
  | 4, _ => rfl
  | 5, _ => rfl
  | 6, _ => rfl
  | 7, _ => rfl
  | 8, _ => rfl
  | 9, _ => rfl
  | 10, _ => rfl
  | 11, _ => rfl
  | 12, _ => rfl
  | 13, _ => rfl
  | 14, _ => rfl
  | 15, _ => rfl
  | 16, _ => rfl
  | n + 17, h => exact absurd h (by omega)
section
variable {P : Program} {w : World} {K : PySem.W.Frag} {mg : Str → Option Value} {base : Heap} {C : Addr}
structure Con2 (K : PySem.W.Frag) (mg : Str → Option Value) : Prop where
  CHANCES : ∃ t, mg "CHANCES" = some (.int 4 t)
  WHOLE_NUMBERS : ∃ z, mg "WHOLE_NUMBERS" = some (.ref z) ∧ ∀ H', SqT K H' z (widths.map V.int)
def spEnd (K : PySem.W.Frag) : Sp := fun vs H Q _ => ∃ (a : Addr) (N : List Nat) (i p : Nat), vs = [.ref a, .int (i : Int)] ∧ SqL K H a (ofN N) ∧ N[i]? = some p ∧ p ≤ 16 ∧ behind p (N.drop (i + 1)) ≤ (N.drop (i + 1)).length ∧ Q (.int ((i + 1 + behind p (N.drop (i + 1)) : Nat) : Int)) H
abbrev s_end_of : Stmt := top 97
theorem sc_end_of : FnScope ["calls", "at", "end"] ["calls", "at"] (defScope s_end_of) := ⟨rfl, rfl, rfl, by decide +kernel, rfl, by decide +kernel, by decide +kernel⟩
theorem ok_end_of (D : DefAt K mg "end_of" s_end_of) (T : Con2 K mg) : OkAt P w K mg base 1 "end_of" ["calls", "at"] (spEnd K) := by
  refine okAt_of D (fun _ _ _ _ _ _ us hl => match us, hl with | [_, _], _ => rfl) fun f fd F => ?_
  have nd := sc_end_of.nd
  refine F.ok sc_end_of (fun vs H Q E h => ?_) (fun cdv A outer s H vs Q E hr h => ?_)
  · obtain ⟨a, N, i, p, rfl, _⟩ := h
    rfl
  · obtain ⟨a, N, i, p, rfl, ha, hi, hp, hb, k⟩ := h
    refine ⟨_, (pss_cons (ps_set (i := 2) nd rfl (Or.inl rfl) (pe_op op_add (pe_op op_add (pv 1) pe_int) (pe_ix ix_tup (pe_gt T.WHOLE_NUMBERS (by rfl)) (pe_ix ix_list (pv 0) (pv 1) (fun _ _ => rfl)) (fun _ _ => rfl)))) (pss_cons (ps_if (pt_cmpR op_eq (pe_ix ix_list (pv 0) (pv 1) (fun _ _ => rfl)) (pe_gi T.CHANCES (by rfl)) (nomark _)) (pss_one (ps_set (i := 2) nd rfl (Or.inl rfl) (pe_op op_add (pe_op op_add (pv 2) pe_int) (pe_ix ix_list (pv 0) (pv 2) (fun _ _ => rfl))))) pss_nil) (pss_one (ps_ret (pv 2))))), ?_⟩
    refine ⟨_, rfl, _, _, rfl, rfl, ?_⟩
    intro z hz
    refine ⟨_, rfl, _, rfl, a, _, _, _, rfl, rfl, ha, atI_nat (ofN_at hi), z, _, _, _, rfl, rfl, hz _, atI_nat (widths_at hp), _, _, rfl, rfl, ?_⟩
    refine ⟨_, rfl, _, rfl, a, _, _, _, rfl, rfl, ha, atI_nat (ofN_at hi), rfl, _, rfl, ?_⟩
    rw [kd]
    by_cases c4 : p = 4
    · subst c4
      refine iteT ?_
      have ebh : behind 4 (N.drop (i + 1)) = 3 + (N.drop (i + 1)).getD 2 0 := rfl
      rw [ebh] at hb k
      have h2 : (N.drop (i + 1))[2]? = some ((N.drop (i + 1)).getD 2 0) := by
        rw [List.getD_eq_getElem?_getD, List.getElem?_eq_getElem (by omega)]
        rfl
      generalize (N.drop (i + 1)).getD 2 0 = m at hb k h2
      rw [List.getElem?_drop] at h2
      have ew : ((i : Int) + 1 + ((wid 4 : Nat) : Int)) = ((i + 1 + 2 : Nat) : Int) := by
        have : wid 4 = 2 := rfl
        rw [this]
        omega
      refine ⟨_, rfl, _, _, rfl, rfl, _, rfl, _, rfl, a, _, _, _, rfl, rfl, ha, (by rw [ew]; exact atI_nat (ofN_at h2)), _, _, rfl, rfl, ?_⟩
      refine ⟨_, rfl, ?_⟩
      have ef : ((i : Int) + 1 + ((wid 4 : Nat) : Int) + 1 + (m : Int)) = ((i + 1 + (3 + m) : Nat) : Int) := by omega
      rw [← ef] at k
      exact k
    · rw [decide_eq_false (by omega)]
      refine iteF ⟨_, rfl, ?_⟩
      have ebh : behind p (N.drop (i + 1)) = wid p := if_neg c4
      rw [ebh] at k
      have ef : ((i : Int) + 1 + ((wid p : Nat) : Int)) = ((i + 1 + wid p : Nat) : Int) := by omega
      rw [← ef] at k
      exact k
def spAnswer (K : PySem.W.Frag) (C : Addr) : Sp := fun vs H Q _ => ∃ (a l : Addr) (m : Pm) (fp : List Addr) (p : Nat) (ns : List Nat) (c : Krdi.Call), vs = [.ref a, .int (p : Int), .ref l] ∧ PAtF K C H a m fp ∧ m.Ok ∧ p ≤ 16 ∧ SqL K H l (ofN ns) ∧ arOf p ns = some c ∧ (∀ n ∈ ns, n < 4294967296) ∧
  Done K C H a fp (Krdi.act m.abs c).1 (KrdiNeutral.told (Krdi.act m.abs c).2) Q
theorem Lay.side {H : Hp} {a : Addr} {m : Pm} {dx lg lq g0 g1 b0 b1 d : Addr} {pz : V} {xs ys : List V} (L : Lay K C H a m dx lg lq g0 g1 b0 b1 pz) (hd : H d = some (.lst xs)) (nd : d ∉ [a, lg, lq, g0, g1, b0, b1]) : Lay K C (upd H d (.lst ys)) a m dx lg lq g0 g1 b0 b1 pz := by
  simp only [List.mem_cons, List.not_mem_nil, or_false, not_or] at nd
  obtain ⟨n1, n2, n3, n4, n5, n6, n7⟩ := nd
  exact ⟨by rw [upd_ne (Ne.symm n1)]; exact L.ins, L.pay.put hd, by rw [upd_ne (Ne.symm n2)]; exact L.hlg, by rw [upd_ne (Ne.symm n3)]; exact L.hlq, L.hg0.put hd (Ne.symm n4), L.hg1.put hd (Ne.symm n5), L.hb0.put hd (Ne.symm n6), L.hb1.put hd (Ne.symm n7), L.nd⟩
theorem PAtF.side {H : Hp} {a d : Addr} {m : Pm} {fp : List Addr} {xs ys : List V} (h : PAtF K C H a m fp) (hd : H d = some (.lst xs)) (nd : d ∉ fp) : PAtF K C (upd H d (.lst ys)) a m fp := by
  obtain ⟨dx, lg, lq, g0, g1, b0, b1, pz, rfl, L⟩ := h
  exact ⟨dx, lg, lq, g0, g1, b0, b1, pz, rfl, L.side hd nd⟩
theorem cut_mid (xs : List V) (i j : Nat) (hj : j ≤ xs.length) (hi : i ≤ j) : cutV xs (some (i : Int)) (some (j : Int)) = (xs.drop i).take (j - i) := by
  unfold cutV
  rw [HT.sIx_nat, HT.sIx_nat, Nat.min_eq_left hj, Nat.min_eq_left (show i ≤ xs.length by omega)]
theorem ofN_cut (N : List Nat) (i n : Nat) : ((ofN N).drop i).take n = ofN ((N.drop i).take n) := by
  unfold ofN
  rw [List.map_take, List.map_drop]
def spAns (K : PySem.W.Frag) : Sp := fun vs H Q _ => ∃ (a : Addr) (ns : List Int), vs = [.ref a] ∧ SqL K H a (ns.map V.int) ∧ ns.length ≤ 10360 ∧ (∀ x ∈ ns, 0 ≤ x ∧ x ≤ 4294967295) ∧ PyKrdi.answers_asked ns = true ∧
  ∀ (H' : Hp) (p : Addr), H' p = some (.lst ((PyKrdi.answers ns).map V.int)) → Q (.ref p) H'
theorem asked_raw {ns : List Int} (h : PyKrdi.answers_asked ns = true) : ∃ raw, PyFlat.calls PyKrdi.shape ns.length ns = some raw ∧ (PyKrdi.answers ns).length ≤ 10000000 := by
  unfold PyKrdi.answers_asked at h
  split at h
  · cases h
  · rename_i raw hr
    have h2 := (Bool.and_eq_true_iff.mp h).2
    unfold PyFlat.short at h2
    exact ⟨raw, hr, of_decide_eq_true h2⟩
theorem nat_list {ns : List Int} (h : ∀ x ∈ ns, 0 ≤ x ∧ x ≤ 4294967295) : ∃ N : List Nat, ns = asI N ∧ ∀ n ∈ N, n < 4294967296 := by
  refine ⟨ns.map Int.toNat, ?_, fun n hn => ?_⟩
  · unfold asI
    rw [List.map_map]
    refine (List.map_id'' (fun x => rfl) ns).symm.trans (List.map_congr_left fun x hx => ?_)
    have := (h x hx).1
    show x = ((x.toNat : Nat) : Int)
    omega
  · obtain ⟨x, hx, rfl⟩ := List.mem_map.mp hn
    have := h x hx
    omega
theorem asI_ofN (N : List Nat) : (asI N).map V.int = ofN N := by
  unfold ofN
  rw [List.map_map]
  rfl
abbrev s_answers : Stmt := top 98
theorem sc_answers : FnScope ["calls", "people", "said", "at", "end", "numbers"] ["calls"] (defScope s_answers) := ⟨rfl, rfl, rfl, by decide +kernel, rfl, by decide +kernel, by decide +kernel⟩
theorem ok_answers {f : Addr} {fd : FuncData} (F : Fun K "answers" "answers" s_answers f fd) (B : Blt mg) (T : ClsT K mg C) (M_People : MkAt P w K mg base C 2 (spInitM K C)) (G_end_of : OkAt P w K mg base 1 "end_of" ["calls", "at"] (spEnd K)) {kA : Nat} (hkA : kA ≤ 18) (G_answer : OkAt P w K mg base kA "answer" ["people", "number", "given"] (spAnswer K C)) : FnOk P w K mg base CX0 20 f fd ["calls"] (spAns K) := by
  have G_answer : OkAt P w K mg base 18 "answer" ["people", "number", "given"] (spAnswer K C) := by
    obtain ⟨f, fd, h1, h2, h3, F⟩ := G_answer.ex
    exact ⟨f, fd, h1, h2, h3, F.mono hkA⟩
  have nd := sc_answers.nd
  refine F.ok sc_answers (fun vs H Q E h => ?_) (fun cdv A outer s H vs Q E hr h => ?_)
  · obtain ⟨a, ns, rfl, _⟩ := h
    rfl
  · obtain ⟨a, ns, rfl, ha, hlen, hin, asked, k⟩ := h
    refine ⟨_, (pss_cons (ps_set (i := 1) nd rfl (Or.inl rfl) (pe_makeO M_People (hr.mono (by decide)) (by rfl) T.gPeople)) (pss_cons (ps_set (i := 2) nd rfl (Or.inl rfl) (pe_lst pa_nil)) (pss_cons (ps_set (i := 3) nd rfl (Or.inl rfl) pe_int) (pss_cons (ps_while PassesOwn.never (pt_cmpR op_lt (pv 3) (pe_callB call_len_seq (by rfl) B.len (by decide +kernel) (pa_cons (pv 0) pa_nil)) (nomark _)) (pss_cons (ps_set (i := 4) nd rfl (Or.inl rfl) (pe_callO G_end_of (hr.mono (by decide)) (by rfl) (pa_cons (pv 0) (pa_cons (pv 3) pa_nil)))) (pss_cons (ps_set (i := 5) nd rfl (Or.inl rfl) (pe_callO G_answer (hr.mono (by decide)) (by rfl) (pa_cons (pv 1) (pa_cons (pe_ix ix_list (pv 0) (pv 3) (fun _ _ => rfl)) (pa_cons (pe_slice sl_list (pv 0) (po_some (pe_op op_add (pv 3) pe_int)) (po_some (pv 4))) pa_nil))))) (pss_cons (ps_expr (pe_bm PySem.F.plainAttrs_list PySem.F.slot_list_append PySem.F.type_list_append mt_append (pv 2) (pa_cons (pe_callB call_len_seq (by rfl) B.len (by decide +kernel) (pa_cons (pv 5) pa_nil)) pa_nil))) (pss_cons (ps_expr (pe_bm PySem.F.plainAttrs_list PySem.F.slot_list_extend PySem.F.type_list_extend mt_extend (pv 2) (pa_cons (pv 5) pa_nil))) (pss_one (ps_set (i := 3) nd rfl (Or.inl rfl) (pv 4)))))))) (pss_one (ps_ret (pv 2))))))), ?_⟩
    obtain ⟨raw0, hraw0, hshort⟩ := asked_raw asked
    have hans := answers_still hraw0
    obtain ⟨N, rfl, hN⟩ := nat_list hin
    rw [asI_ofN] at ha
    have nl : N.length ≤ 10360 := by
      have e : (asI N).length = N.length := List.length_map _
      omega
    -- people = People()
    intro x dx nx ndx nex
    refine ⟨x, dx, rfl, upd_same, fun H1 fp1 hp1 hf1 hb1 => ⟨rfl, ?_⟩⟩
    have sxx : Same H (upd (upd H dx (.own x)) x (.ins C dx [])) := fun b o e => by
      rw [upd_ne (ne_of_none e nx), upd_ne (ne_of_none e ndx)]
      exact e
    have s1 : Same H H1 := fun b o e => hb1 b o (sxx b o e) (ne_of_none e nx)
    have fpn : ∀ b ∈ fp1, H b = none := fun b hb => by
      rcases hf1 b hb with e | e
      · rw [e]; exact nx
      · exact sxx.free e
    -- said = []
    refine ⟨Nat.zero_le _, fun sd nsd => ?_⟩
    have s2 : Same H1 (upd H1 sd (.lst [])) := Same.new nsd
    have nosd : sd ∉ fp1 := fun hm => by
      obtain ⟨dx', lg, lq, g0, g1, b0, b1, pz, rfl, L⟩ := hp1
      obtain ⟨_, h0, _⟩ := L.hg0
      obtain ⟨_, h1, _⟩ := L.hg1
      obtain ⟨_, h2, _⟩ := L.hb0
      obtain ⟨_, h3, _⟩ := L.hb1
      simp only [List.mem_cons, List.not_mem_nil, or_false] at hm
      rcases hm with rfl | rfl | rfl | rfl | rfl | rfl | rfl
      · rw [L.ins] at nsd; cases nsd
      · rw [L.hlg] at nsd; cases nsd
      · rw [L.hlq] at nsd; cases nsd
      · rw [h0] at nsd; cases nsd
      · rw [h1] at nsd; cases nsd
      · rw [h2] at nsd; cases nsd
      · rw [h3] at nsd; cases nsd
    -- while at < len(calls)
    refine ⟨fun mm σ H' => ∃ (i f : Nat) (m : Pm) (fp : List Addr) (raw : List (List (List Int))) (S : List Int) (v1 v2 : Option V), σ = [some (.ref a), some (.ref x), some (.ref sd), some (.int (i : Int)), v1, v2] ∧ mm = N.length - i ∧ i ≤ N.length ∧ Same H H' ∧ PAtF K C H' x m fp ∧ m.Ok ∧ (∀ b ∈ fp, H b = none) ∧ sd ∉ fp ∧ H' sd = some (.lst (S.map V.int)) ∧
        PyFlat.calls PyKrdi.shape f (asI (N.drop i)) = some raw ∧ PyKrdi.answers (asI N) = S ++ still m.abs raw, ⟨_, 0, (asI N).length, fresh 0, fp1, raw0, [], none, none, rfl, rfl, Nat.zero_le _, s1.trans s2, hp1.same s2, fresh_ok (by decide), fpn, nosd, upd_same, hraw0, hans⟩, ?_⟩
    rintro mm σ H' ⟨i, f, m, fp, raw, S, v1, v2, rfl, rfl, hi, s5, hp5, ok5, fp5, no5, h5, hr5, ha5⟩
    refine ⟨_, rfl, _, rfl, a, _, rfl, .inl (s5.seq ha), _, _, rfl, rfl, _, rfl, ?_⟩
    rw [ofN_len]
    by_cases hlt : i < N.length
    · rw [decide_eq_true (by omega)]
      refine iteT ?_
      have hpi : N[i]? = some N[i] := List.getElem?_eq_getElem hlt
      have hdrop : N.drop i = N[i] :: N.drop (i + 1) := List.drop_eq_getElem_cons hlt
      generalize N[i] = p at hpi hdrop
      rw [hdrop] at hr5
      obtain ⟨f', c, raw', rfl, hbl, hp16, har, hr6⟩ := calls_cons hr5
      have ld : (N.drop (i + 1)).length = N.length - (i + 1) := List.length_drop
      have eend : i + 1 + behind p (N.drop (i + 1)) ≤ N.length := by omega
      rw [still_cons] at ha5
      refine ⟨fun σ' H2 => ∃ (i' f : Nat) (m : Pm) (fp : List Addr) (raw : List (List (List Int))) (S : List Int) (v1 v2 : Option V), σ' = [some (.ref a), some (.ref x), some (.ref sd), some (.int (i' : Int)), v1, v2] ∧ i < i' ∧ i' ≤ N.length ∧ Same H H2 ∧ PAtF K C H2 x m fp ∧ m.Ok ∧ (∀ b ∈ fp, H b = none) ∧ sd ∉ fp ∧ H2 sd = some (.lst (S.map V.int)) ∧
          PyFlat.calls PyKrdi.shape f (asI (N.drop i')) = some raw ∧ PyKrdi.answers (asI N) = S ++ still m.abs raw, ?_, ?_⟩
      · rintro σ' H2 ⟨i', f, m, fp, raw, S, v1, v2, e1, e2, e3, e4⟩
        exact ⟨N.length - i', by omega, i', f, m, fp, raw, S, v1, v2, e1, rfl, e3, e4⟩
      · -- end = end_of(calls, at)
        refine ⟨_, rfl, _, rfl, a, N, i, p, rfl, s5.seq ha, hpi, hp16, hbl, ?_⟩
        generalize hE : i + 1 + behind p (N.drop (i + 1)) = E1 at eend
        -- numbers = answer(people, calls[at], calls[at + 1:end])
        refine ⟨_, rfl, _, rfl, _, rfl, a, _, _, _, rfl, rfl, s5.seq ha, atI_nat (ofN_at hpi), ?_⟩
        refine ⟨_, rfl, _, rfl, _, _, rfl, rfl, _, rfl, _, rfl, _, rfl, a, _, rfl, s5.seq ha, fun l nl' => ?_⟩
        have ei : (i : Int) + 1 = ((i + 1 : Nat) : Int) := by omega
        rw [ei, cut_mid _ _ _ (by rw [ofN_len]; exact eend) (by omega), ofN_cut]
        have en : E1 - (i + 1) = behind p (N.drop (i + 1)) := by omega
        rw [en]
        have s6 : Same H' (upd H' l (.lst (ofN ((N.drop (i + 1)).take (behind p (N.drop (i + 1))))))) := Same.new nl'
        have hl6 : upd H' l (.lst (ofN ((N.drop (i + 1)).take (behind p (N.drop (i + 1)))))) l = some (.lst (ofN ((N.drop (i + 1)).take (behind p (N.drop (i + 1)))))) := upd_same
        generalize upd H' l (.lst (ofN ((N.drop (i + 1)).take (behind p (N.drop (i + 1)))))) = H6 at s6 hl6
        refine ⟨x, l, m, fp, p, _, _, rfl, hp5.same s6, ok5, hp16, SqL.of hl6, har, fun n hn => hN n (List.mem_of_mem_drop (List.mem_of_mem_take hn)), ?_⟩
        intro H7 q m7 fp7 hp7 ok7 abs7 fpo keep nq hq
        have h6sd := s6 _ _ h5
        have s7 : Same H H7 := fun b o e => keep b o (s6 _ _ (s5 _ _ e)) fun hm => by
          rw [fp5 b hm] at e
          cases e
        have fp7n : ∀ b ∈ fp7, H b = none := fun b hb => by
          rcases fpo b hb with e | e
          · exact fp5 b e
          · exact (s5.trans s6).free e
        have no7 : sd ∉ fp7 := fun hm => by
          rcases fpo sd hm with e | e
          · exact no5 e
          · rw [h6sd] at e
            cases e
        have h7 := keep _ _ h6sd no5
        have neq : q ≠ sd := fun e => by
          rw [e, h6sd] at nq
          cases nq
        have nsdH : H sd = none := by
          cases e : H sd with
          | none => rfl
          | some o =>
            have := hb1 sd o (sxx _ _ e) (ne_of_none e nx)
            rw [nsd] at this
            cases this
        generalize hy : KrdiNeutral.told (Krdi.act m.abs (KrdiNeutral.call (PyKrdi.whole c))).2 = Y at hq ha5
        rw [← abs7] at ha5
        have hlen7 : S.length + (1 + Y.length) ≤ 10000000 := by
          rw [ha5, List.length_append, List.length_append, List.length_cons] at hshort
          omega
        -- said.append(len(numbers))
        refine ⟨_, rfl, .inl ⟨rfl, _, SqL.of h7⟩, _, rfl, q, _, rfl, .inl (SqL.of hq), sd, _, _, rfl, rfl, h7, ?_, ?_⟩
        · rw [List.length_map, sizeLine_eq]
          omega
        rw [List.length_map]
        have h8 : upd H7 sd (.lst (S.map V.int ++ [V.int ((Y.length : Nat) : Int)])) sd = some (.lst (S.map V.int ++ [V.int ((Y.length : Nat) : Int)])) := upd_same
        have hq8 : upd H7 sd (.lst (S.map V.int ++ [V.int ((Y.length : Nat) : Int)])) q = some (.lst (Y.map V.int)) := by rw [upd_ne neq]; exact hq
        have hp8 := hp7.side (ys := S.map V.int ++ [V.int ((Y.length : Nat) : Int)]) h7 no7
        have s8 : Same H (upd H7 sd (.lst (S.map V.int ++ [V.int ((Y.length : Nat) : Int)]))) := made_same nsdH s7
        generalize upd H7 sd (.lst (S.map V.int ++ [V.int ((Y.length : Nat) : Int)])) = H8 at h8 hq8 hp8 s8
        -- said.extend(numbers)
        refine ⟨_, rfl, .inl ⟨rfl, _, SqL.of h8⟩, _, rfl, sd, q, _, _, rfl, rfl, h8, hq8, ?_, ?_⟩
        · rw [List.length_append, List.length_map, List.length_map, sizeLine_eq]
          show S.length + 1 + Y.length ≤ 16777216
          omega
        -- at = end
        refine ⟨_, rfl, E1, f', m7, fp7, raw', S ++ (((Y.length : Nat) : Int) :: Y), _, _, rfl, by omega, eend, made_same nsdH s8, hp8.side h8 no7, ok7, fp7n, no7, ?_, ?_, ?_⟩
        · rw [upd_same, List.map_append, List.map_cons, List.append_assoc]
          rfl
        · rw [List.drop_drop, hE] at hr6
          exact hr6
        · rw [ha5, List.append_assoc]
    · rw [decide_eq_false (by omega)]
      refine iteF ⟨_, rfl, ?_⟩
      have e : i = N.length := by omega
      rw [e, List.drop_length] at hr5
      have er : raw = [] := by
        have : PyFlat.calls PyKrdi.shape f (asI []) = some [] := by
          cases f <;> rfl
        rw [this] at hr5
        exact (Option.some.inj hr5).symm
      rw [er, still_nil, List.append_nil] at ha5
      rw [← ha5] at h5
      exact k H' sd h5
end
end My
namespace My
open PySem PySem.Spec PyProof.Rows L2
/-- [.. for x, y in zip(xs, ys)], over two lists of one length -/
theorem lc_zipL {K : PySem.W.Frag} {a b : Addr} {xs ys : List V} {g : TG} {tt : TT} {te : TE} {vs : List Nat} {σ : L2.St} {H1 : Hp} {D : Addr} {Qd : Hp → Prop} (hl : xs.length = ys.length) (Pv : Nat → Hp → Prop) (h0 : Pv 0 (upd H1 D (.lst []))) (hq : ∀ i H, Pv i H → SqL K H a xs ∧ SqL K H b ys)
    (hs : ∀ (i : Nat) (x y : V) (T : Addr) (H : Hp), xs[i]? = some x → ys[i]? = some y → Pv i H → H T = none → g (.ref T) (wipe σ vs) (upd H T (.tup [x, y])) fun σ2 H2 => wipe σ2 vs = wipe σ vs ∧ tt σ2 H2 fun b H3 =>
      if b = true then te σ2 H3 fun y H4 => ∃ acc, H4 D = some (.lst acc) ∧ acc.length < sizeLine ∧ Pv (i + 1) (upd H4 D (.lst (acc ++ [y]))) else Pv (i + 1) H3) (hd : ∀ H, Pv xs.length H → Qd H) :
    ∃ W : Nat → Nat → Hp → Prop, (∃ m, W 0 m (upd H1 D (.lst []))) ∧ ∀ i m H, W i m H →
      ((Itz K a b).stop i H ∧ Qd H) ∨ ((Itz K a b).go i H ∧ ∃ Nx : Hp → Prop, (∀ H', Nx H' → ∃ m', m' < m ∧ W (i + 1) m' H') ∧ ∀ x H', (Itz K a b).yld i H x H' → g x (wipe σ vs) H' fun σ2 H2 => wipe σ2 vs = wipe σ vs ∧ tt σ2 H2 fun b H3 =>
        if b = true then te σ2 H3 fun y H4 => ∃ acc, H4 D = some (.lst acc) ∧ acc.length < sizeLine ∧ Nx (upd H4 D (.lst (acc ++ [y]))) else Nx H3) := by
  refine ⟨fun i m H => m = xs.length - i ∧ i ≤ xs.length ∧ Pv i H, ⟨xs.length, rfl, Nat.zero_le _, h0⟩, ?_⟩
  rintro i m H ⟨rfl, hi, p⟩
  obtain ⟨qx, qy⟩ := hq i H p
  by_cases hlt : i < xs.length
  · have hx : xs[i]? = some xs[i] := List.getElem?_eq_getElem hlt
    have hlt2 : i < ys.length := by omega
    have hy : ys[i]? = some ys[i] := List.getElem?_eq_getElem hlt2
    refine .inr ⟨⟨xs, ys, _, _, qx, qy, hx, hy⟩, Pv (i + 1), fun H' p' => ⟨xs.length - (i + 1), by omega, rfl, hlt, p'⟩, fun v H' y => ?_⟩
    obtain ⟨T, x', y', rfl, hT, rfl, f1, f2⟩ := y
    exact hs i x' y' T H (f1 xs qx) (f2 ys qy) p hT
  · have e : i = xs.length := by omega
    subst e
    exact .inl ⟨⟨xs, ys, qx, qy, Or.inl (Nat.le_refl _)⟩, hd H p⟩
section
variable {P : Program} {w : World} {K : PySem.W.Frag} {mg : Str → Option Value} {base : Heap}
structure KC (K : PySem.W.Frag) (mg : Str → Option Value) : Prop extends Kinds mg, Con1 K mg
/-! ## fewest_for -/
def spFew (K : PySem.W.Frag) : Sp := fun vs H Q _ => ∃ (a : Addr) (y : V) (cs : Cells) (x : Rat) (m : Nat), vs = [.ref a, y] ∧ CellsAt K H a cs ∧ CsOk cs ∧ Fr K H y x ∧ 0 ≤ x ∧ Sz m x ∧ m ≤ 4000 ∧ Gives H Q fun H' v' => ∃ p, v' = .ref p ∧ H p = none ∧ FrsT K H' p (loCh cs x)
abbrev s_fewest_for : Stmt := top 32
theorem sc_fewest_for : FnScope ["cells", "x", "order", "score"] ["cells", "x"] (defScope s_fewest_for) := ⟨rfl, rfl, rfl, by decide +kernel, rfl, by decide +kernel, by decide +kernel⟩
theorem ok_fewest_for (D : DefAt K mg "fewest_for" s_fewest_for) (G_so_of : OkAt P w K mg base 1 "so_of" ["cells"] (spCells K so)) (G_others_of : OkAt P w K mg base 1 "others_of" ["cells"] (spCells K oth)) (G_steepest_first : OkAt P w K mg base 2 "steepest_first" ["cells", "runs", "rises"] (spSteep K)) (G_taken : OkAt P w K mg base 4 "taken" ["order", "runs", "x"] (spTaken K)) :
    OkAt P w K mg base 5 "fewest_for" ["cells", "x"] (spFew K) := by
  refine okAt_of D (fun _ _ _ _ _ _ us hl => match us, hl with | [_, _], _ => rfl) fun f fd F => ?_
  have nd := sc_fewest_for.nd
  refine F.ok sc_fewest_for (fun vs H Q E h => ?_) (fun cdv A outer s H vs Q E hr h => ?_)
  · obtain ⟨a, y, cs, x, m, rfl, _⟩ := h
    rfl
  · obtain ⟨a, y, cs, x, m, rfl, ha, cok, hy, x0, sx, m4, k⟩ := h
    have h4 := cok.len
    have ⟨o0, o1⟩ := oth_sum cok
    refine ⟨_, (pss_cons (ps_set (i := 2) nd rfl (Or.inl rfl) (pe_callO G_steepest_first (hr.mono (by decide)) (by rfl) (pa_cons (pv 0) (pa_cons (pe_callO G_so_of (hr.mono (by decide)) (by rfl) (pa_cons (pv 0) pa_nil)) (pa_cons (pe_callO G_others_of (hr.mono (by decide)) (by rfl) (pa_cons (pv 0) pa_nil)) pa_nil))))) (pss_one (ps_ret (pe_callO G_taken (hr.mono (by decide)) (by rfl) (pa_cons (pe_lc (own := [("score", 3)]) (g := (gName 3)) (te := (tVar 3)) (tt := (tTest (tOp (rI0 fun i j => .bl (decide (j < i))) (tOp (rIxT K) (tOp (rIxL K) (tVar 0) (tVar 3)) (tC (.int 1))) (tC (.int 0))))) (by rfl) nd (pi_list (pv 2)) (blkOk_by (own := [("score", 3)]) (N := ["cells", "x", "order", "score"]) (sc := defScope s_fewest_for) (by decide +kernel)) (fun _ _ _ _ _ => (pg_name (i := 3) nd rfl (Or.inl rfl))) (fun _ _ _ _ _ => (pts_one (pt_cmpR op_gt (pe_ix ix_tup (pe_ix ix_list (pv 0) (pv 3) (fun _ _ => rfl)) pe_int (fun _ _ => rfl)) pe_int (nomark _)))) (fun _ _ _ _ _ => (pv 3))) (pa_cons (pe_callO G_others_of (hr.mono (by decide)) (by rfl) (pa_cons (pv 0) pa_nil)) (pa_cons (pv 1) pa_nil))))))), ?_⟩
    refine ⟨_, rfl, _, rfl, a, cs, rfl, ha, h4, fun H2 v2 s2 ⟨p2, e2, hp2⟩ => ?_⟩
    subst e2
    refine ⟨_, rfl, a, cs, rfl, ha.same s2, h4, fun H3 v3 s3 ⟨p3, e3, hp3⟩ => ?_⟩
    subst e3
    have ha3 := (ha.same s2).same s3
    refine ⟨a, p2, p3, cs, so cs, oth cs, rfl, ha3, SqL.of (s3 _ _ hp2), SqL.of hp3, len_so cs, len_oth cs, h4, md_so cok, md_oth cok, fun H4 v4 s4 ⟨p4, e4, n4, hp4⟩ => ?_⟩
    subst e4
    have sall := (s2.trans s3).trans s4
    obtain ⟨vs, hvs, hc⟩ := ha3.same s4
    refine ⟨_, rfl, p4, rfl, ⟨_, SqL.of hp4⟩, fun d hd => lc_list (K := K) (a := p4) (xs := ofN (steep cs (so cs) (oth cs))) (fun i H' => Same H4 H' ∧ H' d = some (.lst (ofN (((steep cs (so cs) (oth cs)).take i).filter fun s => decide (0 < (oth cs).getD s 0))))) ⟨Same.new hd, upd_same⟩ (fun i H' _ ⟨s, _⟩ => SqL.of (s _ _ hp4)) ?_ ?_⟩
    · rintro i x' H' hx ⟨s5, h5⟩
      obtain ⟨y, hy, rfl⟩ : ∃ y, (steep cs (so cs) (oth cs))[i]? = some y ∧ x' = V.int (y : Int) := by
        unfold ofN at hx
        rw [List.getElem?_map] at hx
        cases e : (steep cs (so cs) (oth cs))[i]? with
        | none => rw [e] at hx; cases hx
        | some c => rw [e] at hx; exact ⟨c, rfl, (Option.some.inj hx).symm⟩
      have hyl := (mem_steep.mp (List.mem_of_getElem? hy)).1
      have hcy : cs[y]? = some (cs.getD y (0, 0)) := by rw [List.getD_eq_getElem?_getD, List.getElem?_eq_getElem hyl]; rfl
      obtain ⟨x2, hx2, t, rfl, ht⟩ := hc.at hcy
      refine ⟨rfl, ?_⟩
      refine ⟨_, rfl, _, rfl, a, _, _, _, rfl, rfl, s5.seq hvs, atI_nat hx2, t, _, _, _, rfl, rfl, Same.tup s5 ht, at1, _, _, rfl, rfl, _, rfl, ?_⟩
      have eso := oth_at cs y
      by_cases c0 : 0 < (oth cs).getD y 0
      · rw [decide_eq_true (by rw [← eso]; exact c0)]
        refine iteT ?_
        refine ⟨_, rfl, _, h5, ?_, made_same hd s5, ?_⟩
        · refine lt_line ?_
          unfold ofN
          rw [List.length_map]
          have := List.length_filter_le (fun s => decide (0 < (oth cs).getD s 0)) ((steep cs (so cs) (oth cs)).take i)
          have := steep_len (cs := cs) (runs := so cs) (rises := oth cs)
          have := List.length_take_le' i (steep cs (so cs) (oth cs))
          omega
        · rw [upd_same, ofN_more hy (decide_eq_true c0)]
      · rw [decide_eq_false (by rw [← eso]; exact c0)]
        refine iteF ?_
        refine ⟨s5, ?_⟩
        rw [ofN_less hy (fun z => c0 (of_decide_eq_true z))]
        exact h5
    · rintro H5 ⟨s5, h5⟩
      unfold ofN at h5
      rw [List.length_map, List.take_length] at h5
      have s25 := sall.trans s5
      refine ⟨_, rfl, a, cs, rfl, ha.same s25, h4, fun H6 v6 s6 ⟨p6, e6, hp6⟩ => ?_⟩
      subst e6
      have fl := List.length_filter_le (fun s => decide (0 < (oth cs).getD s 0)) (steep cs (so cs) (oth cs))
      have sl := steep_len (cs := cs) (runs := so cs) (rises := oth cs)
      refine ⟨_, rfl, d, p6, y, (steep cs (so cs) (oth cs)).filter fun s => decide (0 < (oth cs).getD s 0), oth cs, x, m, rfl, SqL.of (s6 _ _ h5), SqL.of hp6, (hy.same s25).same s6, fun s hs => by rw [len_oth]; exact (mem_steep.mp (List.mem_filter.mp hs).1).1, by omega, by rw [len_oth]; exact h4, md_oth cok, o0, by omega, x0, sx, m4, fun H7 v7 s7 ⟨p7, e7, n7, hp7⟩ => ?_⟩
      rw [len_oth] at hp7
      exact k H7 v7 ((s25.trans s6).trans s7) ⟨p7, e7, (s25.trans s6).free n7, hp7⟩
/-! ## freely_chosen -/
def free01 (z : Int) : Rat := if 0 < z then 1 else 0
def spFreely (K : PySem.W.Frag) : Sp := fun vs H Q _ => ∃ (a : Addr) (z : V) (cs : Cells) (u v : Nat), vs = [.ref a, z] ∧ CellsAt K H a cs ∧ cs.length ≤ 4 ∧ Pr K H z (u, v) ∧ u ≤ 100 ∧ v ≤ 100 ∧ Gives H Q fun H' v' => ∃ p, v' = .ref p ∧ H p = none ∧ FrsT K H' p ((gai u v cs).map free01)
abbrev s_freely_chosen : Stmt := top 49
theorem sc_freely_chosen : FnScope ["cells", "pays", "gain"] ["cells", "pays"] (defScope s_freely_chosen) := ⟨rfl, rfl, rfl, by decide +kernel, rfl, by decide +kernel, by decide +kernel⟩
theorem ok_freely_chosen (D : DefAt K mg "freely_chosen" s_freely_chosen) (T : Con1 K mg) (G_gains_of : OkAt P w K mg base 1 "gains_of" ["cells", "pays"] (spGainsOf K)) : OkAt P w K mg base 2 "freely_chosen" ["cells", "pays"] (spFreely K) := by
  refine okAt_of D (fun _ _ _ _ _ _ us hl => match us, hl with | [_, _], _ => rfl) fun f fd F => ?_
  have nd := sc_freely_chosen.nd
  refine F.ok sc_freely_chosen (fun vs H Q E h => ?_) (fun cdv A outer s H vs Q E hr h => ?_)
  · obtain ⟨a, z, cs, u, v, rfl, _⟩ := h
    rfl
  · obtain ⟨a, z, cs, u, v, rfl, ha, h4, hz, hu, hv, k⟩ := h
    refine ⟨_, (pss_one (ps_ret (pe_lc (own := [("gain", 2)]) (g := (gName 2)) (te := (tIf (tTest (tOp (rI0 fun i j => .bl (decide (j < i))) (tVar 2) (tC (.int 0)))) (tGT K [.int 1, .int 1]) (tGT K [.int 0, .int 1]))) (tt := tYes) (by rfl) nd (pi_list (pe_callO G_gains_of (hr.mono (by decide)) (by rfl) (pa_cons (pv 0) (pa_cons (pv 1) pa_nil)))) (blkOk_by (own := [("gain", 2)]) (N := ["cells", "pays", "gain"]) (sc := defScope s_freely_chosen) (by decide +kernel)) (fun _ _ _ _ _ => (pg_name (i := 2) nd rfl (Or.inl rfl))) (fun _ _ _ _ _ => pts_nil) (fun _ _ _ _ _ => (pe_ifExp (pt_cmpR op_gt (pv 2) pe_int (nomark _)) (pe_gt T.ONE (by rfl)) (pe_gt T.ZERO (by rfl))))))), ?_⟩
    refine ⟨_, rfl, _, rfl, a, z, cs, u, v, rfl, ha, hz, hu, hv, h4, fun H2 v2 s2 ⟨p2, e2, h2⟩ => ?_⟩
    subst e2
    have ll : (gai u v cs).length ≤ 4 := by rw [len_gai]; exact h4
    generalize gai u v cs = L at h2 k ll
    refine ⟨p2, rfl, ⟨_, SqL.of h2⟩, fun d hd => lc_list (K := K) (a := p2) (xs := L.map V.int) (fun i H' => Same H2 H' ∧ FrsT K H' d ((L.take i).map free01)) ⟨Same.new hd, [], upd_same, LsOf.nil⟩ (fun i H' _ ⟨s, _⟩ => SqL.of (s _ _ h2)) ?_ ?_⟩
    · rintro i x H' hx ⟨s5, vs, h5, f5⟩
      obtain ⟨y, hy, rfl⟩ := ints_get hx
      have l5 := f5.1
      rw [List.length_map] at l5
      have tl := List.length_take_le' i L
      have fin : ∀ z q, (∀ H', SqT K H' z [.int (free01 y).num, .int ((free01 y).den : Int)]) → q = free01 y → ∃ acc, H' d = some (.lst acc) ∧ acc.length < sizeLine ∧ Same H2 (upd H' d (.lst (acc ++ [.ref z]))) ∧ FrsT K (upd H' d (.lst (acc ++ [.ref z]))) d ((L.take (i + 1)).map free01) := by
        intro z q hz _
        refine ⟨vs, h5, lt_line (by omega), made_same hd s5, vs ++ [.ref z], upd_same, ?_⟩
        rw [take_more hy, List.map_append]
        exact (f5.imp fun v q f => f.put h5).snoc ⟨z, rfl, hz _⟩
      refine ⟨rfl, lc_yes ?_⟩
      refine ⟨_, rfl, _, _, rfl, rfl, _, rfl, ?_⟩
      by_cases c : 0 < y
      · rw [decide_eq_true c]
        refine iteT ?_
        intro z hz
        have e : free01 y = 1 := if_pos c
        exact fin z 1 (by rw [e]; exact hz) e.symm
      · rw [decide_eq_false c]
        refine iteF ?_
        intro z hz
        have e : free01 y = 0 := if_neg c
        exact fin z 0 (by rw [e]; exact hz) e.symm
    · rintro H5 ⟨s5, h5⟩
      rw [List.length_map, List.take_length] at h5
      exact k H5 _ (s2.trans s5) ⟨d, rfl, s2.free hd, h5⟩
/-! ## share_of_most -/
def spShare (K : PySem.W.Frag) : Sp := fun vs H Q _ => ∃ (a b c : Addr) (y : V) (cs : Cells) (x yr : Rat), vs = [.ref a, .ref b, .ref c, y] ∧ Frs K H a (chK 3 0 0 cs x) ∧ Frs K H b (loCh cs x) ∧ SqL K H c ((so cs).map V.int) ∧ CsOk cs ∧ 0 < (so cs).sum ∧ 0 ≤ x ∧ x ≤ 1 ∧ Sz 400 x ∧ Fr K H y yr ∧ Sz 440 yr ∧
  Gives H Q fun H' v' => Fr K H' v' (mixK cs x yr)
theorem zero_iff {q : Rat} : (q.num = 0 ∧ (q.den : Int) = 1) ↔ q = 0 := by
  constructor
  · intro h
    exact Rat.num_eq_zero.mp h.1
  · intro h
    subst h
    exact ⟨rfl, rfl⟩
abbrev s_share_of_most : Stmt := top 50
theorem sc_share_of_most : FnScope ["most", "fewest", "so", "y", "low", "room"] ["most", "fewest", "so", "y"] (defScope s_share_of_most) := ⟨rfl, rfl, rfl, by decide +kernel, rfl, by decide +kernel, by decide +kernel⟩
theorem ok_share_of_most (D : DefAt K mg "share_of_most" s_share_of_most) (T : Con1 K mg) (G_mean : OkAt P w K mg base 5 "mean" ["fractions", "weights"] (spMean K)) (G_minus : OkAt P w K mg base 3 "minus" ["first", "second"] (spTwo K (· - ·) fun _ => True)) (G_divided : OkAt P w K mg base 3 "divided" ["first", "second"] (spTwo K (· / ·) fun q => 0 < q)) :
    OkAt P w K mg base 6 "share_of_most" ["most", "fewest", "so", "y"] (spShare K) := by
  refine okAt_of D (fun _ _ _ _ _ _ us hl => match us, hl with | [_, _, _, _], _ => rfl) fun f fd F => ?_
  have nd := sc_share_of_most.nd
  refine F.ok sc_share_of_most (fun vs H Q E h => ?_) (fun cdv A outer s H vs Q E hr h => ?_)
  · obtain ⟨a, b, c, y, cs, x, yr, rfl, _⟩ := h
    rfl
  · obtain ⟨a, b, c, y, cs, x, yr, rfl, ha, hb, hc, cok, so0, x0, x1, sx, hy, sy, k⟩ := h
    have h4 := cok.len
    have ⟨t0, t1⟩ := so_sum cok
    have zu := up_sz cok x0 sx so0
    have zl := low_sz cok x0 sx so0
    refine ⟨_, (pss_cons (ps_set (i := 4) nd rfl (Or.inl rfl) (pe_callO G_mean (hr.mono (by decide)) (by rfl) (pa_cons (pv 1) (pa_cons (pv 2) pa_nil)))) (pss_cons (ps_set (i := 5) nd rfl (Or.inl rfl) (pe_callO G_minus (hr.mono (by decide)) (by rfl) (pa_cons (pe_callO G_mean (hr.mono (by decide)) (by rfl) (pa_cons (pv 0) (pa_cons (pv 2) pa_nil))) (pa_cons (pv 4) pa_nil)))) (pss_cons (ps_if (pt_cmpR (op_eqD hr.units) (pv 5) (pe_gt T.ZERO (by rfl)) (nomark _)) (pss_one (ps_ret (pe_gt T.ZERO (by rfl)))) pss_nil) (pss_one (ps_ret (pe_callO G_divided (hr.mono (by decide)) (by rfl) (pa_cons (pe_callO G_minus (hr.mono (by decide)) (by rfl) (pa_cons (pv 3) (pa_cons (pv 4) pa_nil))) (pa_cons (pv 5) pa_nil)))))))), ?_⟩
    refine ⟨_, rfl, _, rfl, b, c, loCh cs x, so cs, 530, rfl, hb, hc, by rw [loCh_len, len_so], loCh_sz cok x0 sx, ⟨so_small cok⟩, by rw [loCh_len]; exact h4, by decide, so0, by omega, fun H2 v2 s2 f2 => ?_⟩
    refine ⟨_, rfl, _, rfl, a, c, chK 3 0 0 cs x, so cs, 530, rfl, ha.same s2, s2.seq hc, by rw [chK_len, len_so], ch_sz cok x0 sx, ⟨so_small cok⟩, by rw [chK_len]; exact h4, by decide, so0, by omega, fun H3 v3 s3 f3 => ?_⟩
    have f2' : Fr K H2 v2 (lowK cs x) := f2
    have f3' : Fr K H3 v3 (upK cs x) := f3
    refine ⟨_, rfl, v3, v2, upK cs x, lowK cs x, _, _, rfl, f3', f2'.same s3, zu, zl, by decide, trivial, fun H4 v4 s4 f4 => ?_⟩
    have s24 := (s2.trans s3).trans s4
    have f4' : Fr K H4 v4 (upK cs x - lowK cs x) := f4
    obtain ⟨t4, rfl, ht4⟩ := id f4'
    refine ⟨_, rfl, ?_⟩
    intro z hz
    refine ⟨_, _, dp_two ht4, dp_two (hz _), shaped_two _ _, shaped_two _ _, _, rfl, ?_⟩
    rw [eqv_two, decide_eq_decide.mpr zero_iff]
    by_cases e : upK cs x = lowK cs x
    · rw [decide_eq_true (show upK cs x - lowK cs x = 0 by rw [e]; grind)]
      refine iteT ?_
      intro z2 hz2
      refine k H4 _ s24 ?_
      unfold mixK
      rw [if_pos e]
      exact ⟨z2, rfl, hz2 _⟩
    · have ne : ¬ upK cs x - lowK cs x = 0 := fun h => e (by grind)
      rw [decide_eq_false ne]
      refine iteF ?_
      have le := low_le_up cok x0 x1 so0
      have pos : 0 < upK cs x - lowK cs x := by
        have : ¬ upK cs x ≤ lowK cs x := fun h => e (Rat.le_antisymm h le)
        grind
      refine ⟨_, rfl, _, rfl, y, v2, yr, lowK cs x, 440, _, rfl, hy.same s24, (f2'.same s3).same s4, sy, zl, by decide, trivial, fun H5 v5 s5 f5 => ?_⟩
      refine ⟨_, rfl, v5, .ref t4, _, _, _, _, rfl, f5, f4'.same s5, sy.sub zl, zu.sub zl, by decide, pos, fun H6 v6 s6 f6 => ?_⟩
      refine k H6 v6 ((s24.trans s5).trans s6) ?_
      unfold mixK
      rw [if_neg e]
      exact f6
/-! ## chances_reaching -/
def spReach (K : PySem.W.Frag) : Sp := fun vs H Q _ => ∃ (a : Addr) (z y1 y2 : V) (cs : Cells) (u v : Nat) (x y : Rat), vs = [.ref a, z, y1, y2] ∧ CellsAt K H a cs ∧ CsOk cs ∧ 0 < (so cs).sum ∧ Pr K H z (u, v) ∧ u ≤ 100 ∧ v ≤ 100 ∧ Fr K H y1 x ∧ 0 ≤ x ∧ x ≤ 1 ∧ Sz 400 x ∧ Fr K H y2 y ∧ Sz 440 y ∧
  Gives H Q fun H' v' => ∃ p, v' = .ref p ∧ H p = none ∧ FrsT K H' p (chFor cs x y)
theorem mix_rough {cs : Cells} {x y : Rat} (h : CsOk cs) (x0 : 0 ≤ x) (x1 : x ≤ 1) (sx : Sz 400 x) (so0 : 0 < (so cs).sum) (sy : Sz 440 y) : Sz 1762 (mixK cs x y) := by
  have zu := up_sz h x0 sx so0
  have zl := low_sz h x0 sx so0
  have le := low_le_up h x0 x1 so0
  unfold mixK
  split
  · exact Sz.zero (by decide)
  · rename_i ne
    have pos : 0 < upK cs x - lowK cs x := by
      have : ¬ upK cs x ≤ lowK cs x := fun h => ne (Rat.le_antisymm h le)
      grind
    exact ((sy.sub zl).div (zu.sub zl) pos).mono (by decide)
theorem zip_more {f : Rat → Rat → Rat} {as bs : List Rat} {i : Nat} {p q : Rat} (hp : as[i]? = some p) (hq : bs[i]? = some q) : (List.zipWith f as bs).take (i + 1) = (List.zipWith f as bs).take i ++ [f p q] := by
  refine take_more ?_
  rw [List.getElem?_zipWith, hp, hq]
abbrev s_chances_reaching : Stmt := top 51
theorem sc_chances_reaching : FnScope ["cells", "pays", "x", "y", "most", "fewest", "share", "rest", "high", "low"] ["cells", "pays", "x", "y"] (defScope s_chances_reaching) := ⟨rfl, rfl, rfl, by decide +kernel, rfl, by decide +kernel, by decide +kernel⟩
theorem ok_chances_reaching (D : DefAt K mg "chances_reaching" s_chances_reaching) (B : Blt mg) (T : Kinds mg) (T1 : Con1 K mg) (G_chances_for : OkAt P w K mg base 5 "chances_for" ["kind", "cells", "pays", "x"] (spChK K)) (G_fewest_for : OkAt P w K mg base 5 "fewest_for" ["cells", "x"] (spFew K)) (G_share_of_most : OkAt P w K mg base 6 "share_of_most" ["most", "fewest", "so", "y"] (spShare K))
    (G_so_of : OkAt P w K mg base 1 "so_of" ["cells"] (spCells K so)) (G_minus : OkAt P w K mg base 3 "minus" ["first", "second"] (spTwo K (· - ·) fun _ => True)) (G_plus : OkAt P w K mg base 3 "plus" ["first", "second"] (spTwo K (· + ·) fun _ => True)) (G_times : OkAt P w K mg base 3 "times" ["first", "second"] (spTwo K (· * ·) fun _ => True)) :
    OkAt P w K mg base 7 "chances_reaching" ["cells", "pays", "x", "y"] (spReach K) := by
  have T : KC K mg := ⟨T, T1⟩
  refine okAt_of D (fun _ _ _ _ _ _ us hl => match us, hl with | [_, _, _, _], _ => rfl) fun f fd F => ?_
  have nd := sc_chances_reaching.nd
  refine F.ok sc_chances_reaching (fun vs H Q E h => ?_) (fun cdv A outer s H vs Q E hr h => ?_)
  · obtain ⟨a, z, y1, y2, cs, u, v, x, y, rfl, _⟩ := h
    rfl
  · obtain ⟨a, z, y1, y2, cs, u, v, x, y, rfl, ha, cok, so0, hz, hu, hv, f1, x0, x1, sx, f2, sy, k⟩ := h
    have h4 := cok.len
    refine ⟨_, (pss_cons (ps_set (i := 4) nd rfl (Or.inl rfl) (pe_callO G_chances_for (hr.mono (by decide)) (by rfl) (pa_cons (pe_gi T.SAME_BOTH (by rfl)) (pa_cons (pv 0) (pa_cons (pv 1) (pa_cons (pv 2) pa_nil)))))) (pss_cons (ps_set (i := 5) nd rfl (Or.inl rfl) (pe_callO G_fewest_for (hr.mono (by decide)) (by rfl) (pa_cons (pv 0) (pa_cons (pv 2) pa_nil)))) (pss_cons (ps_set (i := 6) nd rfl (Or.inr rfl) (pe_callO G_share_of_most (hr.mono (by decide)) (by rfl) (pa_cons (pv 4) (pa_cons (pv 5) (pa_cons (pe_callO G_so_of (hr.mono (by decide)) (by rfl) (pa_cons (pv 0) pa_nil)) (pa_cons (pv 3) pa_nil)))))) (pss_cons (ps_set (i := 7) nd rfl (Or.inr rfl) (pe_callO G_minus (hr.mono (by decide)) (by rfl) (pa_cons (pe_gt T.ONE (by rfl)) (pa_cons (pv 6) pa_nil)))) (pss_one (ps_ret (pe_lc (own := [("high", 8), ("low", 9)]) (g := (gTup K 2 (gCons (gName 8) (gCons (gName 9) gNil)))) (te := (tCallO (spTwo K (· + ·) fun _ => True) (tCons (tCallO (spTwo K (· * ·) fun _ => True) (tCons (tVar 8) (tCons (tVar 6) tNil))) (tCons (tCallO (spTwo K (· * ·) fun _ => True) (tCons (tVar 9) (tCons (tVar 7) tNil))) tNil)))) (tt := tYes) (by rfl) nd (pi_zip (by rfl) B.zip (pa_cons (pv 4) (pa_cons (pv 5) pa_nil))) (blkOk_by (own := [("high", 8), ("low", 9)]) (N := ["cells", "pays", "x", "y", "most", "fewest", "share", "rest", "high", "low"]) (sc := defScope s_chances_reaching) (by decide +kernel)) (fun _ _ _ _ _ => (pg_tup rfl (pgs_cons (pg_name (i := 8) nd rfl (Or.inl rfl)) (pgs_cons (pg_name (i := 9) nd rfl (Or.inl rfl)) pgs_nil)))) (fun _ _ _ _ _ => pts_nil) (fun _ _ _ _ _ => (pe_callO G_plus (hr.mono (by decide)) (by rfl) (pa_cons (pe_callO G_times (hr.mono (by decide)) (by rfl) (pa_cons (pv 8) (pa_cons (pv 6) pa_nil))) (pa_cons (pe_callO G_times (hr.mono (by decide)) (by rfl) (pa_cons (pv 9) (pa_cons (pv 7) pa_nil))) pa_nil))))))))))), ?_⟩
    -- most, fewest
    refine ⟨_, rfl, _, rfl, _, rfl, 3, a, z, y1, cs, u, v, x, 400, rfl, by decide, by decide, ha, cok, hz, hu, hv, f1, x0, sx, by decide, fun H2 v2 s2 ⟨p2, e2, _, hp2⟩ => ?_⟩
    subst e2
    rw [chK3] at hp2
    refine ⟨_, rfl, _, rfl, a, y1, cs, x, 400, rfl, ha.same s2, cok, f1.same s2, x0, sx, by decide, fun H3 v3 s3 ⟨p3, e3, _, hp3⟩ => ?_⟩
    subst e3
    have s23 := s2.trans s3
    -- share
    refine ⟨_, rfl, _, rfl, _, rfl, a, cs, rfl, ha.same s23, h4, fun H4 v4 s4 ⟨p4, e4, hp4⟩ => ?_⟩
    subst e4
    have s24 := s23.trans s4
    refine ⟨_, rfl, p2, p3, p4, y2, cs, x, y, rfl, (hp2.same s3).frs.same s4, hp3.frs.same s4, SqL.of hp4, cok, so0, x0, x1, sx, f2.same s24, sy, fun H5 v5 s5 f5 => ?_⟩
    have s25 := s24.trans s5
    have zm := mix_rough cok x0 x1 sx so0 sy
    -- rest
    intro z1 hz1
    refine ⟨_, rfl, .ref z1, v5, 1, mixK cs x y, 1, 1762, rfl, ⟨z1, rfl, hz1 _⟩, f5, Sz.one (by decide), zm, by decide, trivial, fun H6 v6 s6 f6 => ?_⟩
    have s26 := s25.trans s6
    have zr := (Sz.one (n := 1) (by decide)).sub zm
    obtain ⟨vs, hvs, hf⟩ := ((hp2.same s3).same s4).same (s5.trans s6)
    obtain ⟨ws, hws, hg⟩ := (hp3.same s4).same (s5.trans s6)
    have l1 : vs.length = cs.length := by rw [hf.1, chK_len]
    have l2 : ws.length = cs.length := by rw [hg.1, loCh_len]
    have q1 := ch_sz (kind := 3) (u := 0) (v := 0) cok x0 sx
    have q2 := loCh_sz cok x0 sx
    have ec : chFor cs x y = List.zipWith (fun a b => a * mixK cs x y + b * (1 - mixK cs x y)) (chK 3 0 0 cs x) (loCh cs x) := by
      unfold chFor
      congr 1
      funext a b
      grind
    have lz : (List.zipWith (fun a b => a * mixK cs x y + b * (1 - mixK cs x y)) (chK 3 0 0 cs x) (loCh cs x)).length = cs.length := by
      rw [List.length_zipWith, chK_len, loCh_len, Nat.min_self]
    rw [ec] at k
    generalize chK 3 0 0 cs x = A at hf q1 k lz
    generalize loCh cs x = Bs at hg q2 k lz
    generalize mixK cs x y = mx at f5 f6 zm zr k lz
    refine ⟨_, rfl, _, rfl, p2, p3, _, _, rfl, SqL.of hvs, SqL.of hws, fun d hd => lc_zipL (K := K) (a := p2) (b := p3) (xs := vs) (ys := ws) (by omega) (fun i H' => Same H6 H' ∧ FrsT K H' d ((List.zipWith (fun a b => a * mx + b * (1 - mx)) A Bs).take i)) ⟨Same.new hd, [], upd_same, LsOf.nil⟩ (fun i H' ⟨s, _⟩ => ⟨SqL.of (s _ _ hvs), SqL.of (s _ _ hws)⟩) ?_ ?_⟩
    · rintro i xv yv t H' hx hy ⟨s7, vs7, h7, g7⟩ nt
      obtain ⟨p, hpi, fp⟩ := hf.get hx
      obtain ⟨q, hqi, fq⟩ := hg.get hy
      have sp := q1 p (List.mem_of_getElem? hpi)
      have sq := q2 q (List.mem_of_getElem? hqi)
      have s8 : Same H' (upd H' t (.tup [xv, yv])) := Same.new nt
      have s68 := s7.trans s8
      have l7 := g7.1
      have tl := List.length_take_le' i (List.zipWith (fun a b => a * mx + b * (1 - mx)) A Bs)
      refine ⟨t, _, rfl, SqT.of upd_same, rfl, _, _, rfl, _, _, rfl, rfl, rfl, lc_yes ?_⟩
      refine ⟨_, rfl, _, rfl, xv, v5, p, mx, _, _, rfl, fp.same s68, f5.same (s6.trans s68), sp, zm, by decide, trivial, fun H8 v8 s9 f8 => ?_⟩
      have s69 := s68.trans s9
      refine ⟨_, rfl, _, rfl, yv, v6, q, 1 - mx, _, _, rfl, fq.same s69, f6.same s69, sq, zr, by decide, trivial, fun H9 v9 s10 f9 => ?_⟩
      refine ⟨v8, v9, _, _, _, _, rfl, f8.same s10, f9, sp.mul zm, sq.mul zr, by decide, trivial, fun H10 v10 s11 f10 => ?_⟩
      have s7b : Same H' H10 := ((s8.trans s9).trans s10).trans s11
      have hA := s7b _ _ h7
      refine ⟨_, hA, lt_line (by omega), made_same hd (s7.trans s7b), vs7 ++ [v10], upd_same, ?_⟩
      rw [zip_more hpi hqi]
      exact (g7.imp fun v q f => (f.same s7b).put hA).snoc (f10.put hA)
    · rintro H7 ⟨s7, h7⟩
      rw [List.take_of_length_le (by omega)] at h7
      exact k H7 _ (s26.trans s7) ⟨d, rfl, s26.free hd, h7⟩
end
end My
namespace My
open PySem PySem.Spec PyProof.Rows L2
section
variable {P : Program} {w : World} {K : PySem.W.Frag} {mg : Str → Option Value} {base : Heap}
/-! ## rules_of -/
/-- two new lists of fractions in a new list -/
structure Pair (K : PySem.W.Frag) (H H' : Hp) (p r0 r1 : Addr) (q0 q1 : List Rat) : Prop where
  at_ : H' p = some (.lst [.ref r0, .ref r1])
  f0 : FrsT K H' r0 q0
  f1 : FrsT K H' r1 q1
  np : H p = none
  n0 : H r0 = none
  n1 : H r1 = none
  d0 : p ≠ r0
  d1 : p ≠ r1
  d2 : r0 ≠ r1
theorem FrsT.is {H : Hp} {a : Addr} {qs : List Rat} (h : FrsT K H a qs) {b : Addr} (hb : H b = none) : a ≠ b := by
  obtain ⟨vs, h1, _⟩ := h
  exact ne_of_none h1 hb
/-- [.. for cells in groups] -/
theorem comp_rules {s0 s2 s3 s4 s5 : Option V} {H : Hp} {Q : VK} {a : Addr} {c0 c1 : Cells} {te : TE} {F : Cells → List Rat} (hg : GroupsAt K H a c0 c1)
    (hte : ∀ (gg : Addr) (cs : Cells) (H' : Hp) (R : VK), (cs = c0 ∨ cs = c1) → Same H H' → CellsAt K H' gg cs → (∀ H2 p, Same H' H2 → H' p = none → FrsT K H2 p (F cs) → R (.ref p) H2) → te [s0, some (.ref a), s2, s3, s4, some (.ref gg)] H' R)
    (h : ∀ H' p r0 r1, Same H H' → Pair K H H' p r0 r1 (F c0) (F c1) → Q (.ref p) H') :
    tLc (iList K (tVar 1)) (gName 5) tYes te [5] [s0, some (.ref a), s2, s3, s4, s5] H Q := by
  obtain ⟨g0, g1, hgl, hc0, hc1⟩ := hg
  refine ⟨_, rfl, a, rfl, ⟨_, hgl⟩, fun d hd => lc_list (K := K) (a := a) (xs := [.ref g0, .ref g1]) (fun i H' => Same H H' ∧ ((i = 0 ∧ H' d = some (.lst [])) ∨ (i = 1 ∧ ∃ r0, H' d = some (.lst [.ref r0]) ∧ FrsT K H' r0 (F c0) ∧ H r0 = none ∧ d ≠ r0) ∨ (i = 2 ∧ ∃ r0 r1, Pair K H H' d r0 r1 (F c0) (F c1)))) ⟨Same.new hd, .inl ⟨rfl, upd_same⟩⟩ (fun i H' _ ⟨s, _⟩ => s.seq hgl) ?_ ?_⟩
  · rintro i x H' hx ⟨s5', hi⟩
    match i, hx, hi with
    | 0, hx, hi =>
      have e : V.ref g0 = x := Option.some.inj hx
      subst e
      have h5 : H' d = some (.lst []) := by
        rcases hi with ⟨_, h⟩ | ⟨e, _⟩ | ⟨e, _⟩
        · exact h
        · cases e
        · cases e
      refine ⟨rfl, lc_yes ?_⟩
      refine hte g0 c0 H' _ (.inl rfl) s5' (hc0.same s5') fun H2 p s6 np f6 => ?_
      have h6 := s6 _ _ h5
      have nd : p ≠ d := (ne_of_none h5 np).symm
      refine ⟨_, h6, by show 0 < sizeLine; decide, made_same hd (s5'.trans s6), .inr (.inl ⟨rfl, p, upd_same, f6.put h6 nd, s5'.free np, nd.symm⟩)⟩
    | 1, hx, hi =>
      have e : V.ref g1 = x := Option.some.inj hx
      subst e
      obtain ⟨r0, h5, f5, n5, d5⟩ : ∃ r0, H' d = some (.lst [.ref r0]) ∧ FrsT K H' r0 (F c0) ∧ H r0 = none ∧ d ≠ r0 := by
        rcases hi with ⟨e, _⟩ | ⟨_, h⟩ | ⟨e, _⟩
        · cases e
        · exact h
        · cases e
      refine ⟨rfl, lc_yes ?_⟩
      refine hte g1 c1 H' _ (.inr rfl) s5' (hc1.same s5') fun H2 p s6 np f6 => ?_
      have h6 := s6 _ _ h5
      have nd : p ≠ d := (ne_of_none h5 np).symm
      refine ⟨_, h6, by show 1 < sizeLine; decide, made_same hd (s5'.trans s6), .inr (.inr ⟨rfl, r0, p, ?_⟩)⟩
      exact ⟨upd_same, (f5.same s6).put h6 d5.symm, f6.put h6 nd, hd, n5, s5'.free np, d5, nd.symm, f5.is np⟩
    | i + 2, hx, _ => simp at hx
  · rintro H' ⟨s5', hi⟩
    rcases hi with ⟨e, _⟩ | ⟨e, _⟩ | ⟨_, r0, r1, hp⟩
    · cases e
    · cases e
    · exact h H' d r0 r1 s5' hp
def spRules (K : PySem.W.Frag) : Sp := fun vs H Q _ => ∃ (kind : Nat) (a : Addr) (z : V) (c0 c1 : Cells) (u v : Nat), vs = [.int (kind : Int), .ref a, z] ∧ kind ≤ 3 ∧ GroupsAt K H a c0 c1 ∧ Full c0 c1 ∧ Pr K H z (u, v) ∧ u ≤ 100 ∧ v ≤ 100 ∧
  ∀ H' p r0 r1, Same H H' → Pair K H H' p r0 r1 (ruleK kind u v c0 c1 c0) (ruleK kind u v c0 c1 c1) → Q (.ref p) H'
theorem Pair.weak {H0 H H' : Hp} {p r0 r1 : Addr} {q0 q1 : List Rat} (h : Pair K H H' p r0 r1 q0 q1) (s : Same H0 H) : Pair K H0 H' p r0 r1 q0 q1 := ⟨h.at_, h.f0, h.f1, s.free h.np, s.free h.n0, s.free h.n1, h.d0, h.d1, h.d2⟩
theorem full_cs {c0 c1 cs : Cells} (f : Full c0 c1) (h : cs = c0 ∨ cs = c1) : CsOk cs ∧ 0 < (so cs).sum := by
  rcases h with rfl | rfl
  · exact ⟨f.ok0, f.so0⟩
  · exact ⟨f.ok1, f.so1⟩
abbrev s_rules_of : Stmt := top 52
theorem sc_rules_of : FnScope ["kind", "groups", "pays", "x", "y", "cells"] ["kind", "groups", "pays"] (defScope s_rules_of) := ⟨rfl, rfl, rfl, by decide +kernel, rfl, by decide +kernel, by decide +kernel⟩
theorem ok_rules_of (D : DefAt K mg "rules_of" s_rules_of) (T : Kinds mg) (G_freely_chosen : OkAt P w K mg base 2 "freely_chosen" ["cells", "pays"] (spFreely K)) (G_best_x : OkAt P w K mg base 10 "best_x" ["kind", "groups", "pays"] (spBest K bestK 1)) (G_chances_for : OkAt P w K mg base 5 "chances_for" ["kind", "cells", "pays", "x"] (spChK K))
    (G_right_in_both : OkAt P w K mg base 7 "right_in_both" ["groups", "pays", "x"] (spRB K leastK)) (G_chances_reaching : OkAt P w K mg base 7 "chances_reaching" ["cells", "pays", "x", "y"] (spReach K)) :
    OkAt P w K mg base 11 "rules_of" ["kind", "groups", "pays"] (spRules K) := by
  refine okAt_of D (fun _ _ _ _ _ _ us hl => match us, hl with | [_, _, _], _ => rfl) fun f fd F => ?_
  have nd := sc_rules_of.nd
  refine F.ok sc_rules_of (fun vs H Q E h => ?_) (fun cdv A outer s H vs Q E hr h => ?_)
  · obtain ⟨kind, a, z, c0, c1, u, v, rfl, _⟩ := h
    rfl
  · obtain ⟨kind, a, z, c0, c1, u, v, rfl, k3, hg, full, hz, hu, hv, k⟩ := h
    refine ⟨_, (pss_cons (ps_if (pt_cmpR op_eq (pv 0) (pe_gi T.FREELY (by rfl)) (nomark _)) (pss_one (ps_ret (pe_lc (own := [("cells", 5)]) (g := (gName 5)) (te := (tCallO (spFreely K) (tCons (tVar 5) (tCons (tVar 2) tNil)))) (tt := tYes) (by rfl) nd (pi_list (pv 1)) (blkOk_by (own := [("cells", 5)]) (N := ["kind", "groups", "pays", "x", "y", "cells"]) (sc := defScope s_rules_of) (by decide +kernel)) (fun _ _ _ _ _ => (pg_name (i := 5) nd rfl (Or.inl rfl))) (fun _ _ _ _ _ => pts_nil) (fun _ _ _ _ _ => (pe_callO G_freely_chosen (hr.mono (by decide)) (by rfl) (pa_cons (pv 5) (pa_cons (pv 2) pa_nil))))))) pss_nil) (pss_cons (ps_set (i := 3) nd rfl (Or.inr rfl) (pe_callO G_best_x (hr.mono (by decide)) (by rfl) (pa_cons (pv 0) (pa_cons (pv 1) (pa_cons (pv 2) pa_nil))))) (pss_cons (ps_if (pt_cmpR op_ne (pv 0) (pe_gi T.SAME_BOTH (by rfl)) (nomark _)) (pss_one (ps_ret (pe_lc (own := [("cells", 5)]) (g := (gName 5)) (te := (tCallO (spChK K) (tCons (tVar 0) (tCons (tVar 5) (tCons (tVar 2) (tCons (tVar 3) tNil)))))) (tt := tYes) (by rfl) nd (pi_list (pv 1)) (blkOk_by (own := [("cells", 5)]) (N := ["kind", "groups", "pays", "x", "y", "cells"]) (sc := defScope s_rules_of) (by decide +kernel)) (fun _ _ _ _ _ => (pg_name (i := 5) nd rfl (Or.inl rfl))) (fun _ _ _ _ _ => pts_nil) (fun _ _ _ _ _ => (pe_callO G_chances_for (hr.mono (by decide)) (by rfl) (pa_cons (pv 0) (pa_cons (pv 5) (pa_cons (pv 2) (pa_cons (pv 3) pa_nil))))))))) pss_nil) (pss_cons (ps_set (i := 4) nd rfl (Or.inr rfl) (pe_callO G_right_in_both (hr.mono (by decide)) (by rfl) (pa_cons (pv 1) (pa_cons (pv 2) (pa_cons (pv 3) pa_nil))))) (pss_one (ps_ret (pe_lc (own := [("cells", 5)]) (g := (gName 5)) (te := (tCallO (spReach K) (tCons (tVar 5) (tCons (tVar 2) (tCons (tVar 3) (tCons (tVar 4) tNil)))))) (tt := tYes) (by rfl) nd (pi_list (pv 1)) (blkOk_by (own := [("cells", 5)]) (N := ["kind", "groups", "pays", "x", "y", "cells"]) (sc := defScope s_rules_of) (by decide +kernel)) (fun _ _ _ _ _ => (pg_name (i := 5) nd rfl (Or.inl rfl))) (fun _ _ _ _ _ => pts_nil) (fun _ _ _ _ _ => (pe_callO G_chances_reaching (hr.mono (by decide)) (by rfl) (pa_cons (pv 5) (pa_cons (pv 2) (pa_cons (pv 3) (pa_cons (pv 4) pa_nil))))))))))))), ?_⟩
    refine ⟨_, rfl, rfl, _, rfl, ?_⟩
    rw [kd]
    by_cases e0 : kind = 0
    · subst e0
      refine iteT ?_
      refine comp_rules (K := K) (F := fun cs => (gai u v cs).map free01) hg (fun gg cs H' R hcs s5 hc hR => ?_) fun H' p r0 r1 s5 hp => ?_
      · exact ⟨_, rfl, _, rfl, gg, z, cs, u, v, rfl, hc, (full_cs full hcs).1.len, hz.same s5, hu, hv, fun H2 v2 s6 ⟨p, e, np, fp⟩ => e ▸ hR H2 p s6 np fp⟩
      · exact k H' p r0 r1 s5 hp
    · rw [decide_eq_false (by omega)]
      refine iteF ?_
      refine ⟨_, rfl, _, rfl, _, rfl, kind, a, z, c0, c1, u, v, rfl, by omega, k3, hg, full, hz, hu, hv, fun H2 v2 s2 f2 => ?_⟩
      have ⟨b0, b1, bs⟩ := cand_in full (best_cand (kind := kind) (u := u) (v := v) full)
      refine ⟨_, rfl, rfl, _, rfl, ?_⟩
      rw [kd]
      by_cases e3 : kind = 3
      · subst e3
        refine iteF ?_
        refine ⟨_, rfl, _, rfl, _, rfl, a, z, v2, c0, c1, u, v, _, 400, rfl, hg.same s2, full, hz.same s2, hu, hv, f2, b0, bs, by decide, fun H3 v3 s3 f3 => ?_⟩
        have s23 := s2.trans s3
        have sl := least_sz full b0 bs
        refine comp_rules (K := K) (F := fun cs => chFor cs (bestK 3 u v c0 c1) (leastK c0 c1 (bestK 3 u v c0 c1))) (hg.same s23) (fun gg cs H' R hcs s5 hc hR => ?_) fun H' p r0 r1 s5 hp => ?_
        · have ⟨ok, so0⟩ := full_cs full hcs
          exact ⟨_, rfl, _, rfl, _, rfl, _, rfl, gg, z, v2, v3, cs, u, v, _, _, rfl, hc, ok, so0, hz.same (s23.trans s5), hu, hv, f2.same (s3.trans s5), b0, b1, bs, f3.same s5, sl, fun H2 v2 s6 ⟨p, e, np, fp⟩ => e ▸ hR H2 p s6 np fp⟩
        · exact k H' p r0 r1 (s23.trans s5) (hp.weak s23)
      · rw [decide_eq_false (by omega)]
        refine iteT ?_
        refine comp_rules (K := K) (F := fun cs => chK kind u v cs (bestK kind u v c0 c1)) (hg.same s2) (fun gg cs H' R hcs s5 hc hR => ?_) fun H' p r0 r1 s5 hp => ?_
        · have ⟨ok, so0⟩ := full_cs full hcs
          exact ⟨_, rfl, _, rfl, _, rfl, _, rfl, kind, gg, z, v2, cs, u, v, _, 400, rfl, by omega, k3, hc, ok, hz.same (s2.trans s5), hu, hv, f2.same s5, b0, bs, by decide, fun H2 v2 s6 ⟨p, e, np, fp⟩ => e ▸ hR H2 p s6 np fp⟩
        · have er : ∀ cs, ruleK kind u v c0 c1 cs = chK kind u v cs (bestK kind u v c0 c1) := fun cs => by
            unfold ruleK
            rw [if_neg e0, if_neg e3]
          have hp' := hp.weak s2
          rw [← er c0, ← er c1] at hp'
          exact k H' p r0 r1 (s2.trans s5) hp'
/-! ## alike, met -/
def meanK (kind : Nat) (cs : Cells) (qs : List Rat) : Rat := wsum qs (runK kind cs) / (((runK kind cs).sum : Int) : Rat)
def ChAt (K : PySem.W.Frag) (H : Hp) (b : Addr) (q0 q1 : List Rat) : Prop := ∃ b0 b1, SqL K H b [.ref b0, .ref b1] ∧ Frs K H b0 q0 ∧ Frs K H b1 q1
theorem ChAt.same {H H' : Hp} {b : Addr} {q0 q1 : List Rat} (h : ChAt K H b q0 q1) (e : Same H H') : ChAt K H' b q0 q1 := by
  obtain ⟨b0, b1, h1, h2, h3⟩ := h
  exact ⟨b0, b1, e.seq h1, h2.same e, h3.same e⟩
structure Chs (c0 c1 : Cells) (q0 q1 : List Rat) : Prop where
  full : Full c0 c1
  l0 : q0.length = c0.length
  l1 : q1.length = c1.length
  z0 : ∀ q ∈ q0, Sz 1900 q
  z1 : ∀ q ∈ q1, Sz 1900 q
def spAlike (K : PySem.W.Frag) : Sp := fun vs H Q _ => ∃ (kind : Nat) (a b : Addr) (c0 c1 : Cells) (q0 q1 : List Rat), vs = [.int (kind : Int), .ref a, .ref b] ∧ 1 ≤ kind ∧ kind ≤ 3 ∧ GroupsAt K H a c0 c1 ∧ ChAt K H b q0 q1 ∧ Chs c0 c1 q0 q1 ∧ ∀ H', Same H H' → Q (.bl (decide (meanK kind c0 q0 = meanK kind c1 q1))) H'
theorem rat_two {p q : Rat} : (p.num = q.num ∧ (p.den : Int) = (q.den : Int)) ↔ p = q := by
  constructor
  · intro h
    exact Rat.ext h.1 (by have := h.2; omega)
  · intro h
    subst h
    exact ⟨rfl, rfl⟩
theorem run_wd {kind : Nat} {cs : Cells} (h : CsOk cs) : Wd (runK kind cs) := ⟨fun z hz => by
  have := run_in h z hz
  omega⟩
abbrev s_alike : Stmt := top 53
theorem sc_alike : FnScope ["kind", "groups", "chances"] ["kind", "groups", "chances"] (defScope s_alike) := ⟨rfl, rfl, rfl, by decide +kernel, rfl, by decide +kernel, by decide +kernel⟩
theorem ok_alike (D : DefAt K mg "alike" s_alike) (G_mean : OkAt P w K mg base 5 "mean" ["fractions", "weights"] (spMean K)) (G_runs_for : OkAt P w K mg base 2 "runs_for" ["kind", "cells"] (spRuns K)) : OkAt P w K mg base 6 "alike" ["kind", "groups", "chances"] (spAlike K) := by
  refine okAt_of D (fun _ _ _ _ _ _ us hl => match us, hl with | [_, _, _], _ => rfl) fun f fd F => ?_
  have nd := sc_alike.nd
  refine F.ok sc_alike (fun vs H Q E h => ?_) (fun cdv A outer s H vs Q E hr h => ?_)
  · obtain ⟨kind, a, b, c0, c1, q0, q1, rfl, _⟩ := h
    rfl
  · obtain ⟨kind, a, b, c0, c1, q0, q1, rfl, k1, k3, ⟨g0, g1, hg, hc0, hc1⟩, ⟨b0, b1, hb, f0, f1⟩, ch, k⟩ := h
    have ok0 := ch.full.ok0
    have ok1 := ch.full.ok1
    have ⟨u0, u1⟩ := run_sum (kind := kind) ok0
    have ⟨w0, w1⟩ := run_sum (kind := kind) ok1
    have h0 := ok0.len
    have h1 := ok1.len
    have l0 := ch.l0
    have l1 := ch.l1
    refine ⟨_, (pss_one (ps_ret (pe_cmpR (op_eqD hr.units) (pe_callO G_mean (hr.mono (by decide)) (by rfl) (pa_cons (pe_ix ix_list (pv 2) pe_int (fun _ _ => rfl)) (pa_cons (pe_callO G_runs_for (hr.mono (by decide)) (by rfl) (pa_cons (pv 0) (pa_cons (pe_ix ix_list (pv 1) pe_int (fun _ _ => rfl)) pa_nil))) pa_nil))) (pe_callO G_mean (hr.mono (by decide)) (by rfl) (pa_cons (pe_ix ix_list (pv 2) pe_int (fun _ _ => rfl)) (pa_cons (pe_callO G_runs_for (hr.mono (by decide)) (by rfl) (pa_cons (pv 0) (pa_cons (pe_ix ix_list (pv 1) pe_int (fun _ _ => rfl)) pa_nil))) pa_nil))) (nomark _)))), ?_⟩
    refine ⟨_, rfl, b, _, _, _, rfl, rfl, hb, at0, _, rfl, _, rfl, a, _, _, _, rfl, rfl, hg, at0, kind, g0, c0, rfl, k1, k3, hc0, h0, fun H2 v2 s2 ⟨p2, e2, hp2⟩ => ?_⟩
    subst e2
    refine ⟨b0, p2, q0, runK kind c0, 1900, rfl, f0.same s2, SqL.of hp2, by rw [len_runK]; exact l0, ch.z0, run_wd ok0, by omega, by decide, ch.full.run0 kind, by omega, fun H3 v3 s3 f3 => ?_⟩
    have s23 := s2.trans s3
    refine ⟨_, rfl, b, _, _, _, rfl, rfl, s23.seq hb, at1, _, rfl, _, rfl, a, _, _, _, rfl, rfl, s23.seq hg, at1, kind, g1, c1, rfl, k1, k3, hc1.same s23, h1, fun H4 v4 s4 ⟨p4, e4, hp4⟩ => ?_⟩
    subst e4
    have s24 := s23.trans s4
    refine ⟨b1, p4, q1, runK kind c1, 1900, rfl, f1.same s24, SqL.of hp4, by rw [len_runK]; exact l1, ch.z1, run_wd ok1, by omega, by decide, ch.full.run1 kind, by omega, fun H5 v5 s5 f5 => ?_⟩
    have s25 := s24.trans s5
    have g3 : Fr K H5 v3 (meanK kind c0 q0) := (Fr.same f3 s4).same s5
    have g5 : Fr K H5 v5 (meanK kind c1 q1) := f5
    obtain ⟨t3, rfl, ht3⟩ := g3
    obtain ⟨t5, rfl, ht5⟩ := g5
    refine ⟨_, _, dp_two ht3, dp_two ht5, shaped_two _ _, shaped_two _ _, ?_⟩
    rw [eqv_two, decide_eq_decide.mpr rat_two]
    exact k H5 s25
def metK (kind : Nat) (c0 c1 : Cells) (q0 q1 : List Rat) : Bool := if kind = 0 then true else if kind = 3 then decide (meanK 2 c0 q0 = meanK 2 c1 q1) && decide (meanK 3 c0 q0 = meanK 3 c1 q1) else decide (meanK kind c0 q0 = meanK kind c1 q1)
def spMet (K : PySem.W.Frag) : Sp := fun vs H Q _ => ∃ (kind : Nat) (a b : Addr) (c0 c1 : Cells) (q0 q1 : List Rat), vs = [.int (kind : Int), .ref a, .ref b] ∧ kind ≤ 3 ∧ GroupsAt K H a c0 c1 ∧ ChAt K H b q0 q1 ∧ Chs c0 c1 q0 q1 ∧ ∀ H', Same H H' → Q (.bl (metK kind c0 c1 q0 q1)) H'
abbrev s_met : Stmt := top 54
theorem sc_met : FnScope ["kind", "groups", "chances"] ["kind", "groups", "chances"] (defScope s_met) := ⟨rfl, rfl, rfl, by decide +kernel, rfl, by decide +kernel, by decide +kernel⟩
theorem ok_met (D : DefAt K mg "met" s_met) (T : Kinds mg) (G_alike : OkAt P w K mg base 6 "alike" ["kind", "groups", "chances"] (spAlike K)) : OkAt P w K mg base 7 "met" ["kind", "groups", "chances"] (spMet K) := by
  refine okAt_of D (fun _ _ _ _ _ _ us hl => match us, hl with | [_, _, _], _ => rfl) fun f fd F => ?_
  have nd := sc_met.nd
  refine F.ok sc_met (fun vs H Q E h => ?_) (fun cdv A outer s H vs Q E hr h => ?_)
  · obtain ⟨kind, a, b, c0, c1, q0, q1, rfl, _⟩ := h
    rfl
  · obtain ⟨kind, a, b, c0, c1, q0, q1, rfl, k3, hg, hb, ch, k⟩ := h
    refine ⟨_, (pss_cons (ps_if (pt_cmpR op_eq (pv 0) (pe_gi T.FREELY (by rfl)) (nomark _)) (pss_one (ps_ret pe_bl)) pss_nil) (pss_cons (ps_if (pt_cmpR op_eq (pv 0) (pe_gi T.SAME_BOTH (by rfl)) (nomark _)) (pss_one (ps_ret (pe_and (pe_callO G_alike (hr.mono (by decide)) (by rfl) (pa_cons (pe_gi T.SAME_RIGHT (by rfl)) (pa_cons (pv 1) (pa_cons (pv 2) pa_nil)))) (pe_one (pe_callO G_alike (hr.mono (by decide)) (by rfl) (pa_cons (pe_gi T.SAME_BOTH (by rfl)) (pa_cons (pv 1) (pa_cons (pv 2) pa_nil)))))))) pss_nil) (pss_one (ps_ret (pe_callO G_alike (hr.mono (by decide)) (by rfl) (pa_cons (pv 0) (pa_cons (pv 1) (pa_cons (pv 2) pa_nil)))))))), ?_⟩
    refine ⟨_, rfl, rfl, _, rfl, ?_⟩
    rw [kd]
    by_cases e0 : kind = 0
    · subst e0
      refine iteT ?_
      exact k H (Same.refl H)
    · rw [decide_eq_false (by omega)]
      refine iteF ?_
      refine ⟨_, rfl, rfl, _, rfl, ?_⟩
      rw [kd]
      unfold metK at k
      rw [if_neg e0] at k
      by_cases e3 : kind = 3
      · subst e3
        rw [if_pos rfl] at k
        refine iteT ?_
        refine ⟨_, rfl, _, rfl, 2, a, b, c0, c1, q0, q1, rfl, by decide, by decide, hg, hb, ch, fun H2 s2 => ?_⟩
        refine ⟨_, rfl, ?_⟩
        by_cases d : meanK 2 c0 q0 = meanK 2 c1 q1
        · rw [decide_eq_true d] at k ⊢
          refine iteT ?_
          refine ⟨_, rfl, _, rfl, 3, a, b, c0, c1, q0, q1, rfl, by decide, by decide, hg.same s2, hb.same s2, ch, fun H3 s3 => ?_⟩
          rw [Bool.true_and] at k
          exact k H3 (s2.trans s3)
        · rw [decide_eq_false d] at k ⊢
          exact iteF (k H2 s2)
      · rw [decide_eq_false (by omega)]
        rw [if_neg e3] at k
        refine iteF ?_
        exact ⟨_, rfl, _, rfl, _, rfl, kind, a, b, c0, c1, q0, q1, rfl, by omega, k3, hg, hb, ch, k⟩
end
end My
namespace My
open PySem PySem.Spec PyProof.Rows L2
theorem free_sz {u v : Nat} {c0 c1 : Cells} (f : Full c0 c1) (hu : u ≤ 100) (hv : v ≤ 100) : Sz 20 (((freeK u v c0 c1 : Int)) : Rat) := by
  unfold freeK
  have h := sum_in (B := 16384) (l := (gai u v c0 ++ gai u v c1).filter fun z => decide (0 < z)) fun z hz => by
    have ⟨m, p⟩ := List.mem_filter.mp hz
    have p' := of_decide_eq_true p
    rcases List.mem_append.mp m with m | m
    · have := gai_small f.ok0 hu hv z m
      omega
    · have := gai_small f.ok1 hu hv z m
      omega
  have l := List.length_filter_le (fun z : Int => decide (0 < z)) (gai u v c0 ++ gai u v c1)
  rw [List.length_append, len_gai, len_gai] at l
  have a := f.ok0.len
  have b := f.ok1.len
  exact Sz.int (by omega) (by decide)
theorem most_sz {kind u v : Nat} {c0 c1 : Cells} (f : Full c0 c1) (hu : u ≤ 100) (hv : v ≤ 100) : Sz 4500 (mostK kind u v c0 c1) := by
  unfold mostK
  split
  · exact (free_sz f hu hv).mono (by decide)
  · have ⟨b0, _, bs⟩ := cand_in f (best_cand (kind := kind) (u := u) (v := v) f)
    exact gain_sz f hu hv b0 bs
section
variable {P : Program} {w : World} {K : PySem.W.Frag} {mg : Str → Option Value} {base : Heap} {C : Addr}
/-! costs -/
def arCosts : List Nat → Option Krdi.Call
  | [q] => some (.costs q)
  | _ => none
theorem act_costs {m : Pm} (ok : m.Ok) (h : m.k ≠ 0) (q : Nat) : Krdi.act m.abs (.costs q) = (m.abs, if decide (3 < q) then Krdf.say (-22) else if (lack m.c0 || lack m.c1) = true then Krdf.say (-33) else Krdf.frac (mostK 0 m.u m.v m.c0 m.c1 - mostK q m.u m.v m.c0 m.c1)) := by
  have outer : Krdi.act (some m.desk) (.costs q) = (some m.desk, if decide (3 < q) then Krdf.say (-22) else if (!Krdh.full m.tab) = true then Krdf.say (-33) else Krdf.frac (Krdi.most m.tab ⟨m.u, m.v⟩ 0 - Krdi.most m.tab ⟨m.u, m.v⟩ q)) := rfl
  rw [abs_some h, outer, full_lack ok]
  by_cases c : decide (3 < q) = true
  · rw [if_pos c, if_pos c]
  · rw [if_neg c, if_neg c]
    have hq : ¬ 3 < q := fun z => c (decide_eq_true z)
    by_cases d : (lack m.c0 || lack m.c1) = true
    · rw [if_pos d, if_pos d]
    · rw [if_neg d, if_neg d, most_all ok.tabOk (full_of ok (Bool.eq_false_iff.mpr d)) (by omega), most_all ok.tabOk (full_of ok (Bool.eq_false_iff.mpr d)) (by omega)]
abbrev s_costs : Stmt := top 83
theorem sc_costs : FnScope ["people", "given", "kind", "refused", "freely"] ["people", "given"] (defScope s_costs) := ⟨rfl, rfl, rfl, by decide +kernel, rfl, by decide +kernel, by decide +kernel⟩
theorem ok_costs (D : DefAt K mg "costs" s_costs) (T : Tops K mg C) (G_refusal : OkAt P w K mg base 3 "refusal" ["people", "wrong"] (spRefusal K C)) (G_no_kind : OkAt P w K mg base 1 "no_kind" ["kind"] spNoKind) (G_most_of : OkAt P w K mg base 11 "most_of" ["kind", "groups", "pays"] (spBest K mostK 0)) (G_minus : OkAt P w K mg base 3 "minus" ["first", "second"] (spTwo K (· - ·) fun _ => True)) (G_told : OkAt P w K mg base 1 "told" ["fraction"] (spTold K)) :
    OkAt P w K mg base 12 "costs" ["people", "given"] (spC K C false arCosts) := by
  refine okAt_of D (fun _ _ _ _ _ _ us hl => match us, hl with | [_, _], _ => rfl) fun f fd F => ?_
  have nd := sc_costs.nd
  refine F.ok sc_costs (fun vs H Q E h => ?_) (fun cdv A outer s H vs Q E hr h => ?_)
  · obtain ⟨a, l, m, fp, ns, c, rfl, _⟩ := h
    rfl
  · obtain ⟨a, l, m, fp, ns, c, rfl, hp, ok, hk, hl, har, hb, k⟩ := h
    refine ⟨_, (pss_cons (ps_set (i := 2) nd rfl (Or.inl rfl) (pe_ix ix_list (pv 1) pe_int (fun _ _ => rfl))) (pss_cons (ps_set (i := 3) nd rfl (Or.inl rfl) (pe_callO G_refusal (hr.mono (by decide)) (by rfl) (pa_cons (pv 0) (pa_cons (pe_callO G_no_kind (hr.mono (by decide)) (by rfl) (pa_cons (pv 2) pa_nil)) pa_nil)))) (pss_cons (ps_if (pt_cmpR (op_neD hr.units) (pv 3) (pe_lst pa_nil) (nomark _)) (pss_one (ps_ret (pv 3))) pss_nil) (pss_cons (ps_set (i := 4) nd rfl (Or.inl rfl) (pe_callO G_most_of (hr.mono (by decide)) (by rfl) (pa_cons (pe_gi T.FREELY (by rfl)) (pa_cons (pe_fld (pv 0) rfl) (pa_cons (pe_fld (pv 0) rfl) pa_nil))))) (pss_one (ps_ret (pe_callO G_told (hr.mono (by decide)) (by rfl) (pa_cons (pe_callO G_minus (hr.mono (by decide)) (by rfl) (pa_cons (pv 4) (pa_cons (pe_callO G_most_of (hr.mono (by decide)) (by rfl) (pa_cons (pv 2) (pa_cons (pe_fld (pv 0) rfl) (pa_cons (pe_fld (pv 0) rfl) pa_nil)))) pa_nil))) pa_nil)))))))), ?_⟩
    have hk : m.k ≠ 0 := by simpa using hk
    match ns, har with
    | [q], har =>
      have ec : Krdi.Call.costs q = c := Option.some.inj har
      subst ec
      rw [act_costs ok hk] at k
      refine ⟨_, rfl, l, _, _, _, rfl, rfl, hl, at0, ?_⟩
      refine ⟨_, rfl, _, rfl, q, rfl, a, m, fp, _, rfl, hp, ok, fun H2 p2 s2 n2 h2 => ?_⟩
      cases c3 : decide (3 < q) with
      | true =>
        rw [c3, if_pos rfl] at k
        rw [c3] at h2
        refine t_ref_yes (K := K) (i := 3) (z := -22) rfl h2 fun H3 s3 => ?_
        exact iteT ⟨_, rfl, k.tell hp ok rfl (s2.trans s3) n2 (s3 _ _ h2)⟩
      | false =>
        rw [c3, if_neg Bool.false_ne_true] at k
        rw [c3] at h2
        have q3 := of_decide_eq_false c3
        cases cl : lack m.c0 || lack m.c1 with
        | true =>
          rw [cl, if_pos rfl] at k
          rw [cl] at h2
          refine t_ref_yes (K := K) (i := 3) (z := -33) rfl h2 fun H3 s3 => ?_
          exact iteT ⟨_, rfl, k.tell hp ok rfl (s2.trans s3) n2 (s3 _ _ h2)⟩
        | false =>
          rw [cl, if_neg Bool.false_ne_true] at k
          rw [cl] at h2
          refine t_ref_no (K := K) (i := 3) rfl h2 fun H3 s3 => iteF ?_
          have s23 := s2.trans s3
          have full := full_of ok cl
          obtain ⟨dx, lg, lq, g0, g1, b0, b1, pz, hfp, L0⟩ := id hp
          have L := L0.same s23
          refine ⟨_, rfl, a, C, dx, _, _, rfl, L.ins, T.cl, T.nG, flds_groups, _, rfl, a, C, dx, _, _, rfl, L.ins, T.cl, T.nP, flds_pays, ?_⟩
          refine ⟨0, lg, pz, m.c0, m.c1, m.u, m.v, rfl, Nat.zero_le _, by decide, L.groups, full, L.pay, ok.hu, ok.hv, fun H4 v4 s4 f4 => ?_⟩
          have s24 := s23.trans s4
          have L4 := L0.same s24
          refine ⟨_, rfl, _, rfl, _, rfl, a, C, dx, _, _, rfl, L4.ins, T.cl, T.nG, flds_groups, _, rfl, a, C, dx, _, _, rfl, L4.ins, T.cl, T.nP, flds_pays, ?_⟩
          refine ⟨q, lg, pz, m.c0, m.c1, m.u, m.v, rfl, Nat.zero_le _, by omega, L4.groups, full, L4.pay, ok.hu, ok.hv, fun H5 v5 s5 f5 => ?_⟩
          have z0 : Sz 20 (mostK 0 m.u m.v m.c0 m.c1) := free_sz full ok.hu ok.hv
          refine ⟨v4, v5, _, _, 20, 4500, rfl, f4.same s5, f5, z0, most_sz full ok.hu ok.hv, by decide, trivial, fun H6 v6 s6 f6 => ?_⟩
          refine ⟨v6, _, rfl, f6, fun H7 p s7 np hp7 => ?_⟩
          have s26 := (s24.trans s5).trans s6
          exact k.tell hp ok rfl (s26.trans s7) (s26.free np) hp7
/-! ifpays -/
def arIfpays : List Nat → Option Krdi.Call
  | [q, u, v] => some (.ifpays q u v)
  | _ => none
theorem act_ifpays {m : Pm} (ok : m.Ok) (h : m.k ≠ 0) (q u v : Nat) : Krdi.act m.abs (.ifpays q u v) = (m.abs, if (decide (3 < q) || (decide (100 < u) || decide (100 < v))) = true then Krdf.say (-22) else if (lack m.c0 || lack m.c1) = true then Krdf.say (-33) else Krdf.frac (mostK q u v m.c0 m.c1)) := by
  have outer : Krdi.act (some m.desk) (.ifpays q u v) = (some m.desk, if (decide (3 < q) || decide (100 < u) || decide (100 < v)) = true then Krdf.say (-22) else if (!Krdh.full m.tab) = true then Krdf.say (-33) else Krdf.frac (Krdi.most m.tab ⟨u, v⟩ q)) := rfl
  rw [abs_some h, outer, full_lack ok, Bool.or_assoc]
  by_cases c : (decide (3 < q) || (decide (100 < u) || decide (100 < v))) = true
  · rw [if_pos c, if_pos c]
  · rw [if_neg c, if_neg c]
    have hq : ¬ 3 < q := fun z => c (by rw [decide_eq_true z, Bool.true_or])
    by_cases d : (lack m.c0 || lack m.c1) = true
    · rw [if_pos d, if_pos d]
    · rw [if_neg d, if_neg d, most_all ok.tabOk (full_of ok (Bool.eq_false_iff.mpr d)) (by omega)]
abbrev s_ifpays : Stmt := top 90
theorem sc_ifpays : FnScope ["people", "given", "kind", "refused"] ["people", "given"] (defScope s_ifpays) := ⟨rfl, rfl, rfl, by decide +kernel, rfl, by decide +kernel, by decide +kernel⟩
theorem ok_ifpays (D : DefAt K mg "ifpays" s_ifpays) (T : Tops K mg C) (G_refusal : OkAt P w K mg base 3 "refusal" ["people", "wrong"] (spRefusal K C)) (G_no_kind : OkAt P w K mg base 1 "no_kind" ["kind"] spNoKind) (G_no_pays : OkAt P w K mg base 1 "no_pays" ["gain", "loss"] spNoPays) (G_most_of : OkAt P w K mg base 11 "most_of" ["kind", "groups", "pays"] (spBest K mostK 0)) (G_told : OkAt P w K mg base 1 "told" ["fraction"] (spTold K)) :
    OkAt P w K mg base 12 "ifpays" ["people", "given"] (spC K C false arIfpays) := by
  refine okAt_of D (fun _ _ _ _ _ _ us hl => match us, hl with | [_, _], _ => rfl) fun f fd F => ?_
  have nd := sc_ifpays.nd
  refine F.ok sc_ifpays (fun vs H Q E h => ?_) (fun cdv A outer s H vs Q E hr h => ?_)
  · obtain ⟨a, l, m, fp, ns, c, rfl, _⟩ := h
    rfl
  · obtain ⟨a, l, m, fp, ns, c, rfl, hp, ok, hk, hl, har, hb, k⟩ := h
    refine ⟨_, (pss_cons (ps_set (i := 2) nd rfl (Or.inl rfl) (pe_ix ix_list (pv 1) pe_int (fun _ _ => rfl))) (pss_cons (ps_set (i := 3) nd rfl (Or.inl rfl) (pe_callO G_refusal (hr.mono (by decide)) (by rfl) (pa_cons (pv 0) (pa_cons (pe_or (pe_callO G_no_kind (hr.mono (by decide)) (by rfl) (pa_cons (pv 2) pa_nil)) (pe_one (pe_callO G_no_pays (hr.mono (by decide)) (by rfl) (pa_cons (pe_ix ix_list (pv 1) pe_int (fun _ _ => rfl)) (pa_cons (pe_ix ix_list (pv 1) pe_int (fun _ _ => rfl)) pa_nil))))) pa_nil)))) (pss_cons (ps_if (pt_cmpR (op_neD hr.units) (pv 3) (pe_lst pa_nil) (nomark _)) (pss_one (ps_ret (pv 3))) pss_nil) (pss_one (ps_ret (pe_callO G_told (hr.mono (by decide)) (by rfl) (pa_cons (pe_callO G_most_of (hr.mono (by decide)) (by rfl) (pa_cons (pv 2) (pa_cons (pe_fld (pv 0) rfl) (pa_cons (pe_tup (pa_cons (pe_ix ix_list (pv 1) pe_int (fun _ _ => rfl)) (pa_cons (pe_ix ix_list (pv 1) pe_int (fun _ _ => rfl)) pa_nil))) pa_nil)))) pa_nil))))))), ?_⟩
    have hk : m.k ≠ 0 := by simpa using hk
    match ns, har with
    | [q, u, v], har =>
      have ec : Krdi.Call.ifpays q u v = c := Option.some.inj har
      subst ec
      rw [act_ifpays ok hk] at k
      refine ⟨_, rfl, l, _, _, _, rfl, rfl, hl, at0, ?_⟩
      -- no_kind(kind) or no_pays(given[1], given[2])
      have test : ∀ (R : VK), R (.bl (decide (3 < q) || (decide (100 < u) || decide (100 < v)))) H → tOrV (tCallO spNoKind (tCons (tVar 2) tNil)) (tCallO spNoPays (tCons (tOp (rIxL K) (tVar 1) (tC (.int 1))) (tCons (tOp (rIxL K) (tVar 1) (tC (.int 2))) tNil))) [some (.ref a), some (.ref l), some (.int (q : Int)), none] H R := by
        intro R hR
        refine ⟨_, rfl, q, rfl, _, rfl, ?_⟩
        by_cases c0 : 3 < q
        · rw [decide_eq_true c0, Bool.true_or] at hR
          rw [decide_eq_true c0]
          exact iteT hR
        · rw [decide_eq_false c0, Bool.false_or] at hR
          rw [decide_eq_false c0]
          exact iteF ⟨_, rfl, l, _, _, _, rfl, rfl, hl, at1, _, rfl, l, _, _, _, rfl, rfl, hl, atI_nat (j := 2) rfl, u, v, rfl, hR⟩
      refine ⟨_, rfl, ?_⟩
      refine test _ ?_
      refine ⟨a, m, fp, _, rfl, hp, ok, fun H2 p2 s2 n2 h2 => ?_⟩
      cases c3 : decide (3 < q) || (decide (100 < u) || decide (100 < v)) with
      | true =>
        rw [c3, if_pos rfl] at k
        rw [c3] at h2
        refine t_ref_yes (K := K) (i := 3) (z := -22) rfl h2 fun H3 s3 => ?_
        exact iteT ⟨_, rfl, k.tell hp ok rfl (s2.trans s3) n2 (s3 _ _ h2)⟩
      | false =>
        rw [c3, if_neg Bool.false_ne_true] at k
        rw [c3] at h2
        have ⟨d0, d1⟩ := Bool.or_eq_false_iff.mp c3
        have ⟨d2, d3⟩ := Bool.or_eq_false_iff.mp d1
        have q3 := of_decide_eq_false d0
        have u1 := of_decide_eq_false d2
        have v1 := of_decide_eq_false d3
        cases cl : lack m.c0 || lack m.c1 with
        | true =>
          rw [cl, if_pos rfl] at k
          rw [cl] at h2
          refine t_ref_yes (K := K) (i := 3) (z := -33) rfl h2 fun H3 s3 => ?_
          exact iteT ⟨_, rfl, k.tell hp ok rfl (s2.trans s3) n2 (s3 _ _ h2)⟩
        | false =>
          rw [cl, if_neg Bool.false_ne_true] at k
          rw [cl] at h2
          refine t_ref_no (K := K) (i := 3) rfl h2 fun H3 s3 => iteF ?_
          have s23 := s2.trans s3
          have full := full_of ok cl
          obtain ⟨dx, lg, lq, g0, g1, b0, b1, pz, hfp, L0⟩ := id hp
          have L := L0.same s23
          have hl3 := s23.seq hl
          refine ⟨_, rfl, _, rfl, a, C, dx, _, _, rfl, L.ins, T.cl, T.nG, flds_groups, _, rfl, l, _, _, _, rfl, rfl, hl3, at1, _, rfl, l, _, _, _, rfl, rfl, hl3, atI_nat (j := 2) rfl, two_le, fun t nt => ?_⟩
          have st : Same H3 (upd H3 t (.tup [.int (u : Int), .int (v : Int)])) := Same.new nt
          have s2t := s23.trans st
          refine ⟨q, lg, .ref t, m.c0, m.c1, u, v, rfl, Nat.zero_le _, by omega, (L0.same s2t).groups, full, ⟨t, rfl, SqT.of upd_same⟩, by omega, by omega, fun H4 v4 s4 f4 => ?_⟩
          refine ⟨v4, _, rfl, f4, fun H5 p s5 np hp5 => ?_⟩
          have s24 := s2t.trans s4
          exact k.tell hp ok rfl (s24.trans s5) (s24.free np) hp5
/-! forpart, forhits -/
def gforC (kind g a b : Nat) : Krdi.Call := if kind = 1 then .forpart g a b else .forhits g a b
def badPart (a b : Nat) : Bool := (decide (b < 1) || decide (1000 < b)) || decide (b < a)
theorem badPart_eq (a b : Nat) : (!Krdh.partOk a b) = badPart a b := by
  unfold Krdh.partOk badPart
  have e1 : decide (1 ≤ b) = !decide (b < 1) := by
    rw [← decide_not]
    exact decide_eq_decide.mpr (by omega)
  have e2 : decide (b ≤ 1000) = !decide (1000 < b) := by
    rw [← decide_not]
    exact decide_eq_decide.mpr (by omega)
  have e3 : decide (a ≤ b) = !decide (b < a) := by
    rw [← decide_not]
    exact decide_eq_decide.mpr (by omega)
  rw [e1, e2, e3]
  cases decide (b < 1) <;> cases decide (1000 < b) <;> cases decide (b < a) <;> rfl
theorem row_pos {m : Pm} (f : Full m.c0 m.c1) (g kind : Nat) : 0 < (runK kind (rowM m g)).sum := by
  unfold rowM
  split
  · exact f.run0 kind
  · exact f.run1 kind
theorem act_gfor {m : Pm} (ok : m.Ok) (h : m.k ≠ 0) {kind : Nat} (hk : kind = 1 ∨ kind = 2) (g a b : Nat) : Krdi.act m.abs (gforC kind g a b) = (m.abs, if decide (1 < g) = true then Krdf.say (-2) else if badPart a b = true then Krdf.say (-22) else if (lack m.c0 || lack m.c1) = true then Krdf.say (-33) else Krdf.frac (wsum (chK kind m.u m.v (rowM m g) (mkRat (a : Int) b)) (gai m.u m.v (rowM m g)))) := by
  have er : Krdh.rat a b = mkRat (a : Int) b := by
    rw [Rat.mkRat_eq_div]
    rfl
  have rest : ∀ (hg : ¬ 1 < g) (full : Full m.c0 m.c1) (x : Rat), (kind = 1 → Krdi.gains m.tab ⟨m.u, m.v⟩ g (Krdi.forPart m.tab ⟨m.u, m.v⟩ g x) = wsum (chK kind m.u m.v (rowM m g) x) (gai m.u m.v (rowM m g))) ∧ (kind = 2 → Krdi.gains m.tab ⟨m.u, m.v⟩ g (Krdi.forHits m.tab g x) = wsum (chK kind m.u m.v (rowM m g) x) (gai m.u m.v (rowM m g))) := by
    intro hg full x
    have hl : (rowOf m.tab g).length = m.tab.k := by
      rw [row_tab m hg]
      exact row_len ok g
    constructor
    · intro e
      subst e
      rw [forPart_eq hl (by rw [row_tab m hg]; exact row_pos full g 1), gains_eq hl (by rw [chK_len, hl]), row_tab m hg]
    · intro e
      subst e
      rw [forHits_eq (u := m.u) (v := m.v) hl (by rw [row_tab m hg]; exact row_pos full g 2), gains_eq hl (by rw [chK_len, hl]), row_tab m hg]
  rw [abs_some h]
  have fin : ∀ X : Krdf.Ans, (¬ 1 < g → Full m.c0 m.c1 → X = Krdf.frac (wsum (chK kind m.u m.v (rowM m g) (mkRat (a : Int) b)) (gai m.u m.v (rowM m g)))) → (if decide (1 < g) = true then Krdf.say (-2) else if (!Krdh.partOk a b) = true then Krdf.say (-22) else if (!Krdh.full m.tab) = true then Krdf.say (-33) else X) = (if decide (1 < g) = true then Krdf.say (-2) else if badPart a b = true then Krdf.say (-22) else if (lack m.c0 || lack m.c1) = true then Krdf.say (-33) else Krdf.frac (wsum (chK kind m.u m.v (rowM m g) (mkRat (a : Int) b)) (gai m.u m.v (rowM m g)))) := by
    intro X hX
    rw [badPart_eq, full_lack ok]
    by_cases c : decide (1 < g) = true
    · rw [if_pos c, if_pos c]
    · rw [if_neg c, if_neg c]
      have hg : ¬ 1 < g := fun z => c (decide_eq_true z)
      by_cases d : badPart a b = true
      · rw [if_pos d, if_pos d]
      · rw [if_neg d, if_neg d]
        by_cases e : (lack m.c0 || lack m.c1) = true
        · rw [if_pos e, if_pos e]
        · rw [if_neg e, if_neg e, hX hg (full_of ok (Bool.eq_false_iff.mpr e))]
  rcases hk with e | e
  · have outer : Krdi.act (some m.desk) (.forpart g a b) = (some m.desk, if decide (1 < g) = true then Krdf.say (-2) else if (!Krdh.partOk a b) = true then Krdf.say (-22) else if (!Krdh.full m.tab) = true then Krdf.say (-33) else Krdf.frac (Krdi.gains m.tab ⟨m.u, m.v⟩ g (Krdi.forPart m.tab ⟨m.u, m.v⟩ g (Krdh.rat a b)))) := rfl
    unfold gforC
    rw [if_pos e, outer, fin _ fun hg full => by rw [er, (rest hg full _).1 e]]
  · have outer : Krdi.act (some m.desk) (.forhits g a b) = (some m.desk, if decide (1 < g) = true then Krdf.say (-2) else if (!Krdh.partOk a b) = true then Krdf.say (-22) else if (!Krdh.full m.tab) = true then Krdf.say (-33) else Krdf.frac (Krdi.gains m.tab ⟨m.u, m.v⟩ g (Krdi.forHits m.tab g (Krdh.rat a b)))) := rfl
    unfold gforC
    rw [if_neg (by omega), outer, fin _ fun hg full => by rw [er, (rest hg full _).2 e]]
def spGF (K : PySem.W.Frag) (C : Addr) : Sp := fun vs H Q _ => ∃ (a l : Addr) (m : Pm) (fp : List Addr) (kind g x y : Nat), vs = [.ref a, .ref l, .int (kind : Int)] ∧ (kind = 1 ∨ kind = 2) ∧ PAtF K C H a m fp ∧ m.Ok ∧ m.k ≠ 0 ∧ SqL K H l (ofN [g, x, y]) ∧
  Done K C H a fp (Krdi.act m.abs (gforC kind g x y)).1 (KrdiNeutral.told (Krdi.act m.abs (gforC kind g x y)).2) Q
abbrev s_gained_for : Stmt := top 87
theorem sc_gained_for : FnScope ["people", "given", "kind", "group", "upper", "lower", "refused", "cells"] ["people", "given", "kind"] (defScope s_gained_for) := ⟨rfl, rfl, rfl, by decide +kernel, rfl, by decide +kernel, by decide +kernel⟩
theorem ok_gained_for (D : DefAt K mg "gained_for" s_gained_for) (T : Tops K mg C) (G_no_group : OkAt P w K mg base 1 "no_group" ["group"] spNoGroup) (G_refusal : OkAt P w K mg base 3 "refusal" ["people", "wrong"] (spRefusal K C)) (G_no_lower : OkAt P w K mg base 1 "no_lower" ["lower"] spNoLower) (G_gained : OkAt P w K mg base 5 "gained" ["cells", "chances", "pays"] (spGained K))
    (G_chances_for : OkAt P w K mg base 5 "chances_for" ["kind", "cells", "pays", "x"] (spChK K)) (G_ratio : OkAt P w K mg base 2 "ratio" ["upper", "lower"] (spRatio K)) (G_told : OkAt P w K mg base 1 "told" ["fraction"] (spTold K)) :
    OkAt P w K mg base 6 "gained_for" ["people", "given", "kind"] (spGF K C) := by
  refine okAt_of D (fun _ _ _ _ _ _ us hl => match us, hl with | [_, _, _], _ => rfl) fun f fd F => ?_
  have nd := sc_gained_for.nd
  refine F.ok sc_gained_for (fun vs H Q E h => ?_) (fun cdv A outer s H vs Q E hr h => ?_)
  · obtain ⟨a, l, m, fp, kind, g, x, y, rfl, _⟩ := h
    rfl
  · obtain ⟨a, l, m, fp, kind, g, x, y, rfl, hkd, hp, ok, hk, hl, k⟩ := h
    refine ⟨_, (pss_cons (ps_set (i := 3) nd rfl (Or.inl rfl) (pe_ix ix_list (pv 1) pe_int (fun _ _ => rfl))) (pss_cons (ps_set (i := 4) nd rfl (Or.inl rfl) (pe_ix ix_list (pv 1) pe_int (fun _ _ => rfl))) (pss_cons (ps_set (i := 5) nd rfl (Or.inl rfl) (pe_ix ix_list (pv 1) pe_int (fun _ _ => rfl))) (pss_cons (ps_if (pt_val (pe_callO G_no_group (hr.mono (by decide)) (by rfl) (pa_cons (pv 3) pa_nil))) (pss_one (ps_ret (pe_lst (pa_cons (pe_gi T.NO_SUCH (by rfl)) pa_nil)))) pss_nil) (pss_cons (ps_set (i := 6) nd rfl (Or.inl rfl) (pe_callO G_refusal (hr.mono (by decide)) (by rfl) (pa_cons (pv 0) (pa_cons (pe_or (pe_callO G_no_lower (hr.mono (by decide)) (by rfl) (pa_cons (pv 5) pa_nil)) (pe_one (pe_cmpR op_gt (pv 4) (pv 5) (nomark _)))) pa_nil)))) (pss_cons (ps_if (pt_cmpR (op_neD hr.units) (pv 6) (pe_lst pa_nil) (nomark _)) (pss_one (ps_ret (pv 6))) pss_nil) (pss_cons (ps_set (i := 7) nd rfl (Or.inl rfl) (pe_ix ix_list (pe_fld (pv 0) rfl) (pv 3) (fun _ _ => rfl))) (pss_one (ps_ret (pe_callO G_told (hr.mono (by decide)) (by rfl) (pa_cons (pe_callO G_gained (hr.mono (by decide)) (by rfl) (pa_cons (pv 7) (pa_cons (pe_callO G_chances_for (hr.mono (by decide)) (by rfl) (pa_cons (pv 2) (pa_cons (pv 7) (pa_cons (pe_fld (pv 0) rfl) (pa_cons (pe_callO G_ratio (hr.mono (by decide)) (by rfl) (pa_cons (pv 4) (pa_cons (pv 5) pa_nil))) pa_nil))))) (pa_cons (pe_fld (pv 0) rfl) pa_nil)))) pa_nil))))))))))), ?_⟩
    rw [act_gfor ok hk hkd] at k
    refine ⟨_, rfl, l, _, _, _, rfl, rfl, hl, at0, ?_⟩
    refine ⟨_, rfl, l, _, _, _, rfl, rfl, hl, at1, ?_⟩
    refine ⟨_, rfl, l, _, _, _, rfl, rfl, hl, atI_nat (j := 2) rfl, ?_⟩
    refine ⟨_, rfl, g, rfl, _, rfl, ?_⟩
    cases cg : decide (1 < g) with
    | true =>
      rw [cg, if_pos rfl] at k
      refine iteT ?_
      exact ⟨one_le, fun p np => k.tell hp ok rfl (Same.new np) np upd_same⟩
    | false =>
      have hg := of_decide_eq_false cg
      rw [cg, if_neg Bool.false_ne_true] at k
      refine iteF ?_
      -- no_lower(lower) or upper > lower
      have test : ∀ (R : VK), R (.bl (badPart x y)) H → tOrV (tCallO spNoLower (tCons (tVar 5) tNil)) (tOp (rI0 fun i j => .bl (decide (j < i))) (tVar 4) (tVar 5)) [some (.ref a), some (.ref l), some (.int (kind : Int)), some (.int (g : Int)), some (.int (x : Int)), some (.int (y : Int)), none, none] H R := by
        intro R hR
        refine ⟨_, rfl, y, rfl, _, rfl, ?_⟩
        unfold badPart at hR
        cases c0 : decide (y < 1) || decide (1000 < y) with
        | true =>
          rw [c0, Bool.true_or] at hR
          exact iteT hR
        | false =>
          rw [c0, Bool.false_or] at hR
          refine iteF ⟨_, rfl, _, rfl, _, _, rfl, rfl, ?_⟩
          have e : decide ((y : Int) < (x : Int)) = decide (y < x) := decide_eq_decide.mpr (by omega)
          rw [← e] at hR
          exact hR
      refine ⟨_, rfl, ?_⟩
      refine test _ ?_
      refine ⟨a, m, fp, _, rfl, hp, ok, fun H2 p2 s2 n2 h2 => ?_⟩
      cases c3 : badPart x y with
      | true =>
        rw [c3, if_pos rfl] at k
        rw [c3] at h2
        refine t_ref_yes (K := K) (i := 6) (z := -22) rfl h2 fun H3 s3 => ?_
        exact iteT ⟨_, rfl, k.tell hp ok rfl (s2.trans s3) n2 (s3 _ _ h2)⟩
      | false =>
        rw [c3, if_neg Bool.false_ne_true] at k
        rw [c3] at h2
        unfold badPart at c3
        have ⟨d0, d1⟩ := Bool.or_eq_false_iff.mp c3
        have ⟨d2, d3⟩ := Bool.or_eq_false_iff.mp d0
        have x1 := of_decide_eq_false d1
        have y1 := of_decide_eq_false d2
        have y2 := of_decide_eq_false d3
        cases cl : lack m.c0 || lack m.c1 with
        | true =>
          rw [cl, if_pos rfl] at k
          rw [cl] at h2
          refine t_ref_yes (K := K) (i := 6) (z := -33) rfl h2 fun H3 s3 => ?_
          exact iteT ⟨_, rfl, k.tell hp ok rfl (s2.trans s3) n2 (s3 _ _ h2)⟩
        | false =>
          rw [cl, if_neg Bool.false_ne_true] at k
          rw [cl] at h2
          refine t_ref_no (K := K) (i := 6) rfl h2 fun H3 s3 => iteF ?_
          have s23 := s2.trans s3
          obtain ⟨dx, lg, lq, g0, g1, b0, b1, pz, hfp, L0⟩ := id hp
          have L := L0.same s23
          obtain ⟨gg, eg, cT, _⟩ := L.row hg
          have rok := row_ok ok g
          -- cells = people.groups[group]
          refine ⟨_, rfl, a, C, dx, _, _, rfl, L.ins, T.cl, T.nG, flds_groups, _, rfl, lg, _, _, _, rfl, rfl, SqL.of L.hlg, eg, ?_⟩
          -- ratio(upper, lower)
          refine ⟨_, rfl, _, rfl, _, rfl, _, rfl, a, C, dx, _, _, rfl, L.ins, T.cl, T.nP, flds_pays, _, rfl, _, rfl, (x : Int), y, 10, rfl, by omega, by decide, by decide, by omega, fun H4 v4 s4 f4 => ?_⟩
          have s24 := s23.trans s4
          have L4 := L0.same s24
          have zx : Sz 10 (mkRat (x : Int) y) := Sz.mk_ (by omega) (by omega) (by omega)
          have nx : 0 ≤ mkRat (x : Int) y := by
            rw [Rat.mkRat_eq_div, Rat.div_def]
            exact Rat.mul_nonneg (Rat.intCast_nonneg.mpr (by omega)) (Rat.le_of_lt (Rat.inv_pos.mpr (Rat.natCast_pos.mpr (by omega))))
          refine ⟨kind, gg, pz, v4, rowM m g, m.u, m.v, _, 10, rfl, by omega, by omega, cT.cells.same s4, rok, L4.pay, ok.hu, ok.hv, f4, nx, zx, by decide, fun H5 v5 s5 ⟨p5, e5, _, h5⟩ => ?_⟩
          subst e5
          have s25 := s24.trans s5
          have L5 := L0.same s25
          refine ⟨_, rfl, a, C, dx, _, _, rfl, L5.ins, T.cl, T.nP, flds_pays, ?_⟩
          refine ⟨gg, p5, pz, rowM m g, _, m.u, m.v, 140, rfl, (cT.cells.same s4).same s5, rok, h5.frs, by rw [chK_len], ch_sz rok nx zx, by decide, L5.pay, ok.hu, ok.hv, fun H6 v6 s6 f6 => ?_⟩
          refine ⟨v6, _, rfl, f6, fun H7 p s7 np hp7 => ?_⟩
          have s26 := s25.trans s6
          exact k.tell hp ok rfl (s26.trans s7) (s26.free np) hp7
def arForpart : List Nat → Option Krdi.Call
  | [g, a, b] => some (.forpart g a b)
  | _ => none
abbrev s_forpart : Stmt := top 88
theorem sc_forpart : FnScope ["people", "given"] ["people", "given"] (defScope s_forpart) := ⟨rfl, rfl, rfl, by decide +kernel, rfl, by decide +kernel, by decide +kernel⟩
theorem ok_forpart (D : DefAt K mg "forpart" s_forpart) (T : Tops K mg C) (G_gained_for : OkAt P w K mg base 6 "gained_for" ["people", "given", "kind"] (spGF K C)) : OkAt P w K mg base 7 "forpart" ["people", "given"] (spC K C false arForpart) := by
  refine okAt_of D (fun _ _ _ _ _ _ us hl => match us, hl with | [_, _], _ => rfl) fun f fd F => ?_
  have nd := sc_forpart.nd
  refine F.ok sc_forpart (fun vs H Q E h => ?_) (fun cdv A outer s H vs Q E hr h => ?_)
  · obtain ⟨a, l, m, fp, ns, c, rfl, _⟩ := h
    rfl
  · obtain ⟨a, l, m, fp, ns, c, rfl, hp, ok, hk, hl, har, hb, k⟩ := h
    refine ⟨_, (pss_one (ps_ret (pe_callO G_gained_for (hr.mono (by decide)) (by rfl) (pa_cons (pv 0) (pa_cons (pv 1) (pa_cons (pe_gi T.SAME_PART (by rfl)) pa_nil)))))), ?_⟩
    have hk : m.k ≠ 0 := by simpa using hk
    match ns, har with
    | [g, x, y], har =>
      have ec : Krdi.Call.forpart g x y = c := Option.some.inj har
      subst ec
      exact ⟨_, rfl, _, rfl, a, l, m, fp, 1, g, x, y, rfl, .inl rfl, hp, ok, hk, hl, k⟩
def arForhits : List Nat → Option Krdi.Call
  | [g, a, b] => some (.forhits g a b)
  | _ => none
abbrev s_forhits : Stmt := top 89
theorem sc_forhits : FnScope ["people", "given"] ["people", "given"] (defScope s_forhits) := ⟨rfl, rfl, rfl, by decide +kernel, rfl, by decide +kernel, by decide +kernel⟩
theorem ok_forhits (D : DefAt K mg "forhits" s_forhits) (T : Tops K mg C) (G_gained_for : OkAt P w K mg base 6 "gained_for" ["people", "given", "kind"] (spGF K C)) : OkAt P w K mg base 7 "forhits" ["people", "given"] (spC K C false arForhits) := by
  refine okAt_of D (fun _ _ _ _ _ _ us hl => match us, hl with | [_, _], _ => rfl) fun f fd F => ?_
  have nd := sc_forhits.nd
  refine F.ok sc_forhits (fun vs H Q E h => ?_) (fun cdv A outer s H vs Q E hr h => ?_)
  · obtain ⟨a, l, m, fp, ns, c, rfl, _⟩ := h
    rfl
  · obtain ⟨a, l, m, fp, ns, c, rfl, hp, ok, hk, hl, har, hb, k⟩ := h
    refine ⟨_, (pss_one (ps_ret (pe_callO G_gained_for (hr.mono (by decide)) (by rfl) (pa_cons (pv 0) (pa_cons (pv 1) (pa_cons (pe_gi T.SAME_RIGHT (by rfl)) pa_nil)))))), ?_⟩
    have hk : m.k ≠ 0 := by simpa using hk
    match ns, har with
    | [g, x, y], har =>
      have ec : Krdi.Call.forhits g x y = c := Option.some.inj har
      subst ec
      exact ⟨_, rfl, _, rfl, a, l, m, fp, 2, g, x, y, rfl, .inr rfl, hp, ok, hk, hl, k⟩
end
end My
namespace My
open PySem PySem.Spec PyProof.Rows L2
section
variable {P : Program} {w : World} {K : PySem.W.Frag} {mg : Str → Option Value} {base : Heap} {C : Addr}
/-! meets -/
def arMeets : List Nat → Option Krdi.Call
  | [q] => some (.meets q)
  | _ => none
theorem meets_eq {m : Pm} (ok : m.Ok) {q : Nat} (hq : ¬ 3 < q) : Krdi.meets m.desk q = metK q m.c0 m.c1 m.q0 m.q1 := by
  have h0 : (rowOf m.tab 0).length = m.tab.k := ok.l0
  have h1 : (rowOf m.tab 1).length = m.tab.k := ok.l1
  have p0 : Krdi.rateOf m.desk 1 0 = meanK 1 m.c0 m.q0 := picked_eq (t := m.tab) (g := 0) (c := m.q0) h0 ok.n0
  have p1 : Krdi.rateOf m.desk 1 1 = meanK 1 m.c1 m.q1 := picked_eq (t := m.tab) (g := 1) (c := m.q1) h1 ok.n1
  have r0 : Krdi.rateOf m.desk 2 0 = meanK 2 m.c0 m.q0 := right_eq (t := m.tab) (g := 0) (c := m.q0) h0 ok.n0
  have r1 : Krdi.rateOf m.desk 2 1 = meanK 2 m.c1 m.q1 := right_eq (t := m.tab) (g := 1) (c := m.q1) h1 ok.n1
  have w0 : Krdh.wrong m.desk.t 0 (m.desk.chances.getD 0 []) = meanK 3 m.c0 m.q0 := wrong_eq (t := m.tab) (g := 0) (c := m.q0) h0 ok.n0
  have w1 : Krdh.wrong m.desk.t 1 (m.desk.chances.getD 1 []) = meanK 3 m.c1 m.q1 := wrong_eq (t := m.tab) (g := 1) (c := m.q1) h1 ok.n1
  have be : ∀ a b : Rat, (a == b) = decide (a = b) := fun a b => rfl
  unfold Krdi.meets metK
  rw [p0, p1, r0, r1, w0, w1, be, be, be]
  by_cases e0 : q = 0
  · rw [if_pos e0, if_pos e0]
  · rw [if_neg e0, if_neg e0]
    by_cases e1 : q = 1
    · subst e1
      rw [if_pos rfl, if_neg (by decide)]
    · rw [if_neg e1]
      by_cases e2 : q = 2
      · subst e2
        rw [if_pos rfl, if_neg (by decide)]
      · have e3 : q = 3 := by omega
        subst e3
        rw [if_neg e2, if_pos rfl]
theorem act_meets {m : Pm} (ok : m.Ok) (h : m.k ≠ 0) (q : Nat) : Krdi.act m.abs (.meets q) = (m.abs, if decide (3 < q) then Krdf.say (-22) else if (lack m.c0 || lack m.c1) = true then Krdf.say (-33) else Krdf.ask (metK q m.c0 m.c1 m.q0 m.q1)) := by
  have outer : Krdi.act (some m.desk) (.meets q) = (some m.desk, if decide (3 < q) then Krdf.say (-22) else if (!Krdh.full m.tab) = true then Krdf.say (-33) else Krdf.ask (Krdi.meets m.desk q)) := rfl
  rw [abs_some h, outer, full_lack ok]
  by_cases c : decide (3 < q) = true
  · rw [if_pos c, if_pos c]
  · rw [if_neg c, if_neg c, meets_eq ok (fun z => c (decide_eq_true z))]
theorem chs_of {m : Pm} (ok : m.Ok) (full : Full m.c0 m.c1) : Chs m.c0 m.c1 m.q0 m.q1 := ⟨full, by rw [ok.n0, ok.l0], by rw [ok.n1, ok.l1], ok.z0, ok.z1⟩
abbrev s_meets : Stmt := top 86
theorem sc_meets : FnScope ["people", "given", "kind", "refused"] ["people", "given"] (defScope s_meets) := ⟨rfl, rfl, rfl, by decide +kernel, rfl, by decide +kernel, by decide +kernel⟩
theorem ok_meets (D : DefAt K mg "meets" s_meets) (T : Tops K mg C) (G_refusal : OkAt P w K mg base 3 "refusal" ["people", "wrong"] (spRefusal K C)) (G_no_kind : OkAt P w K mg base 1 "no_kind" ["kind"] spNoKind) (G_met : OkAt P w K mg base 7 "met" ["kind", "groups", "chances"] (spMet K)) :
    OkAt P w K mg base 8 "meets" ["people", "given"] (spC K C false arMeets) := by
  refine okAt_of D (fun _ _ _ _ _ _ us hl => match us, hl with | [_, _], _ => rfl) fun f fd F => ?_
  have nd := sc_meets.nd
  refine F.ok sc_meets (fun vs H Q E h => ?_) (fun cdv A outer s H vs Q E hr h => ?_)
  · obtain ⟨a, l, m, fp, ns, c, rfl, _⟩ := h
    rfl
  · obtain ⟨a, l, m, fp, ns, c, rfl, hp, ok, hk, hl, har, hb, k⟩ := h
    refine ⟨_, (pss_cons (ps_set (i := 2) nd rfl (Or.inl rfl) (pe_ix ix_list (pv 1) pe_int (fun _ _ => rfl))) (pss_cons (ps_set (i := 3) nd rfl (Or.inl rfl) (pe_callO G_refusal (hr.mono (by decide)) (by rfl) (pa_cons (pv 0) (pa_cons (pe_callO G_no_kind (hr.mono (by decide)) (by rfl) (pa_cons (pv 2) pa_nil)) pa_nil)))) (pss_cons (ps_if (pt_cmpR (op_neD hr.units) (pv 3) (pe_lst pa_nil) (nomark _)) (pss_one (ps_ret (pv 3))) pss_nil) (pss_one (ps_ret (pe_lst (pa_cons (pe_ifExp (pt_val (pe_callO G_met (hr.mono (by decide)) (by rfl) (pa_cons (pv 2) (pa_cons (pe_fld (pv 0) rfl) (pa_cons (pe_fld (pv 0) rfl) pa_nil))))) pe_int pe_int) pa_nil))))))), ?_⟩
    have hk : m.k ≠ 0 := by simpa using hk
    match ns, har with
    | [q], har =>
      have ec : Krdi.Call.meets q = c := Option.some.inj har
      subst ec
      rw [act_meets ok hk] at k
      refine ⟨_, rfl, l, _, _, _, rfl, rfl, hl, at0, ?_⟩
      refine ⟨_, rfl, _, rfl, q, rfl, a, m, fp, _, rfl, hp, ok, fun H2 p2 s2 n2 h2 => ?_⟩
      cases c3 : decide (3 < q) with
      | true =>
        rw [c3, if_pos rfl] at k
        rw [c3] at h2
        refine t_ref_yes (K := K) (i := 3) (z := -22) rfl h2 fun H3 s3 => ?_
        exact iteT ⟨_, rfl, k.tell hp ok rfl (s2.trans s3) n2 (s3 _ _ h2)⟩
      | false =>
        rw [c3, if_neg Bool.false_ne_true] at k
        rw [c3] at h2
        have q3 := of_decide_eq_false c3
        cases cl : lack m.c0 || lack m.c1 with
        | true =>
          rw [cl, if_pos rfl] at k
          rw [cl] at h2
          refine t_ref_yes (K := K) (i := 3) (z := -33) rfl h2 fun H3 s3 => ?_
          exact iteT ⟨_, rfl, k.tell hp ok rfl (s2.trans s3) n2 (s3 _ _ h2)⟩
        | false =>
          rw [cl, if_neg Bool.false_ne_true] at k
          rw [cl] at h2
          refine t_ref_no (K := K) (i := 3) rfl h2 fun H3 s3 => iteF ?_
          have s23 := s2.trans s3
          have full := full_of ok cl
          obtain ⟨dx, lg, lq, g0, g1, b0, b1, pz, hfp, L0⟩ := id hp
          have L := L0.same s23
          refine ⟨_, rfl, _, rfl, a, C, dx, _, _, rfl, L.ins, T.cl, T.nG, flds_groups, _, rfl, a, C, dx, _, _, rfl, L.ins, T.cl, T.nC, flds_chances, ?_⟩
          refine ⟨q, lg, lq, m.c0, m.c1, m.q0, m.q1, rfl, by omega, L.groups, ⟨b0, b1, SqL.of L.hlq, L.hb0.frs, L.hb1.frs⟩, chs_of ok full, fun H4 s4 => ?_⟩
          refine ⟨_, rfl, ?_⟩
          have s24 := s23.trans s4
          cases cm : metK q m.c0 m.c1 m.q0 m.q1 with
          | true =>
            rw [cm] at k
            refine iteT ?_
            exact ⟨one_le, fun p np => k.tell hp ok rfl (s24.trans (Same.new np)) (s24.free np) upd_same⟩
          | false =>
            rw [cm] at k
            refine iteF ?_
            exact ⟨one_le, fun p np => k.tell hp ok rfl (s24.trans (Same.new np)) (s24.free np) upd_same⟩
/-! rule -/
def arRule : List Nat → Option Krdi.Call
  | [q, g] => some (.rule q g)
  | _ => none
theorem act_rule {m : Pm} (ok : m.Ok) (h : m.k ≠ 0) (q g : Nat) : Krdi.act m.abs (.rule q g) = (m.abs, if decide (1 < g) then Krdf.say (-2) else if decide (3 < q) then Krdf.say (-22) else if (lack m.c0 || lack m.c1) = true then Krdf.say (-33) else { num := (m.k : Int), nums := flat (ruleK q m.u m.v m.c0 m.c1 (rowM m g)) }) := by
  have outer : Krdi.act (some m.desk) (.rule q g) = (some m.desk, if decide (1 < g) then Krdf.say (-2) else if decide (3 < q) then Krdf.say (-22) else if (!Krdh.full m.tab) = true then Krdf.say (-33) else { num := (m.k : Int), nums := flat ((Krdi.rules m.tab ⟨m.u, m.v⟩ q).getD g []) }) := rfl
  rw [abs_some h, outer, full_lack ok]
  by_cases c0 : decide (1 < g) = true
  · rw [if_pos c0, if_pos c0]
  · rw [if_neg c0, if_neg c0]
    have hg : ¬ 1 < g := fun z => c0 (decide_eq_true z)
    by_cases c : decide (3 < q) = true
    · rw [if_pos c, if_pos c]
    · rw [if_neg c, if_neg c]
      have hq : ¬ 3 < q := fun z => c (decide_eq_true z)
      by_cases d : (lack m.c0 || lack m.c1) = true
      · rw [if_pos d, if_pos d]
      · rw [if_neg d, if_neg d, rules_eq ok.tabOk (full_of ok (Bool.eq_false_iff.mpr d)) (by omega)]
        unfold rowM
        by_cases e : g = 0
        · subst e
          rfl
        · have e1 : g = 1 := by omega
          subst e1
          rfl
abbrev s_rule : Stmt := top 84
theorem sc_rule : FnScope ["people", "given", "kind", "group", "refused", "rules"] ["people", "given"] (defScope s_rule) := ⟨rfl, rfl, rfl, by decide +kernel, rfl, by decide +kernel, by decide +kernel⟩
theorem ok_rule (D : DefAt K mg "rule" s_rule) (T : Tops K mg C) (G_no_group : OkAt P w K mg base 1 "no_group" ["group"] spNoGroup) (G_refusal : OkAt P w K mg base 3 "refusal" ["people", "wrong"] (spRefusal K C)) (G_no_kind : OkAt P w K mg base 1 "no_kind" ["kind"] spNoKind) (G_rules_of : OkAt P w K mg base 11 "rules_of" ["kind", "groups", "pays"] (spRules K)) (G_row_of : OkAt P w K mg base 1 "row_of" ["fractions"] (spRowOf K)) :
    OkAt P w K mg base 12 "rule" ["people", "given"] (spC K C false arRule) := by
  refine okAt_of D (fun _ _ _ _ _ _ us hl => match us, hl with | [_, _], _ => rfl) fun f fd F => ?_
  have nd := sc_rule.nd
  refine F.ok sc_rule (fun vs H Q E h => ?_) (fun cdv A outer s H vs Q E hr h => ?_)
  · obtain ⟨a, l, m, fp, ns, c, rfl, _⟩ := h
    rfl
  · obtain ⟨a, l, m, fp, ns, c, rfl, hp, ok, hk, hl, har, hb, k⟩ := h
    refine ⟨_, (pss_cons (ps_set (i := 2) nd rfl (Or.inl rfl) (pe_ix ix_list (pv 1) pe_int (fun _ _ => rfl))) (pss_cons (ps_set (i := 3) nd rfl (Or.inl rfl) (pe_ix ix_list (pv 1) pe_int (fun _ _ => rfl))) (pss_cons (ps_if (pt_val (pe_callO G_no_group (hr.mono (by decide)) (by rfl) (pa_cons (pv 3) pa_nil))) (pss_one (ps_ret (pe_lst (pa_cons (pe_gi T.NO_SUCH (by rfl)) pa_nil)))) pss_nil) (pss_cons (ps_set (i := 4) nd rfl (Or.inl rfl) (pe_callO G_refusal (hr.mono (by decide)) (by rfl) (pa_cons (pv 0) (pa_cons (pe_callO G_no_kind (hr.mono (by decide)) (by rfl) (pa_cons (pv 2) pa_nil)) pa_nil)))) (pss_cons (ps_if (pt_cmpR (op_neD hr.units) (pv 4) (pe_lst pa_nil) (nomark _)) (pss_one (ps_ret (pv 4))) pss_nil) (pss_cons (ps_set (i := 5) nd rfl (Or.inl rfl) (pe_callO G_rules_of (hr.mono (by decide)) (by rfl) (pa_cons (pv 2) (pa_cons (pe_fld (pv 0) rfl) (pa_cons (pe_fld (pv 0) rfl) pa_nil))))) (pss_one (ps_ret (pe_op op_cat (pe_lst (pa_cons (pe_fld (pv 0) rfl) pa_nil)) (pe_callO G_row_of (hr.mono (by decide)) (by rfl) (pa_cons (pe_ix ix_list (pv 5) (pv 3) (fun _ _ => rfl)) pa_nil))))))))))), ?_⟩
    have hk : m.k ≠ 0 := by simpa using hk
    match ns, har with
    | [q, g], har =>
      have ec : Krdi.Call.rule q g = c := Option.some.inj har
      subst ec
      rw [act_rule ok hk] at k
      refine ⟨_, rfl, l, _, _, _, rfl, rfl, hl, at0, ?_⟩
      refine ⟨_, rfl, l, _, _, _, rfl, rfl, hl, at1, ?_⟩
      refine ⟨_, rfl, g, rfl, _, rfl, ?_⟩
      cases cg : decide (1 < g) with
      | true =>
        rw [cg, if_pos rfl] at k
        refine iteT ?_
        exact ⟨one_le, fun p np => k.tell hp ok rfl (Same.new np) np upd_same⟩
      | false =>
        have hg := of_decide_eq_false cg
        rw [cg, if_neg Bool.false_ne_true] at k
        refine iteF ?_
        refine ⟨_, rfl, _, rfl, q, rfl, a, m, fp, _, rfl, hp, ok, fun H2 p2 s2 n2 h2 => ?_⟩
        cases c3 : decide (3 < q) with
        | true =>
          rw [c3, if_pos rfl] at k
          rw [c3] at h2
          refine t_ref_yes (K := K) (i := 4) (z := -22) rfl h2 fun H3 s3 => ?_
          exact iteT ⟨_, rfl, k.tell hp ok rfl (s2.trans s3) n2 (s3 _ _ h2)⟩
        | false =>
          rw [c3, if_neg Bool.false_ne_true] at k
          rw [c3] at h2
          have q3 := of_decide_eq_false c3
          cases cl : lack m.c0 || lack m.c1 with
          | true =>
            rw [cl, if_pos rfl] at k
            rw [cl] at h2
            refine t_ref_yes (K := K) (i := 4) (z := -33) rfl h2 fun H3 s3 => ?_
            exact iteT ⟨_, rfl, k.tell hp ok rfl (s2.trans s3) n2 (s3 _ _ h2)⟩
          | false =>
            rw [cl, if_neg Bool.false_ne_true] at k
            rw [cl] at h2
            refine t_ref_no (K := K) (i := 4) rfl h2 fun H3 s3 => iteF ?_
            have s23 := s2.trans s3
            have full := full_of ok cl
            obtain ⟨dx, lg, lq, g0, g1, b0, b1, pz, hfp, L0⟩ := id hp
            have L := L0.same s23
            refine ⟨_, rfl, _, rfl, a, C, dx, _, _, rfl, L.ins, T.cl, T.nG, flds_groups, _, rfl, a, C, dx, _, _, rfl, L.ins, T.cl, T.nP, flds_pays, ?_⟩
            refine ⟨q, lg, pz, m.c0, m.c1, m.u, m.v, rfl, by omega, L.groups, full, L.pay, ok.hu, ok.hv, fun H4 p4 r0 r1 s4 pr => ?_⟩
            have s24 := s23.trans s4
            have L4 := L0.same s24
            obtain ⟨rg, er, fr⟩ : ∃ rg, atI [V.ref r0, V.ref r1] (g : Int) = some (.ref rg) ∧ FrsT K H4 rg (ruleK q m.u m.v m.c0 m.c1 (rowM m g)) := by
              unfold rowM
              by_cases e : g = 0
              · subst e
                exact ⟨r0, at0, pr.f0⟩
              · have e1 : g = 1 := by omega
                subst e1
                exact ⟨r1, at1, pr.f1⟩
            have ln : (ruleK q m.u m.v m.c0 m.c1 (rowM m g)).length ≤ 4 := by
              rw [ruleK_len, row_len ok]
              exact ok.k4
            -- [people.scores] + row_of(rules[group])
            refine ⟨_, rfl, a, C, dx, _, _, rfl, L4.ins, T.cl, T.nS, flds_scores, one_le, fun e ne => ?_⟩
            have s5 : Same H4 (upd H4 e (.lst [.int (m.k : Int)])) := Same.new ne
            have h5 : upd H4 e (.lst [.int (m.k : Int)]) e = some (.lst [.int (m.k : Int)]) := upd_same
            generalize upd H4 e (.lst [.int (m.k : Int)]) = H5 at s5 h5
            refine ⟨_, rfl, _, rfl, p4, _, _, _, rfl, rfl, SqL.of (s5 _ _ pr.at_), er, rg, _, rfl, (fr.same s5).frs, ln, fun H6 p6 s6 n6 h6 => ?_⟩
            refine ⟨e, p6, _, _, rfl, rfl, s6 _ _ h5, h6, ?_, fun p np => ?_⟩
            · rw [List.length_map, flat_len]
              exact Nat.le_of_lt (lt_line (by show 1 + 2 * _ ≤ 100; omega))
            · have s26 := (s24.trans s5).trans s6
              exact k.tell hp ok rfl (s26.trans (Same.new np)) (s26.free np) upd_same
/-! take -/
def arTake : List Nat → Option Krdi.Call
  | [q] => some (.take_ q)
  | _ => none
def taking (m : Pm) (q : Nat) : Pm := { m with q0 := ruleK q m.u m.v m.c0 m.c1 m.c0, q1 := ruleK q m.u m.v m.c0 m.c1 m.c1 }
theorem taking_ok {m : Pm} (ok : m.Ok) (full : Full m.c0 m.c1) (q : Nat) : (taking m q).Ok :=
  ⟨ok.k4, ok.l0, ok.l1, ok.ok0, ok.ok1, (ruleK_len _ _ _ _ _ _).trans ok.l0, (ruleK_len _ _ _ _ _ _).trans ok.l1, ruleK_sz full (.inl rfl), ruleK_sz full (.inr rfl), ok.hu, ok.hv⟩
theorem act_take {m : Pm} (ok : m.Ok) (h : m.k ≠ 0) (q : Nat) : Krdi.act m.abs (.take_ q) = if decide (3 < q) then (m.abs, Krdf.say (-22)) else if (lack m.c0 || lack m.c1) = true then (m.abs, Krdf.say (-33)) else ((taking m q).abs, Krdf.say 0) := by
  have outer : Krdi.act (some m.desk) (.take_ q) = if decide (3 < q) then (some m.desk, Krdf.say (-22)) else if (!Krdh.full m.tab) = true then (some m.desk, Krdf.say (-33)) else (some { m.desk with chances := Krdi.rules m.tab ⟨m.u, m.v⟩ q }, Krdf.say 0) := rfl
  have e : (taking m q).abs = some (taking m q).desk := abs_some h
  rw [abs_some h, e, outer, full_lack ok]
  by_cases c : decide (3 < q) = true
  · rw [if_pos c, if_pos c]
  · rw [if_neg c, if_neg c]
    have hq : ¬ 3 < q := fun z => c (decide_eq_true z)
    by_cases d : (lack m.c0 || lack m.c1) = true
    · rw [if_pos d, if_pos d]
    · rw [if_neg d, if_neg d, rules_eq ok.tabOk (full_of ok (Bool.eq_false_iff.mpr d)) (by omega)]
      rfl
abbrev s_take : Stmt := top 85
theorem sc_take : FnScope ["people", "given", "kind", "refused"] ["people", "given"] (defScope s_take) := ⟨rfl, rfl, rfl, by decide +kernel, rfl, by decide +kernel, by decide +kernel⟩
theorem ok_take (D : DefAt K mg "take" s_take) (T : Tops K mg C) (G_refusal : OkAt P w K mg base 3 "refusal" ["people", "wrong"] (spRefusal K C)) (G_no_kind : OkAt P w K mg base 1 "no_kind" ["kind"] spNoKind) (G_rules_of : OkAt P w K mg base 11 "rules_of" ["kind", "groups", "pays"] (spRules K)) :
    OkAt P w K mg base 12 "take" ["people", "given"] (spC K C false arTake) := by
  refine okAt_of D (fun _ _ _ _ _ _ us hl => match us, hl with | [_, _], _ => rfl) fun f fd F => ?_
  have nd := sc_take.nd
  refine F.ok sc_take (fun vs H Q E h => ?_) (fun cdv A outer s H vs Q E hr h => ?_)
  · obtain ⟨a, l, m, fp, ns, c, rfl, _⟩ := h
    rfl
  · obtain ⟨a, l, m, fp, ns, c, rfl, hp, ok, hk, hl, har, hb, k⟩ := h
    refine ⟨_, (pss_cons (ps_set (i := 2) nd rfl (Or.inl rfl) (pe_ix ix_list (pv 1) pe_int (fun _ _ => rfl))) (pss_cons (ps_set (i := 3) nd rfl (Or.inl rfl) (pe_callO G_refusal (hr.mono (by decide)) (by rfl) (pa_cons (pv 0) (pa_cons (pe_callO G_no_kind (hr.mono (by decide)) (by rfl) (pa_cons (pv 2) pa_nil)) pa_nil)))) (pss_cons (ps_if (pt_cmpR (op_neD hr.units) (pv 3) (pe_lst pa_nil) (nomark _)) (pss_one (ps_ret (pv 3))) pss_nil) (pss_cons (ps_fld (pv 0) (pe_callO G_rules_of (hr.mono (by decide)) (by rfl) (pa_cons (pv 2) (pa_cons (pe_fld (pv 0) rfl) (pa_cons (pe_fld (pv 0) rfl) pa_nil)))) rfl) (pss_one (ps_ret (pe_lst (pa_cons pe_int pa_nil)))))))), ?_⟩
    have hk : m.k ≠ 0 := by simpa using hk
    match ns, har with
    | [q], har =>
      have ec : Krdi.Call.take_ q = c := Option.some.inj har
      subst ec
      rw [act_take ok hk] at k
      refine ⟨_, rfl, l, _, _, _, rfl, rfl, hl, at0, ?_⟩
      refine ⟨_, rfl, _, rfl, q, rfl, a, m, fp, _, rfl, hp, ok, fun H2 p2 s2 n2 h2 => ?_⟩
      cases c3 : decide (3 < q) with
      | true =>
        rw [c3, if_pos rfl] at k
        rw [c3] at h2
        refine t_ref_yes (K := K) (i := 3) (z := -22) rfl h2 fun H3 s3 => ?_
        exact iteT ⟨_, rfl, k.tell hp ok rfl (s2.trans s3) n2 (s3 _ _ h2)⟩
      | false =>
        rw [c3, if_neg Bool.false_ne_true] at k
        rw [c3] at h2
        have q3 := of_decide_eq_false c3
        cases cl : lack m.c0 || lack m.c1 with
        | true =>
          rw [cl, if_pos rfl] at k
          rw [cl] at h2
          refine t_ref_yes (K := K) (i := 3) (z := -33) rfl h2 fun H3 s3 => ?_
          exact iteT ⟨_, rfl, k.tell hp ok rfl (s2.trans s3) n2 (s3 _ _ h2)⟩
        | false =>
          rw [cl, if_neg Bool.false_ne_true] at k
          rw [cl] at h2
          refine t_ref_no (K := K) (i := 3) rfl h2 fun H3 s3 => iteF ?_
          have s23 := s2.trans s3
          have full := full_of ok cl
          obtain ⟨dx, lg, lq, g0, g1, b0, b1, pz, hfp, L0⟩ := id hp
          have L := L0.same s23
          refine ⟨_, rfl, _, rfl, a, C, dx, _, _, rfl, L.ins, T.cl, T.nG, flds_groups, _, rfl, a, C, dx, _, _, rfl, L.ins, T.cl, T.nP, flds_pays, ?_⟩
          refine ⟨q, lg, pz, m.c0, m.c1, m.u, m.v, rfl, by omega, L.groups, full, L.pay, ok.hu, ok.hv, fun H4 p4 r0 r1 s4 pr => ?_⟩
          have s24 := s23.trans s4
          have L4 := L0.same s24
          have pr' := pr.weak s23
          refine ⟨_, rfl, a, C, dx, _, rfl, L4.ins, T.cl, T.nC, flds_len, ?_⟩
          rw [put_chances]
          have B1 : But a H4 (upd H4 a (.ins C dx (flds m.k lg p4 pz))) := But.put
          have nl : ∀ {x : Addr} {xs : List V}, H4 x = some (.lst xs) → x ≠ a := fun h => ne_of h L4.ins (by intro z; cases z)
          obtain ⟨⟨n1, n2', n3, n4, n5⟩, ⟨n6, n7, n8, n9⟩, ⟨n10, n11, n12⟩, ⟨n13, n14⟩, n15⟩ := nodup6 L0.nd
          have lt : ∀ {x d : Addr} {o : HO}, H x = some o → H d = none → x ≠ d := fun h nd => ne_of_none h nd
          obtain ⟨_, hh0, _⟩ := L0.hg0
          obtain ⟨_, hh1, _⟩ := L0.hg1
          have pay4 : Pr K (upd H4 a (.ins C dx (flds m.k lg p4 pz))) pz (m.u, m.v) := by
            obtain ⟨y, e, hy⟩ := L4.pay
            subst e
            refine ⟨y, rfl, ?_⟩
            rcases hy with (h | ⟨o, h⟩) | h
            · exact .inl (.inl (B1 _ _ h (ne_of h L4.ins (by intro z; cases z))))
            · exact .inl (.inr ⟨o, B1 _ _ h (ne_of h L4.ins (by intro z; cases z))⟩)
            · exact .inr h
          have L2' : Lay K C (upd H4 a (.ins C dx (flds m.k lg p4 pz))) a (taking m q) dx lg p4 g0 g1 r0 r1 pz := by
            refine ⟨upd_same, pay4, B1 _ _ L4.hlg (nl L4.hlg), B1 _ _ pr.at_ (nl pr.at_), B1.cells L4.ins L4.hg0, B1.cells L4.ins L4.hg1, B1.frs L4.ins pr.f0, B1.frs L4.ins pr.f1, ?_⟩
            simp only [List.nodup_cons, List.mem_cons, List.not_mem_nil, or_false, not_or, List.nodup_nil, and_true, not_false_eq_true]
            exact ⟨⟨lt L0.hlg pr'.np, n2', n3, lt L0.hlg pr'.n0, lt L0.hlg pr'.n1⟩, ⟨(lt hh0 pr'.np).symm, (lt hh1 pr'.np).symm, pr'.d0, pr'.d1⟩, ⟨n10, lt hh0 pr'.n0, lt hh0 pr'.n1⟩, ⟨lt hh1 pr'.n0, lt hh1 pr'.n1⟩, pr'.d2⟩
          refine ⟨one_le, fun p np => ?_⟩
          have am : a ∈ fp := by rw [hfp]; exact List.mem_cons_self
          have np' : H p = none := by
            refine s24.free ?_
            by_cases e : p = a
            · rw [e, upd_same] at np
              cases np
            · rw [upd_ne e] at np
              exact np
          refine k _ p (taking m q) _ ⟨dx, lg, p4, g0, g1, r0, r1, pz, rfl, L2'.same (Same.new np)⟩ (taking_ok ok full q) rfl (fun x hx => ?_) (fun b o e nb => ?_) np' upd_same
          · rw [hfp]
            simp only [List.mem_cons, List.not_mem_nil, or_false] at hx ⊢
            rcases hx with h | h | h | h | h | h | h
            · exact .inl (.inl h)
            · exact .inl (.inr (.inl h))
            · exact .inr (by rw [h]; exact pr'.np)
            · exact .inl (.inr (.inr (.inr (.inl h))))
            · exact .inl (.inr (.inr (.inr (.inr (.inl h)))))
            · exact .inr (by rw [h]; exact pr'.n0)
            · exact .inr (by rw [h]; exact pr'.n1)
          · refine Same.new np b o ?_
            exact B1 b o (s24 b o e) fun z => nb (by rw [z]; exact am)
/-! state -/
def arState : List Nat → Option Krdi.Call
  | [] => some .state
  | _ => none
theorem act_state {m : Pm} (h : m.k ≠ 0) : Krdi.act m.abs .state = (m.abs, { num := (m.k : Int), nums := [(m.u : Int), (m.v : Int)] ++ flat m.q0 ++ flat m.q1 }) := by
  rw [abs_some h]
  rfl
abbrev s_state : Stmt := top 91
theorem sc_state : FnScope ["people", "given", "known"] ["people", "given"] (defScope s_state) := ⟨rfl, rfl, rfl, by decide +kernel, rfl, by decide +kernel, by decide +kernel⟩
theorem ok_state (D : DefAt K mg "state" s_state) (T : Tops K mg C) (G_row_of : OkAt P w K mg base 1 "row_of" ["fractions"] (spRowOf K)) :
    OkAt P w K mg base 2 "state" ["people", "given"] (spC K C false arState) := by
  refine okAt_of D (fun _ _ _ _ _ _ us hl => match us, hl with | [_, _], _ => rfl) fun f fd F => ?_
  have nd := sc_state.nd
  refine F.ok sc_state (fun vs H Q E h => ?_) (fun cdv A outer s H vs Q E hr h => ?_)
  · obtain ⟨a, l, m, fp, ns, c, rfl, _⟩ := h
    rfl
  · obtain ⟨a, l, m, fp, ns, c, rfl, hp, ok, hk, hl, har, hb, k⟩ := h
    refine ⟨_, (pss_cons (ps_set (i := 2) nd rfl (Or.inl rfl) (pe_lst (pa_cons (pe_fld (pv 0) rfl) (pa_cons (pe_ix ix_tup (pe_fld (pv 0) rfl) pe_int (fun _ _ => rfl)) (pa_cons (pe_ix ix_tup (pe_fld (pv 0) rfl) pe_int (fun _ _ => rfl)) pa_nil))))) (pss_one (ps_ret (pe_op op_cat (pe_op op_cat (pv 2) (pe_callO G_row_of (hr.mono (by decide)) (by rfl) (pa_cons (pe_ix ix_list (pe_fld (pv 0) rfl) pe_int (fun _ _ => rfl)) pa_nil))) (pe_callO G_row_of (hr.mono (by decide)) (by rfl) (pa_cons (pe_ix ix_list (pe_fld (pv 0) rfl) pe_int (fun _ _ => rfl)) pa_nil)))))), ?_⟩
    have hk : m.k ≠ 0 := by simpa using hk
    match ns, har with
    | [], har =>
      have ec : Krdi.Call.state = c := Option.some.inj har
      subst ec
      rw [act_state hk] at k
      obtain ⟨dx, lg, lq, g0, g1, b0, b1, pz, hfp, L0⟩ := id hp
      obtain ⟨t, ept, ht⟩ := L0.pay
      have f1 : ∀ {H'}, Same H H' → H' a = some (.ins C dx (flds m.k lg lq pz)) := fun s => s _ _ L0.ins
      refine ⟨_, rfl, a, C, dx, _, _, rfl, L0.ins, T.cl, T.nS, flds_scores, ?_⟩
      refine ⟨_, rfl, a, C, dx, _, _, rfl, L0.ins, T.cl, T.nP, flds_pays, t, _, _, _, ept, rfl, ht, at0, ?_⟩
      refine ⟨_, rfl, a, C, dx, _, _, rfl, L0.ins, T.cl, T.nP, flds_pays, t, _, _, _, ept, rfl, ht, at1, ?_⟩
      refine ⟨by show 3 ≤ sizeLine; decide, fun d nd' => ?_⟩
      have s1 : Same H (upd H d (.lst [.int (m.k : Int), .int (m.u : Int), .int (m.v : Int)])) := Same.new nd'
      have h1 : upd H d (.lst [.int (m.k : Int), .int (m.u : Int), .int (m.v : Int)]) d = some (.lst [.int (m.k : Int), .int (m.u : Int), .int (m.v : Int)]) := upd_same
      generalize upd H d (.lst [.int (m.k : Int), .int (m.u : Int), .int (m.v : Int)]) = H1 at s1 h1
      have L1 := L0.same s1
      have n0 := ok.n0
      have n1 := ok.n1
      have k4 := ok.k4
      refine ⟨_, rfl, _, rfl, a, C, dx, _, _, rfl, L1.ins, T.cl, T.nC, flds_chances, lq, _, _, _, rfl, rfl, SqL.of L1.hlq, at0, b0, m.q0, rfl, L1.hb0.frs, by omega, fun H2 p2 s2 n2 h2 => ?_⟩
      refine ⟨d, p2, _, _, rfl, rfl, s2 _ _ h1, h2, ?_, fun p3 np3 => ?_⟩
      · rw [List.length_map, flat_len]
        exact Nat.le_of_lt (lt_line (by show 3 + 2 * _ ≤ 100; omega))
      have s12 := s1.trans s2
      have s3 : Same H2 (upd H2 p3 (.lst ([.int (m.k : Int), .int (m.u : Int), .int (m.v : Int)] ++ (flat m.q0).map V.int))) := Same.new np3
      have h3 : upd H2 p3 (.lst ([.int (m.k : Int), .int (m.u : Int), .int (m.v : Int)] ++ (flat m.q0).map V.int)) p3 = some (.lst ([.int (m.k : Int), .int (m.u : Int), .int (m.v : Int)] ++ (flat m.q0).map V.int)) := upd_same
      generalize upd H2 p3 (.lst ([.int (m.k : Int), .int (m.u : Int), .int (m.v : Int)] ++ (flat m.q0).map V.int)) = H3 at s3 h3
      have s13 := s12.trans s3
      have L3 := L0.same s13
      refine ⟨_, rfl, a, C, dx, _, _, rfl, L3.ins, T.cl, T.nC, flds_chances, lq, _, _, _, rfl, rfl, SqL.of L3.hlq, at1, b1, m.q1, rfl, L3.hb1.frs, by omega, fun H4 p4 s4 n4 h4 => ?_⟩
      refine ⟨p3, p4, _, _, rfl, rfl, s4 _ _ h3, h4, ?_, fun p np => ?_⟩
      · rw [List.length_append, List.length_map, List.length_map, flat_len, flat_len]
        exact Nat.le_of_lt (lt_line (by show 3 + 2 * _ + 2 * _ ≤ 100; omega))
      have s14 := s13.trans s4
      refine k.tell hp ok rfl (s14.trans (Same.new np)) (s14.free np) ?_
      rw [upd_same]
      congr 2
      show _ = ((m.k : Int) :: ([(m.u : Int), (m.v : Int)] ++ flat m.q0 ++ flat m.q1)).map V.int
      rw [List.map_cons, List.map_append, List.map_append]
      rfl
end
end My
namespace My
open PySem PySem.Spec PyProof.Rows L2
/-! ## answer -/
section
variable {X : Cx} {k i : Nat} {x : Str} {p pos : Pos} {e : Expr} {es : List Expr} {t : TA}
/-- a local name holds one of several defs; which, and its promise, is told by HP -/
def tCallP (HP : Addr → Sp → Prop) (i : Nat) (t : TA) : TE := fun σ H Q => ∃ f sp, σ[i]? = some (some (.ref f)) ∧ HP f sp ∧ t σ H fun vs H1 => sp vs H1 Q E0
theorem pe_callP {HP : Addr → Sp → Prop} (A : ∀ f sp, HP f sp → Held X.prog X.w X.K X.mg X.base k f sp) (hr : Room k X.A) (hN : X.N[i]? = some x) (hv : Vis X.env.scope x) (ha : PA X (e :: es) t)
    (h1 : (x == ("__debug__" : Str)) = false := by decide) (h2 : (x == ("__classdict__" : Str)) = false := by decide)
    (h3 : starEach (e :: es) X.env = (false, eval e X.env) :: starEach es X.env := by rfl) (h4 : (backTo pos (starEach es X.env)).any (·.1) = false := by rfl) : PE X (.Call (.Name x p) (e :: es) [] pos) (tCallP HP i t) :=
  ⟨fun pins s σ H Q I ⟨f, sp, hs, hp, ht⟩ => by
    have A2 : ∀ g q, (if g = f then some sp else none) = some q → Held X.prog X.w X.K X.mg X.base k g q := fun g q h => by
      by_cases e : g = f
      · rw [if_pos e] at h
        rw [e, ← Option.some.inj h]
        exact A f sp hp
      · rw [if_neg e] at h
        cases h
    exact (pe_callA (p := p) (S := fun g => if g = f then some sp else none) A2 hr hN hv ha h1 h2 h3 h4).run pins s σ H Q I ⟨f, sp, hs, if_pos rfl, ht⟩⟩
end
def callNames : List Str := ["begin", "count", "cell", "pays", "chances", "gains", "picked", "most", "part", "costs", "rule", "take", "meets", "forpart", "forhits", "ifpays", "state"]
/-- the tuple of the calls, by their numbers -/
structure CallsT (K : PySem.W.Frag) (mg : Str → Option Value) (fs : List Addr) : Prop where
  CALLS : ∃ z, mg "CALLS" = some (.ref z) ∧ ∀ H', SqT K H' z (fs.map V.ref)
  at_ : ∀ (i : Nat) (x : Str), callNames[i]? = some x → ∃ f, fs[i]? = some f ∧ mg x = some (.ref f)
structure TopsA (K : PySem.W.Frag) (mg : Str → Option Value) (C : Addr) (fs : List Addr) : Prop extends Tops K mg C, CallsT K mg fs
/-- the promise of the call of number p -/
def spNo (K : PySem.W.Frag) (C : Addr) (p : Nat) : Sp := spC K C (decide (p = 0)) (arOf p)
def IsCall (K : PySem.W.Frag) (C : Addr) (fs : List Addr) (f : Addr) (sp : Sp) : Prop := ∃ p, p ≤ 16 ∧ fs[p]? = some f ∧ sp = spNo K C p
theorem not_begun {p : Nat} {ns : List Nat} {c : Krdi.Call} (hp : p ≠ 0) (h : arOf p ns = some c) : Krdi.act none c = (none, Krdf.say (-11)) := by
  unfold arOf at h
  split at h
  · exact absurd rfl hp
  all_goals first
    | (have e := Option.some.inj h
       subst e
       rfl)
    | cases h
section
variable {P : Program} {w : World} {K : PySem.W.Frag} {mg : Str → Option Value} {base : Heap} {C : Addr} {fs : List Addr}
abbrev s_answer : Stmt := top 93
theorem sc_answer : FnScope ["people", "number", "given", "call"] ["people", "number", "given"] (defScope s_answer) := ⟨rfl, rfl, rfl, by decide +kernel, rfl, by decide +kernel, by decide +kernel⟩
theorem ok_answer (D : DefAt K mg "answer" s_answer) (T : TopsA K mg C fs) (A_answer : ∀ f sp, IsCall K C fs f sp → Held P w K mg base 12 f sp) : OkAt P w K mg base 13 "answer" ["people", "number", "given"] (spAnswer K C) := by
  refine okAt_of D (fun _ _ _ _ _ _ us hl => match us, hl with | [_, _, _], _ => rfl) fun f fd F => ?_
  have nd := sc_answer.nd
  refine F.ok sc_answer (fun vs H Q E h => ?_) (fun cdv A outer s H vs Q E hr h => ?_)
  · obtain ⟨a, l, m, fp, p, ns, c, rfl, _⟩ := h
    rfl
  · obtain ⟨a, l, m, fp, p, ns, c, rfl, hp, ok, p16, hl, har, hb, k⟩ := h
    refine ⟨_, (pss_cons (ps_if (PW.pt (pw_and (pt_cmpR op_ne (pv 1) (pe_gi T.BEGIN (by rfl)) (nomark _)) (pw_and1 (pt_cmpR op_eq (pe_fld (pv 0) rfl) pe_int (nomark _))))) (pss_one (ps_ret (pe_lst (pa_cons (pe_gi T.NOT_BEGUN (by rfl)) pa_nil)))) pss_nil) (pss_cons (ps_set (i := 3) nd rfl (Or.inl rfl) (pe_ix ix_tup (pe_gt T.CALLS (by rfl)) (pv 1) (fun _ _ => rfl))) (pss_one (ps_ret (pe_callP (i := 3) A_answer (hr.mono (by decide)) (by rfl) (Or.inl rfl) (pa_cons (pv 0) (pa_cons (pv 2) pa_nil))))))), ?_⟩
    obtain ⟨dx, lg, lq, g0, g1, b0, b1, pz, hfp, L⟩ := id hp
    have go : (decide (p = 0) = true ∨ m.k ≠ 0) → ∃ f sp, fs[p]? = some f ∧ IsCall K C fs f sp ∧ sp [.ref a, .ref l] H Q E0 := fun hfree => by
      have : p < callNames.length := by show p < 17; omega
      obtain ⟨f, hf, _⟩ := T.at_ p _ (List.getElem?_eq_getElem this)
      exact ⟨f, _, hf, ⟨p, p16, hf, rfl⟩, a, l, m, fp, ns, c, rfl, hp, ok, hfree, hl, har, hb, k⟩
    have atf : ∀ {f : Addr}, fs[p]? = some f → (fs.map V.ref)[p]? = some (V.ref f) := fun h => by
      rw [List.getElem?_map, h]
      rfl
    refine ⟨_, rfl, rfl, _, rfl, ?_⟩
    by_cases c0 : p = 0
    · have e1 : (!decide (V.int (p : Int) = V.int 0)) = false := by
        rw [kd, decide_eq_true (by omega)]
        rfl
      rw [e1]
      refine iteF (iteF ?_)
      obtain ⟨f, sp, hf, hi, hsp⟩ := go (.inl (decide_eq_true c0))
      intro z hz
      refine ⟨_, rfl, z, _, _, _, rfl, rfl, hz _, atI_nat (atf hf), ?_⟩
      exact ⟨f, sp, rfl, hi, _, rfl, _, rfl, hsp⟩
    · have e1 : (!decide (V.int (p : Int) = V.int 0)) = true := by
        rw [kd, decide_eq_false (by omega)]
        rfl
      rw [e1]
      refine iteT ⟨_, rfl, a, C, dx, _, _, rfl, L.ins, T.cl, T.nS, flds_scores, rfl, _, rfl, ?_⟩
      rw [kd]
      by_cases ck : m.k = 0
      · rw [decide_eq_true (by omega)]
        refine iteT ?_
        have ea : m.abs = none := if_pos ck
        rw [ea, not_begun c0 har] at k
        exact ⟨one_le, fun q nq => k.tell hp ok ea (Same.new nq) nq upd_same⟩
      · rw [decide_eq_false (by omega)]
        refine iteF ?_
        obtain ⟨f, sp, hf, hi, hsp⟩ := go (.inr ck)
        intro z hz
        refine ⟨_, rfl, z, _, _, _, rfl, rfl, hz _, atI_nat (atf hf), ?_⟩
        exact ⟨f, sp, rfl, hi, _, rfl, _, rfl, hsp⟩
/-- every call, by its number, from the promises of the calls -/
theorem held_of {x : Str} {j : Nat} {free : Bool} {ar ar' : List Nat → Option Krdi.Call} {f : Addr} (G : OkAt P w K mg base j x ["people", "given"] (spC K C free ar)) (hj : j ≤ 12) (hf : mg x = some (.ref f)) (e : ar' = ar) : Held P w K mg base 12 f (spC K C free ar') := by
  obtain ⟨f', fd, h1, h2, h3, F⟩ := G.ex
  rw [hf] at h1
  injection h1 with h1
  injection h1 with h1
  subst h1
  subst e
  exact ⟨fd, _, F.mono hj, h2, h3⟩
theorem ar_0 : arOf 0 = arBegin := by
  funext l
  match l with
  | [] => rfl
  | [_] => rfl
  | _ :: _ :: _ => rfl
theorem ar_1 : arOf 1 = arCount := by
  funext l
  match l with
  | [] => rfl
  | [_] => rfl
  | [_, _] => rfl
  | [_, _, _] => rfl
  | [_, _, _, _] => rfl
  | _ :: _ :: _ :: _ :: _ :: _ => rfl
theorem ar_2 : arOf 2 = arCell := by
  funext l
  match l with
  | [] => rfl
  | [_] => rfl
  | [_, _] => rfl
  | _ :: _ :: _ :: _ => rfl
theorem ar_3 : arOf 3 = arPays := by
  funext l
  match l with
  | [] => rfl
  | [_] => rfl
  | [_, _] => rfl
  | _ :: _ :: _ :: _ => rfl
theorem ar_4 : arOf 4 = arChances := by
  funext l
  match l with
  | [] => rfl
  | [_] => rfl
  | [_, _] => rfl
  | _ :: _ :: _ :: _ => rfl
theorem ar_5 : arOf 5 = arGains := by
  funext l
  match l with
  | [] => rfl
  | [_] => rfl
  | _ :: _ :: _ => rfl
theorem ar_6 : arOf 6 = arPicked := by
  funext l
  match l with
  | [] => rfl
  | [_] => rfl
  | _ :: _ :: _ => rfl
theorem ar_7 : arOf 7 = arMost := by
  funext l
  match l with
  | [] => rfl
  | [_] => rfl
  | _ :: _ :: _ => rfl
theorem ar_8 : arOf 8 = arPart := by
  funext l
  match l with
  | [] => rfl
  | [_] => rfl
  | _ :: _ :: _ => rfl
theorem ar_9 : arOf 9 = arCosts := by
  funext l
  match l with
  | [] => rfl
  | [_] => rfl
  | _ :: _ :: _ => rfl
theorem ar_10 : arOf 10 = arRule := by
  funext l
  match l with
  | [] => rfl
  | [_] => rfl
  | [_, _] => rfl
  | _ :: _ :: _ :: _ => rfl
theorem ar_11 : arOf 11 = arTake := by
  funext l
  match l with
  | [] => rfl
  | [_] => rfl
  | _ :: _ :: _ => rfl
theorem ar_12 : arOf 12 = arMeets := by
  funext l
  match l with
  | [] => rfl
  | [_] => rfl
  | _ :: _ :: _ => rfl
theorem ar_13 : arOf 13 = arForpart := by
  funext l
  match l with
  | [] => rfl
  | [_] => rfl
  | [_, _] => rfl
  | [_, _, _] => rfl
  | _ :: _ :: _ :: _ :: _ => rfl
theorem ar_14 : arOf 14 = arForhits := by
  funext l
  match l with
  | [] => rfl
  | [_] => rfl
  | [_, _] => rfl
  | [_, _, _] => rfl
  | _ :: _ :: _ :: _ :: _ => rfl
theorem ar_15 : arOf 15 = arIfpays := by
  funext l
  match l with
  | [] => rfl
  | [_] => rfl
  | [_, _] => rfl
  | [_, _, _] => rfl
  | _ :: _ :: _ :: _ :: _ => rfl
theorem ar_16 : arOf 16 = arState := by
  funext l
  match l with
  | [] => rfl
  | _ :: _ => rfl
theorem calls_held (T : CallsT K mg fs)
    (G_begin : OkAt P w K mg base 2 "begin" ["people", "given"] (spC K C true arBegin))
    (G_count : OkAt P w K mg base 3 "count" ["people", "given"] (spC K C false arCount))
    (G_cell : OkAt P w K mg base 3 "cell" ["people", "given"] (spC K C false arCell))
    (G_pays : OkAt P w K mg base 2 "pays" ["people", "given"] (spC K C false arPays))
    (G_chances : OkAt P w K mg base 3 "chances" ["people", "given"] (spC K C false arChances))
    (G_gains : OkAt P w K mg base 6 "gains" ["people", "given"] (spC K C false arGains))
    (G_picked : OkAt P w K mg base 6 "picked" ["people", "given"] (spC K C false arPicked))
    (G_most : OkAt P w K mg base 12 "most" ["people", "given"] (spC K C false arMost))
    (G_part : OkAt P w K mg base 12 "part" ["people", "given"] (spC K C false arPart))
    (G_costs : OkAt P w K mg base 12 "costs" ["people", "given"] (spC K C false arCosts))
    (G_rule : OkAt P w K mg base 12 "rule" ["people", "given"] (spC K C false arRule))
    (G_take : OkAt P w K mg base 12 "take" ["people", "given"] (spC K C false arTake))
    (G_meets : OkAt P w K mg base 8 "meets" ["people", "given"] (spC K C false arMeets))
    (G_forpart : OkAt P w K mg base 7 "forpart" ["people", "given"] (spC K C false arForpart))
    (G_forhits : OkAt P w K mg base 7 "forhits" ["people", "given"] (spC K C false arForhits))
    (G_ifpays : OkAt P w K mg base 12 "ifpays" ["people", "given"] (spC K C false arIfpays))
    (G_state : OkAt P w K mg base 2 "state" ["people", "given"] (spC K C false arState)) : ∀ f sp, IsCall K C fs f sp → Held P w K mg base 12 f sp := by
  rintro f sp ⟨p, p16, hf, rfl⟩
  have fin : ∀ x : Str, callNames[p]? = some x → mg x = some (.ref f) := fun x hx => by
    obtain ⟨f', h1, h2⟩ := T.at_ p _ hx
    rw [hf] at h1
    rw [h2, Option.some.inj h1]
  match p, p16, fin with
  | 0, _, fin => exact held_of G_begin (by decide) (fin _ rfl) ar_0
  | 1, _, fin => exact held_of G_count (by decide) (fin _ rfl) ar_1
  | 2, _, fin => exact held_of G_cell (by decide) (fin _ rfl) ar_2
  | 3, _, fin => exact held_of G_pays (by decide) (fin _ rfl) ar_3
  | 4, _, fin => exact held_of G_chances (by decide) (fin _ rfl) ar_4
  | 5, _, fin => exact held_of G_gains (by decide) (fin _ rfl) ar_5
  | 6, _, fin => exact held_of G_picked (by decide) (fin _ rfl) ar_6
  | 7, _, fin => exact held_of G_most (by decide) (fin _ rfl) ar_7
  | 8, _, fin => exact held_of G_part (by decide) (fin _ rfl) ar_8
  | 9, _, fin => exact held_of G_costs (by decide) (fin _ rfl) ar_9
  | 10, _, fin => exact held_of G_rule (by decide) (fin _ rfl) ar_10
  | 11, _, fin => exact held_of G_take (by decide) (fin _ rfl) ar_11
  | 12, _, fin => exact held_of G_meets (by decide) (fin _ rfl) ar_12
  | 13, _, fin => exact held_of G_forpart (by decide) (fin _ rfl) ar_13
  | 14, _, fin => exact held_of G_forhits (by decide) (fin _ rfl) ar_14
  | 15, _, fin => exact held_of G_ifpays (by decide) (fin _ rfl) ar_15
  | 16, _, fin => exact held_of G_state (by decide) (fin _ rfl) ar_16
  | n + 17, h, _ => exact absurd h (by omega)
end
end My
namespace My
open PySem PySem.Spec PyProof.Rows L2
/-! ## The whole, from what the top has written -/
structure Defs (K : PySem.W.Frag) (mg : Str → Option Value) (C : Addr) : Prop where
  d_common : DefAt K mg "common" s_common
  d_ratio : DefAt K mg "ratio" s_ratio
  d_whole : DefAt K mg "whole" s_whole
  d_plus : DefAt K mg "plus" s_plus
  d_minus : DefAt K mg "minus" s_minus
  d_times : DefAt K mg "times" s_times
  d_divided : DefAt K mg "divided" s_divided
  d_unsigned : DefAt K mg "unsigned" s_unsigned
  d_less : DefAt K mg "less" s_less
  d_weighed : DefAt K mg "weighed" s_weighed
  d_mean : DefAt K mg "mean" s_mean
  d_so_of : DefAt K mg "so_of" s_so_of
  d_others_of : DefAt K mg "others_of" s_others_of
  d_sizes_of : DefAt K mg "sizes_of" s_sizes_of
  d_gains_of : DefAt K mg "gains_of" s_gains_of
  d_somebody_lacks : DefAt K mg "somebody_lacks" s_somebody_lacks
  d_place_in : DefAt K mg "place_in" s_place_in
  d_steepest_first : DefAt K mg "steepest_first" s_steepest_first
  d_order_for : DefAt K mg "order_for" s_order_for
  d_runs_for : DefAt K mg "runs_for" s_runs_for
  d_taken : DefAt K mg "taken" s_taken
  d_chances_for : DefAt K mg "chances_for" s_chances_for
  d_fewest_for : DefAt K mg "fewest_for" s_fewest_for
  d_stops_for : DefAt K mg "stops_for" s_stops_for
  d_marks_for : DefAt K mg "marks_for" s_marks_for
  d_most_right : DefAt K mg "most_right" s_most_right
  d_right_in_both : DefAt K mg "right_in_both" s_right_in_both
  d_lead : DefAt K mg "lead" s_lead
  d_crossings : DefAt K mg "crossings" s_crossings
  d_candidates : DefAt K mg "candidates" s_candidates
  d_worth : DefAt K mg "worth" s_worth
  d_gained : DefAt K mg "gained" s_gained
  d_gained_at : DefAt K mg "gained_at" s_gained_at
  d_gained_freely : DefAt K mg "gained_freely" s_gained_freely
  d_best_x : DefAt K mg "best_x" s_best_x
  d_most_of : DefAt K mg "most_of" s_most_of
  d_part_of : DefAt K mg "part_of" s_part_of
  d_freely_chosen : DefAt K mg "freely_chosen" s_freely_chosen
  d_share_of_most : DefAt K mg "share_of_most" s_share_of_most
  d_chances_reaching : DefAt K mg "chances_reaching" s_chances_reaching
  d_rules_of : DefAt K mg "rules_of" s_rules_of
  d_alike : DefAt K mg "alike" s_alike
  d_met : DefAt K mg "met" s_met
  d_no_group : DefAt K mg "no_group" s_no_group
  d_no_cell : DefAt K mg "no_cell" s_no_cell
  d_no_kind : DefAt K mg "no_kind" s_no_kind
  d_no_pays : DefAt K mg "no_pays" s_no_pays
  d_no_lower : DefAt K mg "no_lower" s_no_lower
  d_told : DefAt K mg "told" s_told
  d_row_of : DefAt K mg "row_of" s_row_of
  d_begin : DefAt K mg "begin" s_begin
  d_count : DefAt K mg "count" s_count
  d_cell : DefAt K mg "cell" s_cell
  d_pays : DefAt K mg "pays" s_pays
  d_right_row : DefAt K mg "right_row" s_right_row
  d_chances : DefAt K mg "chances" s_chances
  d_gains : DefAt K mg "gains" s_gains
  d_picked : DefAt K mg "picked" s_picked
  d_refusal : DefAt K mg "refusal" s_refusal
  d_most : DefAt K mg "most" s_most
  d_part : DefAt K mg "part" s_part
  d_costs : DefAt K mg "costs" s_costs
  d_rule : DefAt K mg "rule" s_rule
  d_take : DefAt K mg "take" s_take
  d_meets : DefAt K mg "meets" s_meets
  d_gained_for : DefAt K mg "gained_for" s_gained_for
  d_forpart : DefAt K mg "forpart" s_forpart
  d_forhits : DefAt K mg "forhits" s_forhits
  d_ifpays : DefAt K mg "ifpays" s_ifpays
  d_state : DefAt K mg "state" s_state
  d_answer : DefAt K mg "answer" s_answer
  d_end_of : DefAt K mg "end_of" s_end_of
  MD_begin : MDefAt K C "begin" "People.begin" s_People_begin
  MD_init : MDefAt K C "__init__" "People.__init__" s_People_init
  makes : PySem.W.makesIn K C = true
  keeps : PySem.W.keepIn K (.ref C) = true
section
variable {P : Program} {w : World} {K : PySem.W.Frag} {mg : Str → Option Value} {C : Addr}
theorem all_ok {f : Addr} {fd : FuncData} {fs : List Addr} (F : Fun K "answers" "answers" s_answers f fd) (D : Defs K mg C) (B : Blt mg) (TA : TopsA K mg C fs) (T2 : Con2 K mg) (base : Heap) : FnOk P w K mg base CX0 20 f fd ["calls"] (spAns K) := by
  have T : Tops K mg C := TA.toTops
  have c1 : Con1 K mg := T.toCon1
  have kd : Kinds mg := T.toKinds
  have ct : ClsT K mg C := T.toClsT
  have g_common := ok_common (P := P) (w := w) (base := base) D.d_common
  have g_ratio := ok_ratio (P := P) (w := w) (base := base) D.d_ratio B g_common
  have g_whole := ok_whole (P := P) (w := w) (base := base) D.d_whole
  have g_plus := ok_plus (P := P) (w := w) (base := base) D.d_plus g_ratio
  have g_minus := ok_minus (P := P) (w := w) (base := base) D.d_minus g_ratio
  have g_times := ok_times (P := P) (w := w) (base := base) D.d_times g_ratio
  have g_divided := ok_divided (P := P) (w := w) (base := base) D.d_divided g_ratio
  have g_unsigned := ok_unsigned (P := P) (w := w) (base := base) D.d_unsigned B
  have g_less := ok_less (P := P) (w := w) (base := base) D.d_less
  have g_weighed := ok_weighed (P := P) (w := w) (base := base) D.d_weighed B c1 g_plus g_times g_whole
  have g_mean := ok_mean (P := P) (w := w) (base := base) D.d_mean B g_weighed g_divided g_whole
  have g_so_of := ok_so_of (P := P) (w := w) (base := base) D.d_so_of
  have g_others_of := ok_others_of (P := P) (w := w) (base := base) D.d_others_of
  have g_sizes_of := ok_sizes_of (P := P) (w := w) (base := base) D.d_sizes_of
  have g_gains_of := ok_gains_of (P := P) (w := w) (base := base) D.d_gains_of
  have g_somebody_lacks := ok_somebody_lacks (P := P) (w := w) (base := base) D.d_somebody_lacks B g_so_of g_others_of
  have g_place_in := ok_place_in (P := P) (w := w) (base := base) D.d_place_in B
  have g_steepest_first := ok_steepest_first (P := P) (w := w) (base := base) D.d_steepest_first B g_place_in
  have g_runs_for := ok_runs_for (P := P) (w := w) (base := base) D.d_runs_for kd g_so_of g_others_of g_sizes_of
  have g_order_for := ok_order_for (P := P) (w := w) (base := base) D.d_order_for kd g_so_of g_others_of g_sizes_of g_gains_of g_steepest_first
  have g_taken := ok_taken (P := P) (w := w) (base := base) D.d_taken B c1 g_minus g_times g_divided g_less g_whole
  have g_chances_for := ok_chances_for (P := P) (w := w) (base := base) D.d_chances_for g_order_for g_runs_for g_taken
  have g_stops_for := ok_stops_for (P := P) (w := w) (base := base) D.d_stops_for g_order_for g_runs_for
  have g_marks_for := ok_marks_for (P := P) (w := w) (base := base) D.d_marks_for B g_stops_for g_ratio
  have g_most_right := ok_most_right (P := P) (w := w) (base := base) D.d_most_right kd g_chances_for g_so_of g_mean
  have g_right_in_both := ok_right_in_both (P := P) (w := w) (base := base) D.d_right_in_both g_most_right g_less
  have g_lead := ok_lead (P := P) (w := w) (base := base) D.d_lead g_most_right g_minus
  have g_crossings := ok_crossings (P := P) (w := w) (base := base) D.d_crossings g_lead g_minus g_plus g_times g_divided g_unsigned
  have g_candidates := ok_candidates (P := P) (w := w) (base := base) D.d_candidates B kd g_marks_for g_crossings
  have g_worth := ok_worth (P := P) (w := w) (base := base) D.d_worth B g_so_of g_others_of g_minus g_times g_whole
  have g_gained := ok_gained (P := P) (w := w) (base := base) D.d_gained g_weighed g_gains_of
  have g_gained_at := ok_gained_at (P := P) (w := w) (base := base) D.d_gained_at kd g_worth g_right_in_both g_gained g_chances_for g_plus
  have g_gained_freely := ok_gained_freely (P := P) (w := w) (base := base) D.d_gained_freely B g_gains_of g_whole
  have g_best_x := ok_best_x (P := P) (w := w) (base := base) D.d_best_x g_candidates g_gained_at g_less
  have g_most_of := ok_most_of (P := P) (w := w) (base := base) D.d_most_of kd g_gained_freely g_gained_at g_best_x
  have g_part_of := ok_part_of (P := P) (w := w) (base := base) D.d_part_of kd g_right_in_both g_best_x
  have g_People_begin := ok_People_begin (P := P) (w := w) (base := base) D.MD_begin B c1 ct
  have g_no_group := ok_no_group (P := P) (w := w) (base := base) D.d_no_group
  have g_no_cell := ok_no_cell (P := P) (w := w) (base := base) D.d_no_cell T g_no_group
  have g_told := ok_told (P := P) (w := w) (base := base) D.d_told
  have g_no_kind := ok_no_kind (P := P) (w := w) (base := base) D.d_no_kind T
  have g_no_pays := ok_no_pays (P := P) (w := w) (base := base) D.d_no_pays T
  have g_no_lower := ok_no_lower (P := P) (w := w) (base := base) D.d_no_lower T
  have g_row_of := ok_row_of (P := P) (w := w) (base := base) D.d_row_of
  have g_refusal := ok_refusal (P := P) (w := w) (base := base) D.d_refusal T g_somebody_lacks
  have g_begin := ok_begin (P := P) (w := w) (base := base) D.d_begin T g_People_begin
  have g_cell := ok_cell (P := P) (w := w) (base := base) D.d_cell T g_no_cell
  have g_count := ok_count (P := P) (w := w) (base := base) D.d_count T g_no_cell
  have g_pays := ok_pays (P := P) (w := w) (base := base) D.d_pays T g_no_pays
  have g_right_row := ok_right_row (P := P) (w := w) (base := base) D.d_right_row B T
  have g_chances := ok_chances (P := P) (w := w) (base := base) D.d_chances T g_no_group g_no_lower g_right_row g_ratio
  have g_gains := ok_gains (P := P) (w := w) (base := base) D.d_gains T g_no_group g_gained g_told
  have g_picked := ok_picked (P := P) (w := w) (base := base) D.d_picked B T g_no_group g_sizes_of g_mean g_told
  have g_most := ok_most (P := P) (w := w) (base := base) D.d_most T g_refusal g_no_kind g_most_of g_told
  have g_part := ok_part (P := P) (w := w) (base := base) D.d_part T g_refusal g_no_kind g_part_of g_told
  have g_end_of := ok_end_of (P := P) (w := w) (base := base) D.d_end_of T2
  have g_fewest_for := ok_fewest_for (P := P) (w := w) (base := base) D.d_fewest_for g_so_of g_others_of g_steepest_first g_taken
  have g_freely_chosen := ok_freely_chosen (P := P) (w := w) (base := base) D.d_freely_chosen c1 g_gains_of
  have g_share_of_most := ok_share_of_most (P := P) (w := w) (base := base) D.d_share_of_most c1 g_mean g_minus g_divided
  have g_chances_reaching := ok_chances_reaching (P := P) (w := w) (base := base) D.d_chances_reaching B kd c1 g_chances_for g_fewest_for g_share_of_most g_so_of g_minus g_plus g_times
  have g_rules_of := ok_rules_of (P := P) (w := w) (base := base) D.d_rules_of kd g_freely_chosen g_best_x g_chances_for g_right_in_both g_chances_reaching
  have g_alike := ok_alike (P := P) (w := w) (base := base) D.d_alike g_mean g_runs_for
  have g_met := ok_met (P := P) (w := w) (base := base) D.d_met kd g_alike
  have g_costs := ok_costs (P := P) (w := w) (base := base) D.d_costs T g_refusal g_no_kind g_most_of g_minus g_told
  have g_ifpays := ok_ifpays (P := P) (w := w) (base := base) D.d_ifpays T g_refusal g_no_kind g_no_pays g_most_of g_told
  have g_gained_for := ok_gained_for (P := P) (w := w) (base := base) D.d_gained_for T g_no_group g_refusal g_no_lower g_gained g_chances_for g_ratio g_told
  have g_forpart := ok_forpart (P := P) (w := w) (base := base) D.d_forpart T g_gained_for
  have g_forhits := ok_forhits (P := P) (w := w) (base := base) D.d_forhits T g_gained_for
  have g_meets := ok_meets (P := P) (w := w) (base := base) D.d_meets T g_refusal g_no_kind g_met
  have g_rule := ok_rule (P := P) (w := w) (base := base) D.d_rule T g_no_group g_refusal g_no_kind g_rules_of g_row_of
  have g_take := ok_take (P := P) (w := w) (base := base) D.d_take T g_refusal g_no_kind g_rules_of
  have g_state := ok_state (P := P) (w := w) (base := base) D.d_state T g_row_of
  have held := calls_held TA.toCallsT g_begin g_count g_cell g_pays g_chances g_gains g_picked g_most g_part g_costs g_rule g_take g_meets g_forpart g_forhits g_ifpays g_state
  have g_answer := ok_answer (P := P) (w := w) (base := base) D.d_answer TA held
  have g_init := ok_People_init D.MD_init ct D.makes D.keeps g_People_begin
  exact ok_answers F B ct g_init g_end_of (by decide) g_answer
end
theorem intAt_mk {K : PySem.W.Frag} {h : Heap} {mg : Str → Option Value} {x : Str} {i : Int} {t : Tok} (X : K.In h) (G : h.Ns mainGlobals mg) (a : PySem.W.nsIn K mainGlobals x = some (some (.int i t))) : ∃ t, mg x = some (.int i t) := ⟨t, PySem.W.mg_of X G a⟩
theorem tupAt_mk {K : PySem.W.Frag} {h : Heap} {mg : Str → Option Value} {x : Str} {z : Addr} {d : Option Addr} {its : Array Value} {n : Nat} {sl : Array (Option Value)} {xs : List V} (X : K.In h) (G : h.Ns mainGlobals mg)
    (a : PySem.W.nsIn K mainGlobals x = some (some (.ref z))) (l : K.lookup z = some ⟨.type "tuple", d, .seq its n, sl⟩) (hs : its.size ≤ sizeLine) (hv : Vals xs its.toList) : ∃ z, mg x = some (.ref z) ∧ ∀ H', SqT K H' z xs :=
  ⟨z, PySem.W.mg_of X G a, fun _ => .inr ⟨_, its, n, l, rfl, rfl, hs, hv⟩⟩
theorem end_mk {P : Program} {w : World} {K : PySem.W.Frag} {h : Heap} {mg : Str → Option Value} {fa C : Addr} (X : K.In h) (G : h.Ns mainGlobals mg) (hfa : mg "answers" = some (.ref fa)) (DA : DefAt K mg "answers" s_answers) (D : Defs K mg C) (B : Blt mg) {fs : List Addr} (T : TopsA K mg C fs) (T2 : Con2 K mg) :
    ∃ fd : FuncData, (∀ (s : Shared) (us : List Value), us.length = (["calls"] : List Str).length → BindsTo s fd ⟨us, []⟩ ((["calls"] : List Str).zip us)) ∧ ∀ base : Heap, K.In base → base.Ns mainGlobals mg → FnOk P w K mg base CX0 20 fa fd ["calls"] (spAns K) := by
  obtain ⟨f, fd, F, m⟩ := DA.ex
  have e : fa = f := by
    rw [hfa] at m
    injection m with m
    injection m with m
  subst e
  have F' := F
  obtain ⟨oc, od, kV, doc, pm, an, cdv, ct, osl, rfl, lk, hcd⟩ := F.ex
  exact ⟨_, fun s us hu => match us, hu with | [_], _ => .of_eq rfl, fun base _ _ => all_ok F' D B T T2 base⟩
end My
namespace My
open PySem PySem.Spec PyProof.Rows L2
theorem in_int {x : Int} (h : PySem.W.Codec.inInt 0 4294967295 x = true) : 0 ≤ x ∧ x ≤ 4294967295 := by
  unfold PySem.W.Codec.inInt at h
  simpa using h
theorem callsAt_mk {K : PySem.W.Frag} {h : Heap} {mg : Str → Option Value} {z f0 f1 f2 f3 f4 f5 f6 f7 f8 f9 f10 f11 f12 f13 f14 f15 f16 : Addr} {d : Option Addr} {n : Nat} {sl : Array (Option Value)} (X : K.In h) (G : h.Ns mainGlobals mg)
    (a : PySem.W.nsIn K mainGlobals "CALLS" = some (some (.ref z)))
    (a0 : PySem.W.nsIn K mainGlobals "begin" = some (some (.ref f0)))
    (a1 : PySem.W.nsIn K mainGlobals "count" = some (some (.ref f1)))
    (a2 : PySem.W.nsIn K mainGlobals "cell" = some (some (.ref f2)))
    (a3 : PySem.W.nsIn K mainGlobals "pays" = some (some (.ref f3)))
    (a4 : PySem.W.nsIn K mainGlobals "chances" = some (some (.ref f4)))
    (a5 : PySem.W.nsIn K mainGlobals "gains" = some (some (.ref f5)))
    (a6 : PySem.W.nsIn K mainGlobals "picked" = some (some (.ref f6)))
    (a7 : PySem.W.nsIn K mainGlobals "most" = some (some (.ref f7)))
    (a8 : PySem.W.nsIn K mainGlobals "part" = some (some (.ref f8)))
    (a9 : PySem.W.nsIn K mainGlobals "costs" = some (some (.ref f9)))
    (a10 : PySem.W.nsIn K mainGlobals "rule" = some (some (.ref f10)))
    (a11 : PySem.W.nsIn K mainGlobals "take" = some (some (.ref f11)))
    (a12 : PySem.W.nsIn K mainGlobals "meets" = some (some (.ref f12)))
    (a13 : PySem.W.nsIn K mainGlobals "forpart" = some (some (.ref f13)))
    (a14 : PySem.W.nsIn K mainGlobals "forhits" = some (some (.ref f14)))
    (a15 : PySem.W.nsIn K mainGlobals "ifpays" = some (some (.ref f15)))
    (a16 : PySem.W.nsIn K mainGlobals "state" = some (some (.ref f16)))
    (l : K.lookup z = some ⟨.type "tuple", d, .seq #[.ref f0, .ref f1, .ref f2, .ref f3, .ref f4, .ref f5, .ref f6, .ref f7, .ref f8, .ref f9, .ref f10, .ref f11, .ref f12, .ref f13, .ref f14, .ref f15, .ref f16] n, sl⟩) : ∃ fs, CallsT K mg fs :=
  ⟨[f0, f1, f2, f3, f4, f5, f6, f7, f8, f9, f10, f11, f12, f13, f14, f15, f16], ⟨z, PySem.W.mg_of X G a, fun H' => .inr ⟨_, _, n, l, rfl, rfl, (by show 17 ≤ sizeLine; decide), (.cons rfl (.cons rfl (.cons rfl (.cons rfl (.cons rfl (.cons rfl (.cons rfl (.cons rfl (.cons rfl (.cons rfl (.cons rfl (.cons rfl (.cons rfl (.cons rfl (.cons rfl (.cons rfl (.cons rfl .nil)))))))))))))))))⟩⟩, fun i x hx => by
    match i, hx with
    | 0, hx =>
      have e : ("begin" : Str) = x := Option.some.inj hx
      subst e
      exact ⟨f0, rfl, PySem.W.mg_of X G a0⟩
    | 1, hx =>
      have e : ("count" : Str) = x := Option.some.inj hx
      subst e
      exact ⟨f1, rfl, PySem.W.mg_of X G a1⟩
    | 2, hx =>
      have e : ("cell" : Str) = x := Option.some.inj hx
      subst e
      exact ⟨f2, rfl, PySem.W.mg_of X G a2⟩
    | 3, hx =>
      have e : ("pays" : Str) = x := Option.some.inj hx
      subst e
      exact ⟨f3, rfl, PySem.W.mg_of X G a3⟩
    | 4, hx =>
      have e : ("chances" : Str) = x := Option.some.inj hx
      subst e
      exact ⟨f4, rfl, PySem.W.mg_of X G a4⟩
    | 5, hx =>
      have e : ("gains" : Str) = x := Option.some.inj hx
      subst e
      exact ⟨f5, rfl, PySem.W.mg_of X G a5⟩
    | 6, hx =>
      have e : ("picked" : Str) = x := Option.some.inj hx
      subst e
      exact ⟨f6, rfl, PySem.W.mg_of X G a6⟩
    | 7, hx =>
      have e : ("most" : Str) = x := Option.some.inj hx
      subst e
      exact ⟨f7, rfl, PySem.W.mg_of X G a7⟩
    | 8, hx =>
      have e : ("part" : Str) = x := Option.some.inj hx
      subst e
      exact ⟨f8, rfl, PySem.W.mg_of X G a8⟩
    | 9, hx =>
      have e : ("costs" : Str) = x := Option.some.inj hx
      subst e
      exact ⟨f9, rfl, PySem.W.mg_of X G a9⟩
    | 10, hx =>
      have e : ("rule" : Str) = x := Option.some.inj hx
      subst e
      exact ⟨f10, rfl, PySem.W.mg_of X G a10⟩
    | 11, hx =>
      have e : ("take" : Str) = x := Option.some.inj hx
      subst e
      exact ⟨f11, rfl, PySem.W.mg_of X G a11⟩
    | 12, hx =>
      have e : ("meets" : Str) = x := Option.some.inj hx
      subst e
      exact ⟨f12, rfl, PySem.W.mg_of X G a12⟩
    | 13, hx =>
      have e : ("forpart" : Str) = x := Option.some.inj hx
      subst e
      exact ⟨f13, rfl, PySem.W.mg_of X G a13⟩
    | 14, hx =>
      have e : ("forhits" : Str) = x := Option.some.inj hx
      subst e
      exact ⟨f14, rfl, PySem.W.mg_of X G a14⟩
    | 15, hx =>
      have e : ("ifpays" : Str) = x := Option.some.inj hx
      subst e
      exact ⟨f15, rfl, PySem.W.mg_of X G a15⟩
    | 16, hx =>
      have e : ("state" : Str) = x := Option.some.inj hx
      subst e
      exact ⟨f16, rfl, PySem.W.mg_of X G a16⟩
    | i + 17, hx => cases hx⟩
/-- the class People and its two methods, as the top has them -/
theorem end_cls {P : Program} {w : World} {K : PySem.W.Frag} {h : Heap} {mg : Str → Option Value} {fa C f1 f2 : Addr} (X : K.In h) (G : h.Ns mainGlobals mg) (hfa : mg "answers" = some (.ref fa)) (DA : DefAt K mg "answers" s_answers) (B : Blt mg) (N : Nums mg) (Kd : Kinds mg) (C1 : Con1 K mg) (T2 : Con2 K mg) {fs : List Addr} (CT : CallsT K mg fs)
    {od1 an1 od2 an2 : Option Addr} {sl1 sl2 : Array (Option Value)} {oc1 kV1 dc1 pm1 cd1 ct1 oc2 kV2 dc2 pm2 cd2 ct2 : Value}
    (mkD : ∀ C, MDefAt K C "begin" "People.begin" s_People_begin → MDefAt K C "__init__" "People.__init__" s_People_init → PySem.W.makesIn K C = true → PySem.W.keepIn K (.ref C) = true → Defs K mg C)
    (aC : PySem.W.nsIn K mainGlobals "People" = some (some (.ref C)))
    (x1 : PySem.W.findIn K (.ref C) "begin" = some (some (.ref f1))) (x2 : PySem.W.isFn K (.ref f1) = true) (x3 : K.lookup f1 = some ⟨oc1, od1, .func (PySem.W.fnOf "begin" "People.begin" (defArgs s_People_begin) (defBody s_People_begin) (defScope s_People_begin) .none kV1 dc1 pm1 an1 cd1 ct1), sl1⟩) (x4 : PySem.W.codeIn K cd1 "People.begin" = true) (x5 : PySem.W.keepIn K (.ref f1) = true)
    (y1 : PySem.W.findIn K (.ref C) "__init__" = some (some (.ref f2))) (y2 : PySem.W.isFn K (.ref f2) = true) (y3 : K.lookup f2 = some ⟨oc2, od2, .func (PySem.W.fnOf "__init__" "People.__init__" (defArgs s_People_init) (defBody s_People_init) (defScope s_People_init) .none kV2 dc2 pm2 an2 cd2 ct2), sl2⟩) (y4 : PySem.W.codeIn K cd2 "People.__init__" = true) (y5 : PySem.W.keepIn K (.ref f2) = true)
    (pg : PySem.W.plainGet K C Str.empty = true) (hd : PySem.W.hasDictIn K C = true) (po : PySem.W.plainOver K C = true) (sa : PySem.W.findIn K (.ref C) "__setattr__" = some (some (.builtin "object.__setattr__"))) (mk : PySem.W.makesIn K C = true) (kc : PySem.W.keepIn K (.ref C) = true)
    (nS : PySem.W.findIn K (.ref C) "scores" = some none) (nG : PySem.W.findIn K (.ref C) "groups" = some none) (nC : PySem.W.findIn K (.ref C) "chances" = some none) (nP : PySem.W.findIn K (.ref C) "pays" = some none) :
    ∃ fd : FuncData, (∀ (s : Shared) (us : List Value), us.length = (["calls"] : List Str).length → BindsTo s fd ⟨us, []⟩ ((["calls"] : List Str).zip us)) ∧ ∀ base : Heap, K.In base → base.Ns mainGlobals mg → FnOk P w K mg base CX0 20 fa fd ["calls"] (spAns K) := by
  have ct : ClsT K mg C := ⟨⟨pg, hd, po, sa⟩, nS, nG, nC, nP, PySem.W.mg_of X G aC⟩
  exact end_mk X G hfa DA (mkD C (mdefAt_mk x1 x2 x3 x4 x5) (mdefAt_mk y1 y2 y3 y4 y5) mk kc) B ⟨⟨N, Kd, C1, ct⟩, CT⟩ T2
end My
open PySem PySem.W PyProof.Rows
set_option maxRecDepth 100000 in
set_option maxHeartbeats 0 in
theorem PySem.Challenge.cw_faircosts_s01_answers_holds : PySem.Challenge.rw_faircosts_s01_answers.Holds := by
  w_on; k_headS; (case hw => exact ⟨[.list []], by decide +kernel, by decide +kernel⟩)
  k_fillS
  refine L2.walk_specK (r := PySem.Challenge.rw_faircosts_s01_answers) (k := 20) (CX := L2.CX0) (ps := ["calls"]) (sp := My.spAns) (by decide +kernel) rfl rfl ⟨rfl, by decide, by decide⟩ (fun w h Y => PySem.W.kIn_of Y) ?F ?S (fun _ _ _ _ z => z)
  case F =>
    intro w mg fa h Y KX G hmg
    have b_len : mg "len" = none := PySem.W.mg_none_of KX G (by k_is)
    have b_abs : mg "abs" = none := PySem.W.mg_none_of KX G (by k_is)
    have b_sum : mg "sum" = none := PySem.W.mg_none_of KX G (by k_is)
    have b_range : mg "range" = none := PySem.W.mg_none_of KX G (by k_is)
    have b_zip : mg "zip" = none := PySem.W.mg_none_of KX G (by k_is)
    have b_sorted : mg "sorted" = none := PySem.W.mg_none_of KX G (by k_is)
    have b_set : mg "set" = none := PySem.W.mg_none_of KX G (by k_is)
    have b_all : mg "all" = none := PySem.W.mg_none_of KX G (by k_is)
    have i_FREELY : ∃ t, mg "FREELY" = some (.int (0) t) := by
      refine' My.intAt_mk KX G ?a
      (case a => k_is)
    have i_SAME_PART : ∃ t, mg "SAME_PART" = some (.int (1) t) := by
      refine' My.intAt_mk KX G ?a
      (case a => k_is)
    have i_SAME_RIGHT : ∃ t, mg "SAME_RIGHT" = some (.int (2) t) := by
      refine' My.intAt_mk KX G ?a
      (case a => k_is)
    have i_SAME_BOTH : ∃ t, mg "SAME_BOTH" = some (.int (3) t) := by
      refine' My.intAt_mk KX G ?a
      (case a => k_is)
    have i_BEGIN : ∃ t, mg "BEGIN" = some (.int (0) t) := by
      refine' My.intAt_mk KX G ?a
      (case a => k_is)
    have i_NO_SUCH : ∃ t, mg "NO_SUCH" = some (.int (-2) t) := by
      refine' My.intAt_mk KX G ?a
      (case a => k_is)
    have i_NOT_BEGUN : ∃ t, mg "NOT_BEGUN" = some (.int (-11) t) := by
      refine' My.intAt_mk KX G ?a
      (case a => k_is)
    have i_NOT_RIGHT : ∃ t, mg "NOT_RIGHT" = some (.int (-22) t) := by
      refine' My.intAt_mk KX G ?a
      (case a => k_is)
    have i_LACKING : ∃ t, mg "LACKING" = some (.int (-33) t) := by
      refine' My.intAt_mk KX G ?a
      (case a => k_is)
    have i_MOST_SCORES : ∃ t, mg "MOST_SCORES" = some (.int (4) t) := by
      refine' My.intAt_mk KX G ?a
      (case a => k_is)
    have i_MOST_PEOPLE : ∃ t, mg "MOST_PEOPLE" = some (.int (99) t) := by
      refine' My.intAt_mk KX G ?a
      (case a => k_is)
    have i_MOST_PAY : ∃ t, mg "MOST_PAY" = some (.int (100) t) := by
      refine' My.intAt_mk KX G ?a
      (case a => k_is)
    have i_MOST_LOWER : ∃ t, mg "MOST_LOWER" = some (.int (1000) t) := by
      refine' My.intAt_mk KX G ?a
      (case a => k_is)
    have i_CHANCES : ∃ t, mg "CHANCES" = some (.int (4) t) := by
      refine' My.intAt_mk KX G ?a
      (case a => k_is)
    have t_ZERO : ∃ z, mg "ZERO" = some (.ref z) ∧ ∀ H', L2.SqT (PySem.Challenge.cw_faircosts_s01_answers_holds.heap_1 w.params) H' z [.int 0, .int 1] := by
      refine' My.tupAt_mk KX G ?a ?l ?s ?v
      (case a => k_is); (case l => k_is); (case s => decide +kernel); (case v => repeat (first | exact .nil | refine .cons ⟨_, rfl⟩ ?_))
    have t_ONE : ∃ z, mg "ONE" = some (.ref z) ∧ ∀ H', L2.SqT (PySem.Challenge.cw_faircosts_s01_answers_holds.heap_1 w.params) H' z [.int 1, .int 1] := by
      refine' My.tupAt_mk KX G ?a ?l ?s ?v
      (case a => k_is); (case l => k_is); (case s => decide +kernel); (case v => repeat (first | exact .nil | refine .cons ⟨_, rfl⟩ ?_))
    have t_WHOLE_NUMBERS : ∃ z, mg "WHOLE_NUMBERS" = some (.ref z) ∧ ∀ H', L2.SqT (PySem.Challenge.cw_faircosts_s01_answers_holds.heap_1 w.params) H' z (My.widths.map L2.V.int) := by
      refine' My.tupAt_mk KX G ?a ?l ?s ?v
      (case a => k_is); (case l => k_is); (case s => decide +kernel); (case v => repeat (first | exact .nil | refine .cons ⟨_, rfl⟩ ?_))
    have d_common : My.DefAt (PySem.Challenge.cw_faircosts_s01_answers_holds.heap_1 w.params) mg "common" My.s_common := by
      refine' My.defAt_mk KX G ?a ?l ?c ?k
      (case a => k_is); (case l => k_is); (case c => k_is); (case k => k_is)
    have d_ratio : My.DefAt (PySem.Challenge.cw_faircosts_s01_answers_holds.heap_1 w.params) mg "ratio" My.s_ratio := by
      refine' My.defAt_mk KX G ?a ?l ?c ?k
      (case a => k_is); (case l => k_is); (case c => k_is); (case k => k_is)
    have d_whole : My.DefAt (PySem.Challenge.cw_faircosts_s01_answers_holds.heap_1 w.params) mg "whole" My.s_whole := by
      refine' My.defAt_mk KX G ?a ?l ?c ?k
      (case a => k_is); (case l => k_is); (case c => k_is); (case k => k_is)
    have d_plus : My.DefAt (PySem.Challenge.cw_faircosts_s01_answers_holds.heap_1 w.params) mg "plus" My.s_plus := by
      refine' My.defAt_mk KX G ?a ?l ?c ?k
      (case a => k_is); (case l => k_is); (case c => k_is); (case k => k_is)
    have d_minus : My.DefAt (PySem.Challenge.cw_faircosts_s01_answers_holds.heap_1 w.params) mg "minus" My.s_minus := by
      refine' My.defAt_mk KX G ?a ?l ?c ?k
      (case a => k_is); (case l => k_is); (case c => k_is); (case k => k_is)
    have d_times : My.DefAt (PySem.Challenge.cw_faircosts_s01_answers_holds.heap_1 w.params) mg "times" My.s_times := by
      refine' My.defAt_mk KX G ?a ?l ?c ?k
      (case a => k_is); (case l => k_is); (case c => k_is); (case k => k_is)
    have d_divided : My.DefAt (PySem.Challenge.cw_faircosts_s01_answers_holds.heap_1 w.params) mg "divided" My.s_divided := by
      refine' My.defAt_mk KX G ?a ?l ?c ?k
      (case a => k_is); (case l => k_is); (case c => k_is); (case k => k_is)
    have d_unsigned : My.DefAt (PySem.Challenge.cw_faircosts_s01_answers_holds.heap_1 w.params) mg "unsigned" My.s_unsigned := by
      refine' My.defAt_mk KX G ?a ?l ?c ?k
      (case a => k_is); (case l => k_is); (case c => k_is); (case k => k_is)
    have d_less : My.DefAt (PySem.Challenge.cw_faircosts_s01_answers_holds.heap_1 w.params) mg "less" My.s_less := by
      refine' My.defAt_mk KX G ?a ?l ?c ?k
      (case a => k_is); (case l => k_is); (case c => k_is); (case k => k_is)
    have d_weighed : My.DefAt (PySem.Challenge.cw_faircosts_s01_answers_holds.heap_1 w.params) mg "weighed" My.s_weighed := by
      refine' My.defAt_mk KX G ?a ?l ?c ?k
      (case a => k_is); (case l => k_is); (case c => k_is); (case k => k_is)
    have d_mean : My.DefAt (PySem.Challenge.cw_faircosts_s01_answers_holds.heap_1 w.params) mg "mean" My.s_mean := by
      refine' My.defAt_mk KX G ?a ?l ?c ?k
      (case a => k_is); (case l => k_is); (case c => k_is); (case k => k_is)
    have d_so_of : My.DefAt (PySem.Challenge.cw_faircosts_s01_answers_holds.heap_1 w.params) mg "so_of" My.s_so_of := by
      refine' My.defAt_mk KX G ?a ?l ?c ?k
      (case a => k_is); (case l => k_is); (case c => k_is); (case k => k_is)
    have d_others_of : My.DefAt (PySem.Challenge.cw_faircosts_s01_answers_holds.heap_1 w.params) mg "others_of" My.s_others_of := by
      refine' My.defAt_mk KX G ?a ?l ?c ?k
      (case a => k_is); (case l => k_is); (case c => k_is); (case k => k_is)
    have d_sizes_of : My.DefAt (PySem.Challenge.cw_faircosts_s01_answers_holds.heap_1 w.params) mg "sizes_of" My.s_sizes_of := by
      refine' My.defAt_mk KX G ?a ?l ?c ?k
      (case a => k_is); (case l => k_is); (case c => k_is); (case k => k_is)
    have d_gains_of : My.DefAt (PySem.Challenge.cw_faircosts_s01_answers_holds.heap_1 w.params) mg "gains_of" My.s_gains_of := by
      refine' My.defAt_mk KX G ?a ?l ?c ?k
      (case a => k_is); (case l => k_is); (case c => k_is); (case k => k_is)
    have d_somebody_lacks : My.DefAt (PySem.Challenge.cw_faircosts_s01_answers_holds.heap_1 w.params) mg "somebody_lacks" My.s_somebody_lacks := by
      refine' My.defAt_mk KX G ?a ?l ?c ?k
      (case a => k_is); (case l => k_is); (case c => k_is); (case k => k_is)
    have d_place_in : My.DefAt (PySem.Challenge.cw_faircosts_s01_answers_holds.heap_1 w.params) mg "place_in" My.s_place_in := by
      refine' My.defAt_mk KX G ?a ?l ?c ?k
      (case a => k_is); (case l => k_is); (case c => k_is); (case k => k_is)
    have d_steepest_first : My.DefAt (PySem.Challenge.cw_faircosts_s01_answers_holds.heap_1 w.params) mg "steepest_first" My.s_steepest_first := by
      refine' My.defAt_mk KX G ?a ?l ?c ?k
      (case a => k_is); (case l => k_is); (case c => k_is); (case k => k_is)
    have d_order_for : My.DefAt (PySem.Challenge.cw_faircosts_s01_answers_holds.heap_1 w.params) mg "order_for" My.s_order_for := by
      refine' My.defAt_mk KX G ?a ?l ?c ?k
      (case a => k_is); (case l => k_is); (case c => k_is); (case k => k_is)
    have d_runs_for : My.DefAt (PySem.Challenge.cw_faircosts_s01_answers_holds.heap_1 w.params) mg "runs_for" My.s_runs_for := by
      refine' My.defAt_mk KX G ?a ?l ?c ?k
      (case a => k_is); (case l => k_is); (case c => k_is); (case k => k_is)
    have d_taken : My.DefAt (PySem.Challenge.cw_faircosts_s01_answers_holds.heap_1 w.params) mg "taken" My.s_taken := by
      refine' My.defAt_mk KX G ?a ?l ?c ?k
      (case a => k_is); (case l => k_is); (case c => k_is); (case k => k_is)
    have d_chances_for : My.DefAt (PySem.Challenge.cw_faircosts_s01_answers_holds.heap_1 w.params) mg "chances_for" My.s_chances_for := by
      refine' My.defAt_mk KX G ?a ?l ?c ?k
      (case a => k_is); (case l => k_is); (case c => k_is); (case k => k_is)
    have d_fewest_for : My.DefAt (PySem.Challenge.cw_faircosts_s01_answers_holds.heap_1 w.params) mg "fewest_for" My.s_fewest_for := by
      refine' My.defAt_mk KX G ?a ?l ?c ?k
      (case a => k_is); (case l => k_is); (case c => k_is); (case k => k_is)
    have d_stops_for : My.DefAt (PySem.Challenge.cw_faircosts_s01_answers_holds.heap_1 w.params) mg "stops_for" My.s_stops_for := by
      refine' My.defAt_mk KX G ?a ?l ?c ?k
      (case a => k_is); (case l => k_is); (case c => k_is); (case k => k_is)
    have d_marks_for : My.DefAt (PySem.Challenge.cw_faircosts_s01_answers_holds.heap_1 w.params) mg "marks_for" My.s_marks_for := by
      refine' My.defAt_mk KX G ?a ?l ?c ?k
      (case a => k_is); (case l => k_is); (case c => k_is); (case k => k_is)
    have d_most_right : My.DefAt (PySem.Challenge.cw_faircosts_s01_answers_holds.heap_1 w.params) mg "most_right" My.s_most_right := by
      refine' My.defAt_mk KX G ?a ?l ?c ?k
      (case a => k_is); (case l => k_is); (case c => k_is); (case k => k_is)
    have d_right_in_both : My.DefAt (PySem.Challenge.cw_faircosts_s01_answers_holds.heap_1 w.params) mg "right_in_both" My.s_right_in_both := by
      refine' My.defAt_mk KX G ?a ?l ?c ?k
      (case a => k_is); (case l => k_is); (case c => k_is); (case k => k_is)
    have d_lead : My.DefAt (PySem.Challenge.cw_faircosts_s01_answers_holds.heap_1 w.params) mg "lead" My.s_lead := by
      refine' My.defAt_mk KX G ?a ?l ?c ?k
      (case a => k_is); (case l => k_is); (case c => k_is); (case k => k_is)
    have d_crossings : My.DefAt (PySem.Challenge.cw_faircosts_s01_answers_holds.heap_1 w.params) mg "crossings" My.s_crossings := by
      refine' My.defAt_mk KX G ?a ?l ?c ?k
      (case a => k_is); (case l => k_is); (case c => k_is); (case k => k_is)
    have d_candidates : My.DefAt (PySem.Challenge.cw_faircosts_s01_answers_holds.heap_1 w.params) mg "candidates" My.s_candidates := by
      refine' My.defAt_mk KX G ?a ?l ?c ?k
      (case a => k_is); (case l => k_is); (case c => k_is); (case k => k_is)
    have d_worth : My.DefAt (PySem.Challenge.cw_faircosts_s01_answers_holds.heap_1 w.params) mg "worth" My.s_worth := by
      refine' My.defAt_mk KX G ?a ?l ?c ?k
      (case a => k_is); (case l => k_is); (case c => k_is); (case k => k_is)
    have d_gained : My.DefAt (PySem.Challenge.cw_faircosts_s01_answers_holds.heap_1 w.params) mg "gained" My.s_gained := by
      refine' My.defAt_mk KX G ?a ?l ?c ?k
      (case a => k_is); (case l => k_is); (case c => k_is); (case k => k_is)
    have d_gained_at : My.DefAt (PySem.Challenge.cw_faircosts_s01_answers_holds.heap_1 w.params) mg "gained_at" My.s_gained_at := by
      refine' My.defAt_mk KX G ?a ?l ?c ?k
      (case a => k_is); (case l => k_is); (case c => k_is); (case k => k_is)
    have d_gained_freely : My.DefAt (PySem.Challenge.cw_faircosts_s01_answers_holds.heap_1 w.params) mg "gained_freely" My.s_gained_freely := by
      refine' My.defAt_mk KX G ?a ?l ?c ?k
      (case a => k_is); (case l => k_is); (case c => k_is); (case k => k_is)
    have d_best_x : My.DefAt (PySem.Challenge.cw_faircosts_s01_answers_holds.heap_1 w.params) mg "best_x" My.s_best_x := by
      refine' My.defAt_mk KX G ?a ?l ?c ?k
      (case a => k_is); (case l => k_is); (case c => k_is); (case k => k_is)
    have d_most_of : My.DefAt (PySem.Challenge.cw_faircosts_s01_answers_holds.heap_1 w.params) mg "most_of" My.s_most_of := by
      refine' My.defAt_mk KX G ?a ?l ?c ?k
      (case a => k_is); (case l => k_is); (case c => k_is); (case k => k_is)
    have d_part_of : My.DefAt (PySem.Challenge.cw_faircosts_s01_answers_holds.heap_1 w.params) mg "part_of" My.s_part_of := by
      refine' My.defAt_mk KX G ?a ?l ?c ?k
      (case a => k_is); (case l => k_is); (case c => k_is); (case k => k_is)
    have d_freely_chosen : My.DefAt (PySem.Challenge.cw_faircosts_s01_answers_holds.heap_1 w.params) mg "freely_chosen" My.s_freely_chosen := by
      refine' My.defAt_mk KX G ?a ?l ?c ?k
      (case a => k_is); (case l => k_is); (case c => k_is); (case k => k_is)
    have d_share_of_most : My.DefAt (PySem.Challenge.cw_faircosts_s01_answers_holds.heap_1 w.params) mg "share_of_most" My.s_share_of_most := by
      refine' My.defAt_mk KX G ?a ?l ?c ?k
      (case a => k_is); (case l => k_is); (case c => k_is); (case k => k_is)
    have d_chances_reaching : My.DefAt (PySem.Challenge.cw_faircosts_s01_answers_holds.heap_1 w.params) mg "chances_reaching" My.s_chances_reaching := by
      refine' My.defAt_mk KX G ?a ?l ?c ?k
      (case a => k_is); (case l => k_is); (case c => k_is); (case k => k_is)
    have d_rules_of : My.DefAt (PySem.Challenge.cw_faircosts_s01_answers_holds.heap_1 w.params) mg "rules_of" My.s_rules_of := by
      refine' My.defAt_mk KX G ?a ?l ?c ?k
      (case a => k_is); (case l => k_is); (case c => k_is); (case k => k_is)
    have d_alike : My.DefAt (PySem.Challenge.cw_faircosts_s01_answers_holds.heap_1 w.params) mg "alike" My.s_alike := by
      refine' My.defAt_mk KX G ?a ?l ?c ?k
      (case a => k_is); (case l => k_is); (case c => k_is); (case k => k_is)
    have d_met : My.DefAt (PySem.Challenge.cw_faircosts_s01_answers_holds.heap_1 w.params) mg "met" My.s_met := by
      refine' My.defAt_mk KX G ?a ?l ?c ?k
      (case a => k_is); (case l => k_is); (case c => k_is); (case k => k_is)
    have d_no_group : My.DefAt (PySem.Challenge.cw_faircosts_s01_answers_holds.heap_1 w.params) mg "no_group" My.s_no_group := by
      refine' My.defAt_mk KX G ?a ?l ?c ?k
      (case a => k_is); (case l => k_is); (case c => k_is); (case k => k_is)
    have d_no_cell : My.DefAt (PySem.Challenge.cw_faircosts_s01_answers_holds.heap_1 w.params) mg "no_cell" My.s_no_cell := by
      refine' My.defAt_mk KX G ?a ?l ?c ?k
      (case a => k_is); (case l => k_is); (case c => k_is); (case k => k_is)
    have d_no_kind : My.DefAt (PySem.Challenge.cw_faircosts_s01_answers_holds.heap_1 w.params) mg "no_kind" My.s_no_kind := by
      refine' My.defAt_mk KX G ?a ?l ?c ?k
      (case a => k_is); (case l => k_is); (case c => k_is); (case k => k_is)
    have d_no_pays : My.DefAt (PySem.Challenge.cw_faircosts_s01_answers_holds.heap_1 w.params) mg "no_pays" My.s_no_pays := by
      refine' My.defAt_mk KX G ?a ?l ?c ?k
      (case a => k_is); (case l => k_is); (case c => k_is); (case k => k_is)
    have d_no_lower : My.DefAt (PySem.Challenge.cw_faircosts_s01_answers_holds.heap_1 w.params) mg "no_lower" My.s_no_lower := by
      refine' My.defAt_mk KX G ?a ?l ?c ?k
      (case a => k_is); (case l => k_is); (case c => k_is); (case k => k_is)
    have d_told : My.DefAt (PySem.Challenge.cw_faircosts_s01_answers_holds.heap_1 w.params) mg "told" My.s_told := by
      refine' My.defAt_mk KX G ?a ?l ?c ?k
      (case a => k_is); (case l => k_is); (case c => k_is); (case k => k_is)
    have d_row_of : My.DefAt (PySem.Challenge.cw_faircosts_s01_answers_holds.heap_1 w.params) mg "row_of" My.s_row_of := by
      refine' My.defAt_mk KX G ?a ?l ?c ?k
      (case a => k_is); (case l => k_is); (case c => k_is); (case k => k_is)
    have d_begin : My.DefAt (PySem.Challenge.cw_faircosts_s01_answers_holds.heap_1 w.params) mg "begin" My.s_begin := by
      refine' My.defAt_mk KX G ?a ?l ?c ?k
      (case a => k_is); (case l => k_is); (case c => k_is); (case k => k_is)
    have d_count : My.DefAt (PySem.Challenge.cw_faircosts_s01_answers_holds.heap_1 w.params) mg "count" My.s_count := by
      refine' My.defAt_mk KX G ?a ?l ?c ?k
      (case a => k_is); (case l => k_is); (case c => k_is); (case k => k_is)
    have d_cell : My.DefAt (PySem.Challenge.cw_faircosts_s01_answers_holds.heap_1 w.params) mg "cell" My.s_cell := by
      refine' My.defAt_mk KX G ?a ?l ?c ?k
      (case a => k_is); (case l => k_is); (case c => k_is); (case k => k_is)
    have d_pays : My.DefAt (PySem.Challenge.cw_faircosts_s01_answers_holds.heap_1 w.params) mg "pays" My.s_pays := by
      refine' My.defAt_mk KX G ?a ?l ?c ?k
      (case a => k_is); (case l => k_is); (case c => k_is); (case k => k_is)
    have d_right_row : My.DefAt (PySem.Challenge.cw_faircosts_s01_answers_holds.heap_1 w.params) mg "right_row" My.s_right_row := by
      refine' My.defAt_mk KX G ?a ?l ?c ?k
      (case a => k_is); (case l => k_is); (case c => k_is); (case k => k_is)
    have d_chances : My.DefAt (PySem.Challenge.cw_faircosts_s01_answers_holds.heap_1 w.params) mg "chances" My.s_chances := by
      refine' My.defAt_mk KX G ?a ?l ?c ?k
      (case a => k_is); (case l => k_is); (case c => k_is); (case k => k_is)
    have d_gains : My.DefAt (PySem.Challenge.cw_faircosts_s01_answers_holds.heap_1 w.params) mg "gains" My.s_gains := by
      refine' My.defAt_mk KX G ?a ?l ?c ?k
      (case a => k_is); (case l => k_is); (case c => k_is); (case k => k_is)
    have d_picked : My.DefAt (PySem.Challenge.cw_faircosts_s01_answers_holds.heap_1 w.params) mg "picked" My.s_picked := by
      refine' My.defAt_mk KX G ?a ?l ?c ?k
      (case a => k_is); (case l => k_is); (case c => k_is); (case k => k_is)
    have d_refusal : My.DefAt (PySem.Challenge.cw_faircosts_s01_answers_holds.heap_1 w.params) mg "refusal" My.s_refusal := by
      refine' My.defAt_mk KX G ?a ?l ?c ?k
      (case a => k_is); (case l => k_is); (case c => k_is); (case k => k_is)
    have d_most : My.DefAt (PySem.Challenge.cw_faircosts_s01_answers_holds.heap_1 w.params) mg "most" My.s_most := by
      refine' My.defAt_mk KX G ?a ?l ?c ?k
      (case a => k_is); (case l => k_is); (case c => k_is); (case k => k_is)
    have d_part : My.DefAt (PySem.Challenge.cw_faircosts_s01_answers_holds.heap_1 w.params) mg "part" My.s_part := by
      refine' My.defAt_mk KX G ?a ?l ?c ?k
      (case a => k_is); (case l => k_is); (case c => k_is); (case k => k_is)
    have d_costs : My.DefAt (PySem.Challenge.cw_faircosts_s01_answers_holds.heap_1 w.params) mg "costs" My.s_costs := by
      refine' My.defAt_mk KX G ?a ?l ?c ?k
      (case a => k_is); (case l => k_is); (case c => k_is); (case k => k_is)
    have d_rule : My.DefAt (PySem.Challenge.cw_faircosts_s01_answers_holds.heap_1 w.params) mg "rule" My.s_rule := by
      refine' My.defAt_mk KX G ?a ?l ?c ?k
      (case a => k_is); (case l => k_is); (case c => k_is); (case k => k_is)
    have d_take : My.DefAt (PySem.Challenge.cw_faircosts_s01_answers_holds.heap_1 w.params) mg "take" My.s_take := by
      refine' My.defAt_mk KX G ?a ?l ?c ?k
      (case a => k_is); (case l => k_is); (case c => k_is); (case k => k_is)
    have d_meets : My.DefAt (PySem.Challenge.cw_faircosts_s01_answers_holds.heap_1 w.params) mg "meets" My.s_meets := by
      refine' My.defAt_mk KX G ?a ?l ?c ?k
      (case a => k_is); (case l => k_is); (case c => k_is); (case k => k_is)
    have d_gained_for : My.DefAt (PySem.Challenge.cw_faircosts_s01_answers_holds.heap_1 w.params) mg "gained_for" My.s_gained_for := by
      refine' My.defAt_mk KX G ?a ?l ?c ?k
      (case a => k_is); (case l => k_is); (case c => k_is); (case k => k_is)
    have d_forpart : My.DefAt (PySem.Challenge.cw_faircosts_s01_answers_holds.heap_1 w.params) mg "forpart" My.s_forpart := by
      refine' My.defAt_mk KX G ?a ?l ?c ?k
      (case a => k_is); (case l => k_is); (case c => k_is); (case k => k_is)
    have d_forhits : My.DefAt (PySem.Challenge.cw_faircosts_s01_answers_holds.heap_1 w.params) mg "forhits" My.s_forhits := by
      refine' My.defAt_mk KX G ?a ?l ?c ?k
      (case a => k_is); (case l => k_is); (case c => k_is); (case k => k_is)
    have d_ifpays : My.DefAt (PySem.Challenge.cw_faircosts_s01_answers_holds.heap_1 w.params) mg "ifpays" My.s_ifpays := by
      refine' My.defAt_mk KX G ?a ?l ?c ?k
      (case a => k_is); (case l => k_is); (case c => k_is); (case k => k_is)
    have d_state : My.DefAt (PySem.Challenge.cw_faircosts_s01_answers_holds.heap_1 w.params) mg "state" My.s_state := by
      refine' My.defAt_mk KX G ?a ?l ?c ?k
      (case a => k_is); (case l => k_is); (case c => k_is); (case k => k_is)
    have d_answer : My.DefAt (PySem.Challenge.cw_faircosts_s01_answers_holds.heap_1 w.params) mg "answer" My.s_answer := by
      refine' My.defAt_mk KX G ?a ?l ?c ?k
      (case a => k_is); (case l => k_is); (case c => k_is); (case k => k_is)
    have d_end_of : My.DefAt (PySem.Challenge.cw_faircosts_s01_answers_holds.heap_1 w.params) mg "end_of" My.s_end_of := by
      refine' My.defAt_mk KX G ?a ?l ?c ?k
      (case a => k_is); (case l => k_is); (case c => k_is); (case k => k_is)
    have d_answers : My.DefAt (PySem.Challenge.cw_faircosts_s01_answers_holds.heap_1 w.params) mg "answers" My.s_answers := by
      refine' My.defAt_mk KX G ?a ?l ?c ?k
      (case a => k_is); (case l => k_is); (case c => k_is); (case k => k_is)
    have t_CALLS : ∃ fs, My.CallsT (PySem.Challenge.cw_faircosts_s01_answers_holds.heap_1 w.params) mg fs := by
      refine' My.callsAt_mk KX G ?a ?a0 ?a1 ?a2 ?a3 ?a4 ?a5 ?a6 ?a7 ?a8 ?a9 ?a10 ?a11 ?a12 ?a13 ?a14 ?a15 ?a16 ?l
      (case a => k_is)
      (case a0 => k_is)
      (case a1 => k_is)
      (case a2 => k_is)
      (case a3 => k_is)
      (case a4 => k_is)
      (case a5 => k_is)
      (case a6 => k_is)
      (case a7 => k_is)
      (case a8 => k_is)
      (case a9 => k_is)
      (case a10 => k_is)
      (case a11 => k_is)
      (case a12 => k_is)
      (case a13 => k_is)
      (case a14 => k_is)
      (case a15 => k_is)
      (case a16 => k_is)
      (case l => k_is)
    obtain ⟨fs, hCalls⟩ := t_CALLS
    refine' My.end_cls KX G hmg d_answers ⟨b_len, b_abs, b_sum, b_range, b_zip, b_sorted, b_set, b_all⟩ ⟨i_BEGIN, i_NO_SUCH, i_NOT_BEGUN, i_NOT_RIGHT, i_LACKING, i_MOST_SCORES, i_MOST_PEOPLE, i_MOST_PAY, i_MOST_LOWER⟩ ⟨i_FREELY, i_SAME_PART, i_SAME_RIGHT, i_SAME_BOTH⟩ ⟨t_ZERO, t_ONE⟩ ⟨i_CHANCES, t_WHOLE_NUMBERS⟩ hCalls (fun C a1 a2 a3 a4 => ⟨d_common, d_ratio, d_whole, d_plus, d_minus, d_times, d_divided, d_unsigned, d_less, d_weighed, d_mean, d_so_of, d_others_of, d_sizes_of, d_gains_of, d_somebody_lacks, d_place_in, d_steepest_first, d_order_for, d_runs_for, d_taken, d_chances_for, d_fewest_for, d_stops_for, d_marks_for, d_most_right, d_right_in_both, d_lead, d_crossings, d_candidates, d_worth, d_gained, d_gained_at, d_gained_freely, d_best_x, d_most_of, d_part_of, d_freely_chosen, d_share_of_most, d_chances_reaching, d_rules_of, d_alike, d_met, d_no_group, d_no_cell, d_no_kind, d_no_pays, d_no_lower, d_told, d_row_of, d_begin, d_count, d_cell, d_pays, d_right_row, d_chances, d_gains, d_picked, d_refusal, d_most, d_part, d_costs, d_rule, d_take, d_meets, d_gained_for, d_forpart, d_forhits, d_ifpays, d_state, d_answer, d_end_of, a1, a2, a3, a4⟩) ?aC ?x1 ?x2 ?x3 ?x4 ?x5 ?y1 ?y2 ?y3 ?y4 ?y5 ?pg ?hd ?po ?sa ?mk ?kc ?nS ?nG ?nC ?nP
    (case aC => k_is)
    (case x1 => k_is)
    (case x2 => k_is)
    (case x3 => k_is)
    (case x4 => k_is)
    (case x5 => k_is)
    (case y1 => k_is)
    (case y2 => k_is)
    (case y3 => k_is)
    (case y4 => k_is)
    (case y5 => k_is)
    (case pg => k_is)
    (case hd => k_is)
    (case po => k_is)
    (case sa => k_is)
    (case mk => k_is)
    (case kc => k_is)
    (case nS => k_is)
    (case nG => k_is)
    (case nC => k_is)
    (case nP => k_is)
  case S =>
    intro K H xs a hO hwi hask hx
    cases hx with
    | cons h1 h2 =>
      cases h2
      cases h1 with
      | lst hs ha =>
        have e := L2.ints_dw a.1 _ ha
        subst e
        have q : ((Codec.inLen 0 10360 a.1 && a.1.all (Codec.inInt 0 4294967295)) && true) = true := hwi
        rw [Bool.and_eq_true, Bool.and_eq_true] at q
        refine ⟨_, a.1, rfl, hs, (Codec.inNat_iff.mp q.1.1).2, fun x hx => My.in_int (List.all_eq_true.mp q.1.2 x hx), hask, fun H' p hp => .lst (L2.SqL.of hp) (L2.dw_ints _)⟩
#print axioms PySem.Challenge.cw_faircosts_s01_answers_holds
