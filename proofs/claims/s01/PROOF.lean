import PyProof.Rows.All
import Wide.All
import OpenK.AllK
import Wide.FinOn
import Open.SpecLaws
import KE.OsGo
import HandS.ForSpec
import HandS.ForMost
import HandS.Conv
import HandS.Zip
import HandS.TupAny
import HandS.Lambda
import KE.GoesMore
import KE.GoesZip
import KE.GoesEnum
import HandS.Nested
import HandS.More
import HandS.TupSets
import HandS.Spec
import HandS.Words
import PySem.Challenge.RW_fewchanges_s01_answers
section
set_option autoImplicit false
/-! Fractions and figures: what the program reckons with whole numbers is what the specification says -/
namespace Fc
open Kqz1 (Frac Figure)
def dec (n : Int) : Figure := if n = 0 then .turn else .twist n
theorem code_dec (n : Int) : Kqz6.code (dec n) = n := by
  unfold dec
  split
  · rename_i h; rw [h]; rfl
  · rfl
theorem dec_zero : dec 0 = .turn := rfl
theorem dec_ne {n : Int} (h : n ≠ 0) : dec n = .twist n := if_neg h
def chg (n k : Int) : Int := if n < 0 then n + 2 * k else n - 2 * k
def iabs (n : Int) : Int := if n < 0 then -n else n
theorem iabs_nat (n : Int) : iabs n = (n.natAbs : Int) := by
  unfold iabs
  split <;> omega
def turnX (f : Frac) : Frac := if f.p = 0 then ⟨1, 0⟩ else if f.p < 0 then ⟨f.q, (-f.p).toNat⟩ else ⟨-(f.q : Int), f.p.toNat⟩
def tw (f : Frac) (n k : Int) : Frac := if n = 0 then turnX f else ⟨f.p + chg n k * (f.q : Int), f.q⟩
def Good (f : Frac) : Prop := Int.gcd f.p (f.q : Int) = 1
theorem good_flat : Good ⟨0, 1⟩ := rfl
theorem turnX_good {f : Frac} (g : Good f) : Good (turnX f) := by
  unfold Good at g
  unfold turnX
  by_cases h0 : f.p = 0
  · rw [if_pos h0]; rfl
  · rw [if_neg h0]
    by_cases h1 : f.p < 0
    · rw [if_pos h1]
      show Int.gcd (f.q : Int) (((-f.p).toNat : Nat) : Int) = 1
      rw [Int.toNat_of_nonneg (by omega), Int.gcd_neg, Int.gcd_comm]
      exact g
    · rw [if_neg h1]
      show Int.gcd (-(f.q : Int)) ((f.p.toNat : Nat) : Int) = 1
      rw [Int.toNat_of_nonneg (by omega), Int.neg_gcd, Int.gcd_comm]
      exact g
theorem turnX_is {f : Frac} (g : Good f) : Kqz1.turned f = turnX f := by
  unfold Good at g
  unfold Kqz1.turned turnX
  by_cases h0 : f.p = 0
  · rw [if_pos h0, if_pos h0]
  · rw [if_neg h0, if_neg h0]
    have e : Int.gcd (-(f.q : Int)) f.p = 1 := by rw [Int.neg_gcd, Int.gcd_comm]; exact g
    unfold Kqz1.lowest
    simp only [e]
    rw [if_neg (by decide), if_neg h0]
    by_cases h1 : f.p < 0
    · rw [if_pos h1, if_pos h1]
      simp
    · rw [if_neg h1, if_neg h1]
      simp
theorem tw_good {f : Frac} (g : Good f) (n k : Int) : Good (tw f n k) := by
  unfold tw
  split
  · exact turnX_good g
  · unfold Good at g ⊢
    show Int.gcd (f.p + chg n k * (f.q : Int)) (f.q : Int) = 1
    rw [Int.gcd_add_mul_right_left]
    exact g
theorem changed_dec {n : Int} (h : n ≠ 0) (k : Nat) : Kqz6.changed (dec n) k = .twist (chg n k) := by
  rw [dec_ne h]
  show Figure.twist (if 0 < n then n - 2 * (k : Int) else n + 2 * (k : Int)) = _
  unfold chg
  congr 1
  split <;> split <;> omega
theorem tw_is {f : Frac} (g : Good f) (n : Int) (k : Nat) : Kqz1.after f (Kqz6.changed (dec n) k) = tw f n k := by
  by_cases h : n = 0
  · subst h
    show Kqz1.turned f = _
    rw [turnX_is g]
    rfl
  · rw [changed_dec h]
    show Kqz1.more f (chg n k) = _
    unfold tw Kqz1.more
    rw [if_neg h]
theorem chg_zero (n : Int) : chg n 0 = n := by
  unfold chg
  split <;> omega
theorem changed_zero (x : Figure) : Kqz6.changed x 0 = x := by
  cases x with
  | turn => rfl
  | twist n =>
    show Figure.twist (if 0 < n then n - 2 * ((0 : Nat) : Int) else n + 2 * ((0 : Nat) : Int)) = _
    congr 1
    split <;> omega
theorem tw_is0 {f : Frac} (g : Good f) (n : Int) : Kqz1.after f (dec n) = tw f n 0 := by
  have e := tw_is g n 0
  rw [changed_zero] at e
  exact e
/-! ### equality as the specification tests it -/
theorem fig_ne {x y : Figure} (h : x ≠ y) : (x != y) = true := by
  have e : (x == y) = false := by
    cases x with
    | turn =>
      cases y with
      | turn => exact absurd rfl h
      | twist m => rfl
    | twist n =>
      cases y with
      | turn => rfl
      | twist m =>
        show (n == m) = false
        exact beq_eq_false_iff_ne.mpr fun q => h (by rw [q])
  unfold bne
  rw [e]
  rfl
theorem fig_self (n : Int) : (Figure.twist n != .twist n) = false := by
  unfold bne
  have e : (Figure.twist n == .twist n) = true := by
    show (n == n) = true
    exact beq_self_eq_true n
  rw [e]
  rfl
theorem frac_beq (f g : Frac) : (f == g) = decide (f = g) := by
  obtain ⟨a, b⟩ := f
  obtain ⟨c, d⟩ := g
  show (a == c && b == d) = decide ((⟨a, b⟩ : Frac) = ⟨c, d⟩)
  rw [Bool.eq_iff_iff]
  simp
instance : LawfulBEq Frac where
  rfl := fun {a} => by rw [frac_beq]; simp
  eq_of_beq := fun {a b} h => by rw [frac_beq] at h; exact of_decide_eq_true h
theorem ring_beq (f g : Kqz3.Ring) : (f == g) = decide (f = g) := by
  obtain ⟨a, b⟩ := f
  obtain ⟨c, d⟩ := g
  show (a == c && b == d) = decide ((⟨a, b⟩ : Kqz3.Ring) = ⟨c, d⟩)
  rw [Bool.eq_iff_iff]
  simp
instance : LawfulBEq Kqz3.Ring where
  rfl := fun {a} => by rw [ring_beq]; simp
  eq_of_beq := fun {a b} h => by rw [ring_beq] at h; exact of_decide_eq_true h
/-- what a row comes to -/
def runX (f : Frac) (ns : List Int) : Frac := ns.foldl (fun f n => tw f n 0) f
def fracOf (ns : List Int) : Frac := runX ⟨0, 1⟩ ns
theorem runX_good : ∀ (ns : List Int) (f : Frac), Good f → Good (runX f ns)
  | [], _, g => g
  | n :: r, _, g => runX_good r _ (tw_good g n 0)
theorem fracOf_good (ns : List Int) : Good (fracOf ns) := runX_good ns _ good_flat
theorem runX_is : ∀ (ns : List Int) (f : Frac), Good f → (ns.map dec).foldl Kqz1.after f = runX f ns
  | [], _, _ => rfl
  | n :: r, f, g => by
    show (r.map dec).foldl Kqz1.after (Kqz1.after f (dec n)) = runX (tw f n 0) r
    rw [tw_is0 g, runX_is r _ (tw_good g n 0)]
theorem comes_is (ns : List Int) : Kqz1.comes (ns.map dec) = fracOf ns := runX_is ns _ good_flat
/-! ### sizes -/
def wt (f : Frac) : Nat := f.p.natAbs + 3 * f.q
theorem turnX_wt (f : Frac) : wt (turnX f) ≤ 3 * wt f + (if f.p = 0 ∧ f.q = 0 then 1 else 0) := by
  unfold turnX wt
  split
  · rename_i h
    show 1 + 3 * 0 ≤ _
    rw [h]
    by_cases hq : f.q = 0
    · rw [if_pos ⟨rfl, hq⟩]; omega
    · show _ ≤ 3 * (Int.natAbs 0 + 3 * f.q) + _
      omega
  · split
    · show (f.q : Int).natAbs + 3 * (-f.p).toNat ≤ _
      omega
    · show (-(f.q : Int)).natAbs + 3 * f.p.toNat ≤ _
      omega
theorem good_nz {f : Frac} (g : Good f) : ¬ (f.p = 0 ∧ f.q = 0) := fun h => by
  unfold Good at g
  rw [h.1, h.2] at g
  exact absurd g (by decide)
theorem natAbs_mul_le {a : Int} {b m : Nat} (h : a.natAbs ≤ m) : (a * (b : Int)).natAbs ≤ m * b := by
  rw [Int.natAbs_mul]
  exact Nat.mul_le_mul h (Nat.le_of_eq (Int.natAbs_natCast b))
theorem tw_wt {f : Frac} (g : Good f) {n k : Int} (h : n ≠ 0 → (chg n k).natAbs ≤ 6) : wt (tw f n k) ≤ 3 * wt f := by
  unfold tw
  split
  · have := turnX_wt f
    rw [if_neg (good_nz g)] at this
    omega
  · rename_i hn
    unfold wt
    have e := natAbs_mul_le (b := f.q) (h hn)
    show (f.p + chg n k * (f.q : Int)).natAbs + 3 * f.q ≤ _
    have t := Int.natAbs_add_le f.p (chg n k * (f.q : Int))
    omega
/-! ### a row of figures as the desk has it -/
structure OkNs (ns : List Int) : Prop where
  len : ns.length ≤ 10
  six : ∀ n ∈ ns, n.natAbs ≤ 6
theorem chg_six {n k : Int} (h : n.natAbs ≤ 6) (h0 : 0 ≤ k) (h1 : k ≤ n.natAbs) : (chg n k).natAbs ≤ 6 := by
  unfold chg
  split <;> omega
theorem runX_wt : ∀ (ns : List Int) (f : Frac), Good f → (∀ n ∈ ns, n.natAbs ≤ 6) → wt (runX f ns) ≤ 3 ^ ns.length * wt f
  | [], f, _, _ => by
    show wt f ≤ 3 ^ 0 * wt f
    omega
  | n :: r, f, g, h => by
    have ih := runX_wt r (tw f n 0) (tw_good g n 0) fun x hx => h x (List.mem_cons_of_mem _ hx)
    have s := tw_wt g (n := n) (k := 0) fun _ => by rw [chg_zero]; exact h n List.mem_cons_self
    show wt (runX (tw f n 0) r) ≤ 3 ^ (r.length + 1) * wt f
    rw [Nat.pow_succ]
    have m := Nat.mul_le_mul_left (3 ^ r.length) s
    have e : 3 ^ r.length * (3 * wt f) = 3 ^ r.length * 3 * wt f := by rw [Nat.mul_assoc]
    omega
theorem pow_le10 {n : Nat} (h : n ≤ 10) : 3 ^ n ≤ 59049 := by
  have := Nat.pow_le_pow_right (show 0 < 3 by decide) h
  exact Nat.le_trans this (by decide)
theorem fracOf_wt {ns : List Int} (o : OkNs ns) : wt (fracOf ns) ≤ 177147 := by
  have h := runX_wt ns ⟨0, 1⟩ good_flat o.six
  have p := pow_le10 o.len
  have e : wt ⟨0, 1⟩ = 3 := rfl
  rw [e] at h
  unfold fracOf
  omega
/-! ### half twists -/
def cross (ns : List Int) : Int := (ns.map iabs).sum
def crossN (ns : List Int) : Nat := (ns.map Int.natAbs).sum
theorem cross_nat : ∀ ns : List Int, cross ns = (crossN ns : Int)
  | [] => rfl
  | n :: r => by
    show (iabs n :: r.map iabs).sum = (((n.natAbs :: r.map Int.natAbs).sum : Nat) : Int)
    rw [List.sum_cons, List.sum_cons, iabs_nat]
    have e : (r.map iabs).sum = ((r.map Int.natAbs).sum : Int) := cross_nat r
    rw [e]
    omega
theorem room_dec (n : Int) : Kqz6.room (dec n) = n.natAbs := by
  by_cases h : n = 0
  · subst h; rfl
  · rw [dec_ne h]; rfl
theorem foldl_sum : ∀ (l : List Nat) (a : Nat), l.foldl (fun a b => a + b) a = a + l.sum
  | [], a => by simp
  | x :: r, a => by
    show r.foldl (fun a b => a + b) (a + x) = _
    rw [foldl_sum r, List.sum_cons]
    omega
theorem twists_is (ns : List Int) : Kqz1.twists (ns.map dec) = crossN ns := by
  unfold Kqz1.twists
  rw [foldl_sum, Nat.zero_add, List.map_map]
  unfold crossN
  congr 1
  apply List.map_congr_left
  intro n _
  show (match dec n with | .twist n => n.natAbs | .turn => 0) = n.natAbs
  by_cases h : n = 0
  · subst h; rfl
  · rw [dec_ne h]
theorem cross_is (ns : List Int) : cross ns = (Kqz1.twists (ns.map dec) : Int) := by rw [cross_nat, twists_is]
/-! ### a changed row -/
def rowStep (n k : Int) : List Int := if n = 0 then [0] else if chg n k = 0 then [] else [chg n k]
def changedRow : List Int → List Int → List Int
  | n :: ns, k :: ks => rowStep n k ++ changedRow ns ks
  | _, _ => []
theorem row_is : ∀ (ns : List Int) (ks : List Nat), (changedRow ns (ks.map fun (k : Nat) => (k : Int))).map dec = Kqz6.settle (Kqz6.made (ns.map dec) ks)
  | [], _ => by
    unfold Kqz6.made
    simp [changedRow, Kqz6.settle]
  | n :: r, [] => by
    unfold Kqz6.made
    simp [changedRow, Kqz6.settle]
  | n :: r, k :: ks => by
    have ih := row_is r ks
    show (rowStep n k ++ changedRow r (ks.map fun (k : Nat) => (k : Int))).map dec = Kqz6.settle (Kqz6.changed (dec n) k :: Kqz6.made (r.map dec) ks)
    rw [List.map_append, ih]
    unfold rowStep Kqz6.settle
    by_cases h : n = 0
    · subst h
      rw [if_pos rfl]
      show [dec 0] ++ _ = List.filter _ (Figure.turn :: _)
      rw [List.filter_cons]
      rfl
    · rw [if_neg h, changed_dec h, List.filter_cons]
      by_cases hc : chg n k = 0
      · rw [if_pos hc, hc]
        rfl
      · rw [if_neg hc]
        have e : ((Figure.twist (chg n k)) != .twist 0) = true := by
          have : (Figure.twist (chg n k)) ≠ .twist 0 := fun q => hc (by injection q)
          exact fig_ne this
        rw [e, if_pos rfl]
        show [dec (chg n k)] ++ _ = _
        rw [dec_ne hc]
        rfl
theorem row_len : ∀ (ns ks : List Int), (changedRow ns ks).length ≤ ns.length
  | [], _ => by simp [changedRow]
  | _ :: _, [] => by simp [changedRow]
  | n :: r, k :: ks => by
    have ih := row_len r ks
    show (rowStep n k ++ changedRow r ks).length ≤ r.length + 1
    rw [List.length_append]
    have : (rowStep n k).length ≤ 1 := by
      unfold rowStep
      split
      · simp
      · split <;> simp
    omega
/-- a way's numbers fit a row -/
def Fits : List Int → List Nat → Prop
  | [], [] => True
  | n :: ns, k :: ks => k ≤ n.natAbs ∧ Fits ns ks
  | _, _ => False
theorem Fits.len : ∀ {ns : List Int} {ks : List Nat}, Fits ns ks → ns.length = ks.length
  | [], [], _ => rfl
  | [], _ :: _, h => h.elim
  | _ :: _, [], h => h.elim
  | _ :: _, _ :: _, h => congrArg (· + 1) (Fits.len h.2)
theorem row_six : ∀ {ns : List Int} {ks : List Nat}, Fits ns ks → (∀ n ∈ ns, n.natAbs ≤ 6) → ∀ m ∈ changedRow ns (ks.map fun (k : Nat) => (k : Int)), m.natAbs ≤ 6
  | [], [], _, _ => by simp [changedRow]
  | [], _ :: _, h, _ => h.elim
  | _ :: _, [], h, _ => h.elim
  | n :: r, k :: ks, h, s => by
    intro m hm
    have hm : m ∈ rowStep n k ++ changedRow r (ks.map fun (k : Nat) => (k : Int)) := hm
    rcases List.mem_append.mp hm with q | q
    · unfold rowStep at q
      split at q
      · simp at q; subst q; decide
      · split at q
        · simp at q
        · simp at q
          subst q
          exact chg_six (s n List.mem_cons_self) (by omega) (by have := h.1; omega)
    · exact row_six h.2 (fun x hx => s x (List.mem_cons_of_mem _ hx)) m q
theorem more_zero (f : Frac) : Kqz1.after f (.twist 0) = f := by
  show Kqz1.more f 0 = f
  unfold Kqz1.more
  cases f
  simp
theorem settle_run : ∀ (l : List Figure) (f : Frac), (Kqz6.settle l).foldl Kqz1.after f = l.foldl Kqz1.after f
  | [], _ => rfl
  | x :: r, f => by
    unfold Kqz6.settle
    rw [List.filter_cons]
    by_cases h : x = .twist 0
    · subst h
      rw [fig_self, if_neg Bool.false_ne_true]
      show (Kqz6.settle r).foldl Kqz1.after f = r.foldl Kqz1.after (Kqz1.after f (.twist 0))
      rw [settle_run r, more_zero]
    · rw [fig_ne h, if_pos rfl]
      show (Kqz6.settle r).foldl Kqz1.after (Kqz1.after f x) = r.foldl Kqz1.after (Kqz1.after f x)
      rw [settle_run r]
theorem comes_settle (l : List Figure) : Kqz1.comes (Kqz6.settle l) = Kqz1.comes l := settle_run l _
/-- one figure changed -/
def oneWay (len i k : Nat) : List Nat := (List.replicate len 0).set i k
theorem made_zero : ∀ (l : List Figure), Kqz6.made l (List.replicate l.length 0) = l
  | [] => rfl
  | x :: r => by
    show Kqz6.changed x 0 :: Kqz6.made r (List.replicate r.length 0) = x :: r
    rw [changed_zero, made_zero r]
theorem made_one : ∀ (l : List Figure) (i k : Nat) (x : Figure), l[i]? = some x → Kqz6.made l (oneWay l.length i k) = l.set i (Kqz6.changed x k)
  | [], _, _, _, h => by simp at h
  | y :: r, 0, k, x, h => by
    have e : y = x := by simpa using h
    subst e
    show Kqz6.changed y k :: Kqz6.made r (List.replicate r.length 0) = _
    rw [made_zero]
    rfl
  | y :: r, i + 1, k, x, h => by
    have ih := made_one r i k x (by simpa using h)
    show Kqz6.changed y 0 :: Kqz6.made r (oneWay r.length i k) = y :: r.set i (Kqz6.changed x k)
    rw [changed_zero, ih]
theorem fits_zero : ∀ (ns : List Int), Fits ns (List.replicate ns.length 0)
  | [] => trivial
  | _ :: r => ⟨Nat.zero_le _, fits_zero r⟩
theorem fits_one : ∀ (ns : List Int) (i k : Nat) (n : Int), ns[i]? = some n → k ≤ n.natAbs → Fits ns (oneWay ns.length i k)
  | [], _, _, _, h, _ => by simp at h
  | m :: r, 0, k, n, h, hk => by
    have e : m = n := by simpa using h
    subst e
    exact ⟨hk, fits_zero r⟩
  | m :: r, i + 1, k, n, h, hk => ⟨Nat.zero_le _, fits_one r i k n (by simpa using h) hk⟩
end Fc
end
section
set_option autoImplicit false
/-! Ways -/
namespace Fc
open Kqz1 (Frac Figure)
/-- a begun way: its numbers, its fraction, the changes that are left -/
abbrev Begun := List Int × Frac × Int
/-- from most down to low, of each the next figure's way -/
def downF (n : Int) (w : List Int) (f : Frac) (left : Int) (low : Int) : Nat → List Begun
  | 0 => []
  | i + 1 => (w ++ [low + i], tw f n (low + i), left - (low + i)) :: downF n w f left low i
def lowOf (left rest : Int) : Int := if left - rest > 0 then left - rest else 0
def mostOf (n left : Int) : Int := if left < iabs n then left else iabs n
def longOne (n rest : Int) (b : Begun) : List Begun := downF n b.1 b.2.1 b.2.2 (lowOf b.2.2 rest) (mostOf n b.2.2 - lowOf b.2.2 rest + 1).toNat
def longer (bs : List Begun) (n rest : Int) : List Begun := bs.flatMap (longOne n rest)
def goOn : List Int → Int → List Begun → List Begun
  | [], _, bs => bs
  | n :: r, rest, bs => goOn r (rest - iabs n) (longer bs n (rest - iabs n))
def waysX (ns : List Int) (t : Int) : List (List Int × Frac) := if t > cross ns then [] else (goOn ns (cross ns) [([], ⟨0, 1⟩, t)]).map fun b => (b.1, b.2.1)
/-! ### the specification's ways, from a fraction on -/
abbrev up (w : List Nat) : List Int := w.map fun (k : Nat) => (k : Int)
def goodB (b : Begun) (rest : Nat) : Prop := Good b.2.1 ∧ 0 ≤ b.2.2 ∧ b.2.2 ≤ (rest : Int)
theorem which_none : ∀ (ns : List Int) (t : Nat), crossN ns < t → Kqz6.which (ns.map dec) t = []
  | [], t, h => by
    have : t ≠ 0 := by unfold crossN at h; simp at h; omega
    show (if t = 0 then [[]] else []) = []
    rw [if_neg this]
  | n :: r, t, h => by
    show ((List.range (min (Kqz6.room (dec n)) t + 1)).reverse).flatMap (fun k => (Kqz6.which (r.map dec) (t - k)).map fun w => k :: w) = []
    rw [List.flatMap_eq_nil_iff]
    intro k hk
    rw [List.mem_reverse, List.mem_range, room_dec] at hk
    have e : crossN (n :: r) = n.natAbs + crossN r := by unfold crossN; simp
    rw [which_none r (t - k) (by omega)]
    rfl
/-- all that comes of a begun way by the figures that are left -/
def ends (ns : List Int) (b : Begun) : List Begun := (Kqz6.which (ns.map dec) b.2.2.toNat).map fun w => (b.1 ++ up w, (Kqz6.made (ns.map dec) w).foldl Kqz1.after b.2.1, 0)
theorem ends_nil {b : Begun} (h0 : b.2.2 = 0) : ends [] b = [b] := by
  obtain ⟨w, f, l⟩ := b
  have h0 : l = 0 := h0
  subst h0
  show (if (0 : Int).toNat = 0 then [[]] else []).map _ = _
  simp [Kqz6.made]
theorem downF_ends (r : List Int) (n : Int) (w : List Int) (f : Frac) (left : Nat) (g : Good f) : ∀ (low i : Nat), low + i ≤ left + 1 →
    (downF n w f left low i).flatMap (ends r) = ((List.range' low i).reverse.flatMap fun k => (Kqz6.which (r.map dec) (left - k)).map fun v => (w ++ up (k :: v), (Kqz6.made ((n :: r).map dec) (k :: v)).foldl Kqz1.after f, (0 : Int)))
  | low, 0, _ => rfl
  | low, i + 1, h => by
    rw [List.range'_concat, List.reverse_append, List.reverse_singleton, List.singleton_append, List.flatMap_cons]
    show ends r (w ++ [(low : Int) + i], tw f n ((low : Int) + i), (left : Int) - ((low : Int) + i)) ++ (downF n w f left low i).flatMap (ends r) = _
    rw [downF_ends r n w f left g low i (by omega)]
    congr 1
    rw [Nat.one_mul]
    unfold ends
    have e : ((left : Int) - ((low : Int) + i)).toNat = left - (low + i) := by omega
    show (Kqz6.which (r.map dec) ((left : Int) - ((low : Int) + i)).toNat).map _ = _
    rw [e]
    apply List.map_congr_left
    intro v _
    have e2 : ((low : Int) + i) = ((low + i : Nat) : Int) := by omega
    show (w ++ [(low : Int) + i] ++ up v, _, _) = _
    refine Prod.ext ?_ (Prod.ext ?_ rfl)
    · show w ++ [(low : Int) + i] ++ up v = w ++ up ((low + i) :: v)
      rw [e2, List.append_assoc]
      rfl
    · show (Kqz6.made (r.map dec) v).foldl Kqz1.after (tw f n ((low : Int) + i)) = (Kqz6.made (r.map dec) v).foldl Kqz1.after (Kqz1.after f (Kqz6.changed (dec n) (low + i)))
      rw [e2, tw_is g]
theorem range_split (low m : Nat) (h : low ≤ m) : List.range m = List.range low ++ List.range' low (m - low) := by
  have e : m = low + (m - low) := by omega
  conv => lhs; rw [e]
  rw [List.range_eq_range', List.range_eq_range', ← List.range'_append_1]
  rw [Nat.zero_add]
theorem longOne_ends (n : Int) (r : List Int) (b : Begun) (hb : goodB b (n.natAbs + crossN r)) : (longOne n (crossN r : Int) b).flatMap (ends r) = ends (n :: r) b := by
  obtain ⟨w, f, l⟩ := b
  obtain ⟨g, h0, h1⟩ := hb
  have g : Good f := g
  have h0 : 0 ≤ l := h0
  have h1 : l ≤ ((n.natAbs + crossN r : Nat) : Int) := h1
  obtain ⟨left, rfl⟩ := Int.eq_ofNat_of_zero_le h0
  have elow : lowOf (left : Int) (crossN r : Int) = ((left - crossN r : Nat) : Int) := by unfold lowOf; split <;> omega
  have emost : mostOf n (left : Int) = ((min n.natAbs left : Nat) : Int) := by unfold mostOf; rw [iabs_nat]; split <;> omega
  have hc : (mostOf n (left : Int) - lowOf (left : Int) (crossN r : Int) + 1).toNat = min n.natAbs left + 1 - (left - crossN r) := by rw [elow, emost]; omega
  show (downF n w f left (lowOf (left : Int) (crossN r : Int)) (mostOf n (left : Int) - lowOf (left : Int) (crossN r : Int) + 1).toNat).flatMap (ends r) = _
  rw [hc, elow, downF_ends r n w f left g (left - crossN r) _ (by omega)]
  show _ = (((List.range (min (Kqz6.room (dec n)) ((left : Int)).toNat + 1)).reverse).flatMap (fun k => (Kqz6.which (r.map dec) (((left : Int)).toNat - k)).map fun w => k :: w)).map _
  rw [room_dec, Int.toNat_natCast, range_split (left - crossN r) (min n.natAbs left + 1) (by omega), List.reverse_append, List.flatMap_append, List.map_append]
  have z : (List.range (left - crossN r)).reverse.flatMap (fun k => (Kqz6.which (r.map dec) (left - k)).map fun w => k :: w) = [] := by
    rw [List.flatMap_eq_nil_iff]
    intro k hk
    rw [List.mem_reverse, List.mem_range] at hk
    rw [which_none r (left - k) (by omega)]
    rfl
  rw [z, List.map_nil, List.append_nil, List.map_flatMap]
  congr 1
  funext k
  rw [List.map_map]
  rfl
theorem mem_downF {n : Int} {w : List Int} {f : Frac} {left low : Int} : ∀ {i : Nat} {b : Begun}, b ∈ downF n w f left low i → ∃ j : Nat, j < i ∧ b = (w ++ [low + j], tw f n (low + j), left - (low + j))
  | 0, _, h => by simp [downF] at h
  | i + 1, b, h => by
    rcases List.mem_cons.mp h with e | m
    · exact ⟨i, by omega, e⟩
    · obtain ⟨j, h1, h2⟩ := mem_downF m
      exact ⟨j, by omega, h2⟩
theorem mem_longOne {n : Int} {rest : Int} {b c : Begun} (h : c ∈ longOne n rest b) : ∃ k : Int, lowOf b.2.2 rest ≤ k ∧ k ≤ mostOf n b.2.2 ∧ c = (b.1 ++ [k], tw b.2.1 n k, b.2.2 - k) := by
  obtain ⟨j, h1, h2⟩ := mem_downF h
  exact ⟨lowOf b.2.2 rest + j, by omega, by omega, h2⟩
theorem longer_good (n : Int) (r : List Int) (bs : List Begun) (h : ∀ b ∈ bs, goodB b (n.natAbs + crossN r)) : ∀ c ∈ longer bs n (crossN r : Int), goodB c (crossN r) := by
  intro c hc
  obtain ⟨b, hb, hm⟩ := List.mem_flatMap.mp hc
  obtain ⟨g, h0, h1⟩ := h b hb
  obtain ⟨k, k1, k2, rfl⟩ := mem_longOne hm
  refine ⟨tw_good g n k, ?_, ?_⟩
  · show 0 ≤ b.2.2 - k
    unfold mostOf at k2
    split at k2 <;> omega
  · show b.2.2 - k ≤ (crossN r : Int)
    unfold lowOf at k1
    split at k1 <;> omega
theorem goOn_is : ∀ (ns : List Int) (bs : List Begun), (∀ b ∈ bs, goodB b (crossN ns)) → goOn ns (crossN ns : Int) bs = bs.flatMap (ends ns)
  | [], bs, h => by
    show bs = _
    have e : ∀ b ∈ bs, ends [] b = [b] := fun b hb => by
      obtain ⟨_, h0, h1⟩ := h b hb
      have z : (crossN [] : Int) = 0 := rfl
      exact ends_nil (by omega)
    induction bs with
    | nil => rfl
    | cons b r ih =>
      rw [List.flatMap_cons, e b List.mem_cons_self, ← ih (fun x hx => h x (List.mem_cons_of_mem _ hx)) fun x hx => e x (List.mem_cons_of_mem _ hx)]
      rfl
  | n :: r, bs, h => by
    have ec : crossN (n :: r) = n.natAbs + crossN r := by unfold crossN; simp
    rw [ec] at h
    have er : ((crossN (n :: r) : Nat) : Int) - iabs n = (crossN r : Int) := by rw [iabs_nat, ec]; omega
    show goOn r (((crossN (n :: r) : Nat) : Int) - iabs n) (longer bs n (((crossN (n :: r) : Nat) : Int) - iabs n)) = _
    rw [er, goOn_is r _ (longer_good n r bs h)]
    unfold longer
    rw [List.flatMap_assoc]
    clear ec er
    induction bs with
    | nil => rfl
    | cons b q ih =>
      rw [List.flatMap_cons, List.flatMap_cons, longOne_ends n r b (h b List.mem_cons_self), ih fun x hx => h x (List.mem_cons_of_mem _ hx)]
theorem waysX_is (ns : List Int) (t : Nat) : waysX ns t = (Kqz6.which (ns.map dec) t).map fun w => (up w, Kqz1.comes (Kqz6.made (ns.map dec) w)) := by
  unfold waysX
  by_cases h : (t : Int) > cross ns
  · rw [if_pos h, which_none ns t (by rw [cross_nat] at h; omega)]
    rfl
  · rw [if_neg h, cross_nat]
    rw [cross_nat] at h
    rw [goOn_is ns _ fun b hb => by
      have e : b = ([], ⟨0, 1⟩, (t : Int)) := by simpa using hb
      subst e
      exact ⟨good_flat, by show (0 : Int) ≤ t; omega, by show (t : Int) ≤ _; omega⟩]
    rw [List.flatMap_cons, List.flatMap_nil, List.append_nil]
    unfold ends
    rw [List.map_map]
    apply List.map_congr_left
    intro w _
    rfl
/-! ### what a way is -/
theorem mem_which : ∀ (ns : List Int) (t : Nat) (w : List Nat), w ∈ Kqz6.which (ns.map dec) t → Fits ns w ∧ w.sum = t
  | [], t, w, h => by
    have h : w ∈ (if t = 0 then [[]] else [] : List (List Nat)) := h
    split at h
    · rename_i ht
      have e : w = [] := by simpa using h
      subst e
      exact ⟨trivial, by rw [ht]; rfl⟩
    · simp at h
  | n :: r, t, w, h => by
    have h : w ∈ ((List.range (min (Kqz6.room (dec n)) t + 1)).reverse).flatMap (fun k => (Kqz6.which (r.map dec) (t - k)).map fun w => k :: w) := h
    obtain ⟨k, hk, hw⟩ := List.mem_flatMap.mp h
    rw [List.mem_reverse, List.mem_range, room_dec] at hk
    obtain ⟨v, hv, rfl⟩ := List.mem_map.mp hw
    obtain ⟨h1, h2⟩ := mem_which r (t - k) v hv
    refine ⟨⟨by omega, h1⟩, ?_⟩
    rw [List.sum_cons, h2]
    omega
/-! ### how many there may be -/
theorem which_few : ∀ (ns : List Int) (t : Nat), (Kqz6.which (ns.map dec) t).length ≤ (t + 1) ^ ns.length
  | [], t => by
    show (if t = 0 then [[]] else [] : List (List Nat)).length ≤ 1
    split <;> simp
  | n :: r, t => by
    show (((List.range (min (Kqz6.room (dec n)) t + 1)).reverse).flatMap (fun k => (Kqz6.which (r.map dec) (t - k)).map fun w => k :: w)).length ≤ (t + 1) ^ (r.length + 1)
    have key : ∀ l : List Nat, (l.flatMap (fun k => (Kqz6.which (r.map dec) (t - k)).map fun w => k :: w)).length ≤ l.length * (t + 1) ^ r.length := by
      intro l
      induction l with
      | nil => simp
      | cons k q ih =>
        rw [List.flatMap_cons, List.length_append, List.length_map, List.length_cons, Nat.add_mul, Nat.one_mul]
        have a := which_few r (t - k)
        have b : (t - k + 1) ^ r.length ≤ (t + 1) ^ r.length := Nat.pow_le_pow_left (by omega) _
        omega
    refine Nat.le_trans (key _) ?_
    rw [List.length_reverse, List.length_range, Nat.pow_succ, Nat.mul_comm]
    exact Nat.mul_le_mul_left _ (by omega)
end Fc
end
section
set_option autoImplicit false
/-! The fewest; rings -/
namespace Fc
open Kqz1 (Frac Figure)
open Kqz3 (Ring)
/-! ### the first of the fewest -/
def firstX (pr : Frac → Bool) : List (List Int × Frac) → Option (List Int)
  | [] => none
  | b :: r => if pr b.2 = true then some b.1 else firstX pr r
def fewestX (ns : List Int) (pr : Frac → Bool) : List Int → Option (List Int)
  | [] => none
  | t :: r => match firstX pr (waysX ns t) with
    | some w => some w
    | none => fewestX ns pr r
theorem firstX_map (l : List Figure) (pr : Frac → Bool) : ∀ ws : List (List Nat), firstX pr (ws.map fun w => (up w, Kqz1.comes (Kqz6.made l w))) = (ws.find? fun w => pr (Kqz1.comes (Kqz6.made l w))).map up
  | [] => rfl
  | w :: r => by
    show (if pr (Kqz1.comes (Kqz6.made l w)) = true then some (up w) else firstX pr (r.map _)) = _
    rw [List.find?_cons, firstX_map l pr r]
    cases pr (Kqz1.comes (Kqz6.made l w)) <;> rfl
theorem firstX_is (ns : List Int) (pr : Frac → Bool) (t : Nat) : firstX pr (waysX ns t) = (Kqz6.firstOf (ns.map dec) t pr).map up := by
  rw [waysX_is]
  exact firstX_map (ns.map dec) pr _
theorem fewestX_is (ns : List Int) (pr : Frac → Bool) : ∀ ts : List Nat, fewestX ns pr (ts.map fun (t : Nat) => (t : Int)) = (ts.findSome? fun t => (Kqz6.firstOf (ns.map dec) t pr).map fun w => (t, w)).map fun z => up z.2
  | [] => rfl
  | t :: r => by
    show (match firstX pr (waysX ns t) with | some w => some w | none => fewestX ns pr (r.map fun (t : Nat) => (t : Int))) = _
    rw [firstX_is, fewestX_is ns pr r, List.findSome?_cons]
    cases Kqz6.firstOf (ns.map dec) t pr <;> rfl
abbrev five : List Int := [0, 1, 2, 3, 4]
theorem fewest_is (ns : List Int) (pr : Frac → Bool) : fewestX ns pr five = (Kqz6.fewest (ns.map dec) pr).map fun z => up z.2 := fewestX_is ns pr [0, 1, 2, 3, 4]
theorem fewest_fits {ns : List Int} {pr : Frac → Bool} {z : Nat × List Nat} (h : Kqz6.fewest (ns.map dec) pr = some z) : Fits ns z.2 ∧ z.2.sum = z.1 := by
  obtain ⟨t, _, e⟩ := List.exists_of_findSome?_eq_some h
  cases q : Kqz6.firstOf (ns.map dec) t pr with
  | none =>
    rw [q] at e
    cases e
  | some w =>
    rw [q] at e
    cases e
    exact mem_which ns t w (List.mem_of_find?_eq_some q)
theorem up_sum : ∀ w : List Nat, (up w).sum = (w.sum : Int)
  | [] => rfl
  | k :: r => by
    show ((k : Int) :: up r).sum = _
    rw [List.sum_cons, List.sum_cons, up_sum r]
    omega
/-! ### rings -/
theorem gcd_rest (a b : Int) : Int.gcd (a % b) b = Int.gcd a b := by
  rw [Int.emod_def, Int.gcd_sub_mul_left_left]
def ringP (f : Frac) : Int := iabs f.p
def ringQ (f : Frac) : Int := if ringP f = 0 then 0 else if f.p < 0 then (-(f.q : Int)).fmod (ringP f) else (f.q : Int).fmod (ringP f)
theorem ringP_is (f : Frac) : ringP f = ((Kqz3.ringOf f).p : Int) := by
  unfold ringP Kqz3.ringOf
  rw [iabs_nat]
  show (f.p.natAbs : Int) = ((if f.p.natAbs = 0 then (⟨0, 0⟩ : Ring) else _).p : Int)
  split
  · rename_i h; rw [h]
  · rfl
theorem ringQ_is (f : Frac) : ringQ f = ((Kqz3.ringOf f).q : Int) := by
  unfold ringQ ringP Kqz3.ringOf
  rw [iabs_nat]
  show _ = ((if f.p.natAbs = 0 then (⟨0, 0⟩ : Ring) else _).q : Int)
  by_cases h : f.p.natAbs = 0
  · rw [if_pos h, if_pos (by omega)]
    rfl
  · rw [if_neg h, if_neg (by omega)]
    have hp : (0 : Int) < (f.p.natAbs : Int) := by omega
    by_cases hn : f.p < 0
    · rw [if_pos hn]
      show _ = ((((if f.p < 0 then -(f.q : Int) else (f.q : Int)) % (f.p.natAbs : Int)).toNat : Nat) : Int)
      rw [if_pos hn, Int.fmod_eq_emod_of_nonneg _ (by omega), Int.toNat_of_nonneg (Int.emod_nonneg _ (by omega))]
    · rw [if_neg hn]
      show _ = ((((if f.p < 0 then -(f.q : Int) else (f.q : Int)) % (f.p.natAbs : Int)).toNat : Nat) : Int)
      rw [if_neg hn, Int.fmod_eq_emod_of_nonneg _ (by omega), Int.toNat_of_nonneg (Int.emod_nonneg _ (by omega))]
/-- a ring as told -/
structure RingOk (r : Ring) : Prop where
  zero : r.p = 0 → r.q = 0
  below : r.p ≠ 0 → r.q < r.p
  gcd : r.p ≠ 0 → Nat.gcd r.p r.q = 1
theorem ringOf_ok {f : Frac} (g : Good f) : RingOk (Kqz3.ringOf f) := by
  unfold Good at g
  refine ⟨fun h => ?_, fun h => ?_, fun h => ?_⟩
  · have e := ringQ_is f
    unfold ringQ at e
    rw [ringP_is, if_pos (by omega)] at e
    omega
  · have e := ringQ_is f
    unfold ringQ at e
    rw [ringP_is, if_neg (by omega)] at e
    have hp : (0 : Int) < ((Kqz3.ringOf f).p : Int) := by omega
    have a := Int.fmod_lt_of_pos (-(f.q : Int)) hp
    have b := Int.fmod_lt_of_pos (f.q : Int) hp
    split at e <;> omega
  · have ep := ringP_is f
    have e := ringQ_is f
    unfold ringQ at e
    have hz : ¬ ringP f = 0 := by omega
    rw [if_neg hz] at e
    have hp : (0 : Int) < ringP f := by omega
    have gp : Int.gcd (ringP f) (f.q : Int) = 1 := by
      unfold ringP
      rw [iabs_nat]
      show Nat.gcd ((f.p.natAbs : Int)).natAbs _ = 1
      rw [Int.natAbs_natCast]
      exact g
    have key : ∀ z : Int, Int.gcd (ringP f) z = 1 → Int.gcd (ringP f) (z.fmod (ringP f)) = 1 := by
      intro z hz1
      rw [Int.fmod_eq_emod_of_nonneg _ (by omega), Int.gcd_comm, gcd_rest, Int.gcd_comm]
      exact hz1
    have fin : Int.gcd (ringP f) ((Kqz3.ringOf f).q : Int) = 1 := by
      rw [← e]
      split
      · exact key _ (by rw [Int.gcd_neg]; exact gp)
      · exact key _ gp
    rw [ep] at fin
    exact fin
/-! ### the other share -/
/-- the program's reckoning, by its four running numbers -/
structure Eu where
  u : Int
  l : Int
  ut : Int
  lt : Int
def Eu.next (e : Eu) : Eu := ⟨e.l, e.u - e.u.fdiv e.l * e.l, e.lt, e.ut - e.u.fdiv e.l * e.lt⟩
/-- what stays true of it -/
structure EuOk (p s : Int) (e : Eu) : Prop where
  u0 : 0 ≤ e.u
  l0 : 0 ≤ e.l
  ub : e.u ≤ p
  lb : e.l ≤ p
  gcd : Int.gcd e.u e.l = 1
  um : p ∣ e.ut * s - e.u
  lm : p ∣ e.lt * s - e.l
theorem Eu.next_l {p s : Int} {e : Eu} (o : EuOk p s e) (h : 0 < e.l) : 0 ≤ e.next.l ∧ e.next.l < e.l := by
  have d := Int.emod_add_mul_ediv e.u e.l
  have a := Int.emod_nonneg e.u (show e.l ≠ 0 by omega)
  have b := Int.emod_lt_of_pos e.u h
  have f : e.u.fdiv e.l = e.u / e.l := Int.fdiv_eq_ediv_of_nonneg e.u (by omega)
  show 0 ≤ e.u - e.u.fdiv e.l * e.l ∧ e.u - e.u.fdiv e.l * e.l < e.l
  rw [f, Int.mul_comm]
  omega
theorem EuOk.next {p s : Int} {e : Eu} (o : EuOk p s e) (h : 0 < e.l) : EuOk p s e.next := by
  obtain ⟨n0, n1⟩ := Eu.next_l o h
  refine ⟨o.l0, n0, o.lb, by have := o.lb; omega, ?_, o.lm, ?_⟩
  · show Int.gcd e.l (e.u - e.u.fdiv e.l * e.l) = 1
    rw [Int.gcd_comm, Int.sub_eq_add_neg, Int.neg_mul_eq_neg_mul, Int.gcd_add_mul_right_left]
    exact o.gcd
  · show p ∣ (e.ut - e.u.fdiv e.l * e.lt) * s - (e.u - e.u.fdiv e.l * e.l)
    have z : (e.ut - e.u.fdiv e.l * e.lt) * s - (e.u - e.u.fdiv e.l * e.l) = (e.ut * s - e.u) - e.u.fdiv e.l * (e.lt * s - e.l) := by
      rw [Int.sub_mul, Int.mul_sub, Int.mul_assoc]
      omega
    rw [z]
    exact Int.dvd_sub o.um (Int.dvd_mul_of_dvd_right o.lm)
theorem EuOk.done {p s : Int} {e : Eu} (o : EuOk p s e) (h : ¬ 0 < e.l) : e.u = 1 := by
  have z : e.l = 0 := by have := o.l0; omega
  have g := o.gcd
  rw [z, Int.gcd_zero_right] at g
  have := o.u0
  omega
/-- its answer is the other share -/
theorem inverse_is {r : Ring} (o : RingOk r) (hp : r.p ≠ 0) {ut : Int} (h : (r.p : Int) ∣ ut * r.q - 1) : ut.fmod r.p = (Kqz3.inverse r : Int) := by
  have pos : (0 : Int) < r.p := by omega
  have fe : ut.fmod r.p = ut % r.p := Int.fmod_eq_emod_of_nonneg _ (by omega)
  have x0 := Int.emod_nonneg ut (show (r.p : Int) ≠ 0 by omega)
  have x1 := Int.emod_lt_of_pos ut pos
  obtain ⟨x, hx⟩ := Int.eq_ofNat_of_zero_le x0
  have xl : x < r.p := by omega
  -- x times the share leaves 1
  have hd : (r.p : Int) ∣ (x : Int) * r.q - 1 := by
    have e : (x : Int) * r.q - 1 = (ut * r.q - 1) - (ut / r.p) * r.q * r.p := by
      have d := Int.emod_add_mul_ediv ut r.p
      have xe : (x : Int) = ut - r.p * (ut / r.p) := by omega
      rw [xe, Int.sub_mul]
      have : (r.p : Int) * (ut / r.p) * r.q = ut / r.p * r.q * r.p := by
        rw [Int.mul_comm (r.p : Int), Int.mul_assoc, Int.mul_comm (r.p : Int), ← Int.mul_assoc]
      omega
    rw [e]
    exact Int.dvd_sub h ⟨ut / r.p * r.q, by rw [Int.mul_comm]⟩
  have good : ∀ y : Nat, (r.q * y % r.p == 1 % r.p) = true ↔ (r.p : Int) ∣ (y : Int) * r.q - 1 := by
    intro y
    rw [beq_iff_eq]
    constructor
    · intro q
      have q2 : ((r.q * y : Nat) : Int) % (r.p : Int) = 1 % (r.p : Int) := by
        have := congrArg (fun n : Nat => (n : Int)) q
        simpa using this
      have q3 : (r.p : Int) ∣ ((r.q * y : Nat) : Int) - 1 := Int.dvd_of_emod_eq_zero (Int.emod_eq_emod_iff_emod_sub_eq_zero.mp q2)
      rw [Int.mul_comm, ← Int.natCast_mul]
      exact q3
    · intro ⟨c, hc⟩
      have q2 : ((r.q * y : Nat) : Int) % (r.p : Int) = 1 % (r.p : Int) := by
        have e : ((r.q * y : Nat) : Int) = 1 + r.p * c := by
          rw [Int.natCast_mul, Int.mul_comm]
          omega
        rw [e, Int.add_mul_emod_self_left]
      have : ((r.q * y % r.p : Nat) : Int) = ((1 % r.p : Nat) : Int) := by simpa using q2
      omega
  have uniq : ∀ y : Nat, y < r.p → (r.p : Int) ∣ (y : Int) * r.q - 1 → y = x := by
    intro y hy hyd
    have d2 : (r.p : Int) ∣ ((y : Int) - x) * r.q := by
      have e : ((y : Int) - x) * r.q = ((y : Int) * r.q - 1) - ((x : Int) * r.q - 1) := by rw [Int.sub_mul]; omega
      rw [e]
      exact Int.dvd_sub hyd hd
    have cop : Int.gcd (r.p : Int) (r.q : Int) = 1 := o.gcd hp
    have d3 : (r.p : Int) ∣ (y : Int) - x := by
      have d4 := Int.dvd_mul_gcd_iff_dvd_mul.mpr d2
      rw [cop] at d4
      simpa using d4
    obtain ⟨c, hc⟩ := d3
    have c0 : c = 0 := by
      rcases Int.lt_trichotomy c 0 with q | q | q
      · have : (r.p : Int) * c ≤ r.p * (-1) := Int.mul_le_mul_of_nonneg_left (by omega) (by omega)
        omega
      · exact q
      · have : (r.p : Int) * 1 ≤ r.p * c := Int.mul_le_mul_of_nonneg_left (by omega) (by omega)
        omega
    rw [c0] at hc
    omega
  have f : (List.range r.p).find? (fun x => r.q * x % r.p == 1 % r.p) = some x := by
    cases q : (List.range r.p).find? (fun x => r.q * x % r.p == 1 % r.p) with
    | none =>
      have := List.find?_eq_none.mp q x (List.mem_range.mpr xl)
      exact absurd ((good x).mpr hd) this
    | some y =>
      have h1 := List.find?_some q
      have h2 := List.mem_range.mp (List.mem_of_find?_eq_some q)
      rw [uniq y h2 ((good y).mp h1)]
  unfold Kqz3.inverse
  rw [f, fe, hx]
  rfl
theorem euStart {r : Ring} (o : RingOk r) (hp : r.p ≠ 0) : EuOk r.p r.q ⟨r.p, r.q, 0, 1⟩ :=
  ⟨by show (0 : Int) ≤ r.p; omega, by show (0 : Int) ≤ r.q; omega, Int.le_refl _, by have := o.below hp; show (r.q : Int) ≤ r.p; omega, o.gcd hp, ⟨-1, by show (0 : Int) * r.q - r.p = _; omega⟩, ⟨0, by show (1 : Int) * r.q - r.q = _; omega⟩⟩
/-! ### names -/
def nameP (r : Ring) : Int := r.p
def nameQ (r : Ring) : Int := if r.p = 0 then 0 else if (Kqz3.inverse r : Int) < r.q then (Kqz3.inverse r : Int) else r.q
theorem name_is {r : Ring} (o : RingOk r) : ((Kqz3.name r).p : Int) = nameP r ∧ ((Kqz3.name r).q : Int) = nameQ r := by
  unfold Kqz3.name nameP nameQ
  by_cases h : r.p = 0
  · rw [if_pos h, if_pos h]
    exact ⟨rfl, by rw [o.zero h]; rfl⟩
  · rw [if_neg h, if_neg h]
    by_cases q : Kqz3.inverse r < r.q
    · rw [if_pos q, if_pos (by omega)]
      exact ⟨rfl, rfl⟩
    · rw [if_neg q, if_neg (by omega)]
      exact ⟨rfl, rfl⟩
/-! ### what may be handed over -/
theorem okFrac_is (p : Int) (q : Nat) : Kqz1.okFrac p q = (decide (p.natAbs ≤ 9999) && decide (q ≤ 9999) && (if q = 0 then decide (p = 1) else decide (Nat.gcd p.natAbs q = 1))) := by
  unfold Kqz1.okFrac Kqz1.WIDE
  rw [Bool.eq_iff_iff]
  simp only [Bool.and_eq_true, Bool.or_eq_true, decide_eq_true_eq, bne_iff_ne, beq_iff_eq]
  have ge : Int.gcd p (q : Int) = Nat.gcd p.natAbs q := rfl
  rw [ge]
  by_cases h : q = 0
  · subst h
    rw [if_pos rfl, Nat.gcd_zero_right, decide_eq_true_eq]
    constructor
    · intro h
      omega
    · intro h
      omega
  · rw [if_neg h, decide_eq_true_eq]
    constructor
    · intro h
      omega
    · intro h
      omega
theorem okRing_is (p q : Nat) : Kqz3.okRing p q = (decide (p ≤ 400) && (if p = 0 then decide (q = 0) else decide (q < p) && decide (Nat.gcd p q = 1))) := by
  unfold Kqz3.okRing Kqz3.WIDE
  by_cases h : p = 0
  · rw [if_pos h, if_pos h]
    rfl
  · rw [if_neg h, if_neg h]
    rfl
theorem okRing_ok {p q : Nat} (h : Kqz3.okRing p q = true) : RingOk ⟨p, q⟩ ∧ p ≤ 400 := by
  rw [okRing_is, Bool.and_eq_true, decide_eq_true_eq] at h
  refine ⟨⟨fun e => ?_, fun e => ?_, fun e => ?_⟩, h.1⟩
  · have e : p = 0 := e
    have := h.2
    rw [if_pos e, decide_eq_true_eq] at this
    exact this
  · have e : p ≠ 0 := e
    have := h.2
    rw [if_neg e, Bool.and_eq_true, decide_eq_true_eq, decide_eq_true_eq] at this
    exact this.1
  · have e : p ≠ 0 := e
    have := h.2
    rw [if_neg e, Bool.and_eq_true, decide_eq_true_eq, decide_eq_true_eq] at this
    exact this.2
/-- nothing in common, by rests -/
theorem gcd_step {a b : Int} (ha : 0 ≤ a) (hb : 0 < b) : Int.gcd b (a.fmod b) = Int.gcd a b ∧ 0 ≤ a.fmod b ∧ a.fmod b < b := by
  rw [Int.fmod_eq_emod_of_nonneg _ (by omega)]
  refine ⟨?_, Int.emod_nonneg _ (by omega), Int.emod_lt_of_pos _ hb⟩
  rw [Int.gcd_comm, gcd_rest]
/-! ### no name twice -/
section
variable {α β : Type} [BEq α] [LawfulBEq α] [BEq β] [LawfulBEq β]
def dedup (l : List α) : List α := l.foldl (fun a f => if a.contains f then a else a ++ [f]) []
def dedupOn (a l : List α) : List α := l.foldl (fun a f => if a.contains f then a else a ++ [f]) a
theorem dedupOn_cons (a : List α) (x : α) (r : List α) : dedupOn a (x :: r) = dedupOn (if a.contains x then a else a ++ [x]) r := rfl
theorem dedupOn_mem : ∀ (l a : List α) (x : α), x ∈ dedupOn a l ↔ x ∈ a ∨ x ∈ l
  | [], a, x => by simp [dedupOn]
  | y :: r, a, x => by
    rw [dedupOn_cons, dedupOn_mem r]
    by_cases h : a.contains y = true
    · rw [if_pos h]
      have hy : y ∈ a := by simpa using h
      constructor
      · rintro (q | q)
        · exact .inl q
        · exact .inr (List.mem_cons_of_mem _ q)
      · rintro (q | q)
        · exact .inl q
        · rcases List.mem_cons.mp q with e | q
          · exact .inl (by rw [e]; exact hy)
          · exact .inr q
    · rw [if_neg h]
      simp only [List.mem_append, List.mem_cons, List.not_mem_nil, or_false]
      constructor
      · rintro ((q | q) | q)
        · exact .inl q
        · exact .inr (.inl q)
        · exact .inr (.inr q)
      · rintro (q | q | q)
        · exact .inl (.inl q)
        · exact .inl (.inr q)
        · exact .inr q
theorem dedupOn_nodup : ∀ (l a : List α), a.Nodup → (dedupOn a l).Nodup
  | [], _, h => h
  | y :: r, a, h => by
    rw [dedupOn_cons]
    by_cases q : a.contains y = true
    · rw [if_pos q]
      exact dedupOn_nodup r a h
    · rw [if_neg q]
      refine dedupOn_nodup r _ ?_
      rw [List.nodup_append]
      refine ⟨h, by simp, fun x hx z hz => ?_⟩
      have e : z = y := by simpa using hz
      intro e2
      rw [e2, e] at hx
      exact q (by simpa using hx)
/-- what is told already may be told again beforehand -/
theorem dedupOn_map (g : α → β) : ∀ (l : List α) (a : List α) (b : List β), (∀ x, x ∈ a → g x ∈ b) → dedupOn b ((dedupOn a l).map g) = dedupOn (dedupOn b (a.map g)) (l.map g)
  | [], a, b, _ => rfl
  | y :: r, a, b, h => by
    have fix : ∀ (l : List α), (∀ x ∈ l, g x ∈ b) → dedupOn b (l.map g) = b := by
      intro l
      induction l with
      | nil => intro _; rfl
      | cons z q ih =>
        intro hz
        rw [List.map_cons, dedupOn_cons, if_pos (by simpa using hz z List.mem_cons_self)]
        exact ih fun x hx => hz x (List.mem_cons_of_mem _ hx)
    have e0 := fix a h
    rw [List.map_cons, dedupOn_cons, dedupOn_cons, e0]
    by_cases q : a.contains y = true
    · have hy : g y ∈ b := h y (by simpa using q)
      rw [if_pos q, if_pos (by simpa using hy), dedupOn_map g r a b h, e0]
    · rw [if_neg q]
      by_cases q2 : b.contains (g y) = true
      · rw [if_pos q2]
        have h2 : ∀ x, x ∈ a ++ [y] → g x ∈ b := fun x hx => by
          rcases List.mem_append.mp hx with m | m
          · exact h x m
          · have e : x = y := by simpa using m
            rw [e]
            simpa using q2
        rw [dedupOn_map g r (a ++ [y]) b h2, fix _ h2]
      · rw [if_neg q2]
        -- the first part of both
        have split1 : ∀ (l : List α) (a : List α), ∃ t, dedupOn a l = a ++ t := by
          intro l
          induction l with
          | nil => intro a; exact ⟨[], by simp [dedupOn]⟩
          | cons z q ih =>
            intro a
            rw [dedupOn_cons]
            by_cases c : a.contains z = true
            · rw [if_pos c]; exact ih a
            · rw [if_neg c]
              obtain ⟨t, e⟩ := ih (a ++ [z])
              exact ⟨z :: t, by rw [e]; simp⟩
        have app : ∀ (u v : List β) (b : List β), dedupOn b (u ++ v) = dedupOn (dedupOn b u) v := fun u v b => by
          unfold dedupOn
          rw [List.foldl_append]
        obtain ⟨t, et⟩ := split1 r (a ++ [y])
        have h2 : ∀ x, x ∈ a ++ [y] → g x ∈ b ++ [g y] := fun x hx => by
          rcases List.mem_append.mp hx with m | m
          · exact List.mem_append_left _ (h x m)
          · have e : x = y := by simpa using m
            rw [e]
            simp
        have ih := dedupOn_map g r (a ++ [y]) (b ++ [g y]) h2
        have fix2 : dedupOn (b ++ [g y]) ((a ++ [y]).map g) = b ++ [g y] := by
          have : ∀ (l : List α), (∀ x ∈ l, g x ∈ b ++ [g y]) → dedupOn (b ++ [g y]) (l.map g) = b ++ [g y] := by
            intro l
            induction l with
            | nil => intro _; rfl
            | cons z q ih =>
              intro hz
              rw [List.map_cons, dedupOn_cons, if_pos (by have := hz z List.mem_cons_self; simpa using this)]
              exact ih fun x hx => hz x (List.mem_cons_of_mem _ hx)
          exact this _ h2
        rw [fix2] at ih
        rw [← ih, et, List.map_append, app, app]
        congr 1
        rw [fix2, List.map_append, app, e0]
        show (if b.contains (g y) then b else b ++ [g y]) = b ++ [g y]
        rw [if_neg q2]
theorem dedup_map (g : α → β) (l : List α) : dedup ((dedup l).map g) = dedup (l.map g) := dedupOn_map g l [] [] fun _ h => nomatch h
/-- two lists without twice the same, of the same things, are as long -/
theorem same_len {a b : List α} (ha : a.Nodup) (hb : b.Nodup) (h : ∀ x, x ∈ a ↔ x ∈ b) : a.length = b.length := (List.perm_ext_iff_of_nodup ha hb |>.mpr h).length_eq
end
end Fc
end
section
set_option autoImplicit false
/-! Undone by one change; how many ways; the list of calls -/
namespace Fc
open Kqz1 (Frac Figure)
open Kqz3 (Ring)
/-! ### undone by one -/
def bareDiv (pr : Nat) : List Nat := ((List.range' 1 pr).filter fun n => pr % n == 0).filter fun n => Nat.gcd (pr / n) n == 1
def hit (r : Ring) (n : Nat) : Bool := 2 * n * n % r.p == r.q || 2 * n * n % r.p == r.p - r.q
def onceX (r : Ring) : Bool := if r.p % 2 = 0 ∨ r.p = 1 then false else (bareDiv ((r.p - 1) / 2)).any (hit r) || (bareDiv ((r.p + 1) / 2)).any (hit r)
theorem mem_bare {pr n : Nat} : n ∈ bareDiv pr ↔ 1 ≤ n ∧ n ≤ pr ∧ pr % n = 0 ∧ Nat.gcd (pr / n) n = 1 := by
  unfold bareDiv
  rw [List.mem_filter, List.mem_filter, List.mem_range', beq_iff_eq, beq_iff_eq]
  constructor
  · rintro ⟨⟨⟨i, h1, h2⟩, h3⟩, h4⟩
    exact ⟨by omega, by omega, h3, h4⟩
  · rintro ⟨h1, h2, h3, h4⟩
    exact ⟨⟨⟨n - 1, by omega, by omega⟩, h3⟩, h4⟩
theorem hit_is {r : Ring} (o : RingOk r) (hp : 1 < r.p) (n : Nat) : hit r n = (2 * n * n % r.p == r.q % r.p || (2 * n * n + r.q) % r.p == 0) := by
  have b := o.below (by omega)
  unfold hit
  rw [Nat.mod_eq_of_lt b]
  congr 1
  rw [Bool.eq_iff_iff, beq_iff_eq, beq_iff_eq]
  have q0 : r.q ≠ 0 := fun z => by
    have g := o.gcd (by omega)
    rw [z, Nat.gcd_zero_right] at g
    omega
  have m := Nat.mod_lt (2 * n * n) (show 0 < r.p by omega)
  generalize 2 * n * n = x at m
  rw [Nat.add_mod, Nat.mod_eq_of_lt b]
  constructor
  · intro h
    rw [h]
    have : r.p - r.q + r.q = r.p := by omega
    rw [this, Nat.mod_self]
  · intro h
    by_cases c : x % r.p + r.q < r.p
    · rw [Nat.mod_eq_of_lt c] at h
      omega
    · rw [Nat.mod_eq_sub_mod (by omega), Nat.mod_eq_of_lt (by omega)] at h
      omega
theorem once_is {r : Ring} (o : RingOk r) : Kqz3.once r = onceX r := by
  unfold Kqz3.once Kqz3.onces onceX
  by_cases h : r.p % 2 = 0 ∨ r.p = 1
  · rw [if_pos h, if_pos h]
    rfl
  · rw [if_neg h, if_neg h]
    have hp : 1 < r.p := by omega
    have odd : r.p % 2 = 1 := by omega
    rw [Bool.eq_iff_iff, Bool.not_eq_true', Bool.or_eq_true, List.any_eq_true, List.any_eq_true]
    have key : ∀ m n : Nat, m ≠ 0 → n ≠ 0 → ((2 * m * n + 1 = r.p) ↔ m * n = (r.p - 1) / 2) ∧ ((2 * m * n = r.p + 1) ↔ m * n = (r.p + 1) / 2) := by
      intro m n _ _
      have e : 2 * m * n = 2 * (m * n) := by rw [Nat.mul_assoc]
      rw [e]
      generalize m * n = z
      omega
    have le_of : ∀ m n z : Nat, m ≠ 0 → n ≠ 0 → m * n = z → m ≤ z ∧ n ≤ z := by
      intro m n z h1 h2 e
      rw [← e]
      exact ⟨Nat.le_mul_of_pos_right m (by omega), Nat.le_mul_of_pos_left n (by omega)⟩
    have dv : ∀ m n z : Nat, n ≠ 0 → m * n = z → z % n = 0 ∧ z / n = m := by
      intro m n z h2 e
      rw [← e]
      exact ⟨Nat.mul_mod_left m n, Nat.mul_div_cancel m (by omega)⟩
    have back : ∀ n z : Nat, z % n = 0 → z / n * n = z := by
      intro n z e
      have := Nat.div_add_mod z n
      rw [e, Nat.add_zero, Nat.mul_comm] at this
      exact this
    constructor
    · intro he
      obtain ⟨⟨m, n⟩, hm⟩ := List.isEmpty_eq_false_iff_exists_mem.mp he
      obtain ⟨m', _, h2⟩ := List.mem_flatMap.mp hm
      obtain ⟨h3, h4⟩ := List.mem_filter.mp h2
      obtain ⟨n', _, e⟩ := List.mem_map.mp h3
      obtain ⟨e1, e2⟩ := Prod.mk.inj e
      subst e1
      subst e2
      simp only [Bool.and_eq_true, bne_iff_ne, ne_eq, beq_iff_eq, Bool.or_eq_true] at h4
      obtain ⟨⟨⟨⟨a1, a2⟩, a3⟩, a4⟩, a5⟩ := h4
      have a5' : hit r n' = true := by
        rw [hit_is o hp, Bool.or_eq_true, beq_iff_eq, beq_iff_eq]
        exact a5
      obtain ⟨k1, k2⟩ := key m' n' a1 a2
      rcases a4 with q | q
      · have q' := k1.mp q
        obtain ⟨l1, l2⟩ := le_of m' n' _ a1 a2 q'
        obtain ⟨d1, d2⟩ := dv m' n' _ a2 q'
        exact .inl ⟨n', mem_bare.mpr ⟨by omega, l2, d1, by rw [d2]; exact a3⟩, a5'⟩
      · have q' := k2.mp q
        obtain ⟨l1, l2⟩ := le_of m' n' _ a1 a2 q'
        obtain ⟨d1, d2⟩ := dv m' n' _ a2 q'
        exact .inr ⟨n', mem_bare.mpr ⟨by omega, l2, d1, by rw [d2]; exact a3⟩, a5'⟩
    · intro hx
      have fin : ∀ m n : Nat, m ≠ 0 → n ≠ 0 → Nat.gcd m n = 1 → (2 * m * n + 1 = r.p ∨ 2 * m * n = r.p + 1) → hit r n = true → m ≤ r.p → n ≤ r.p →
          (List.isEmpty ((List.range (r.p + 1)).flatMap fun m => ((List.range (r.p + 1)).map fun n => (m, n)).filter fun (m, n) => m != 0 && n != 0 && Nat.gcd m n == 1 && (2 * m * n + 1 == r.p || 2 * m * n == r.p + 1) && (2 * n * n % r.p == r.q % r.p || (2 * n * n + r.q) % r.p == 0))) = false := by
        intro m n h1 h2 h3 h4 h5 h6 h7
        rw [List.isEmpty_eq_false_iff_exists_mem]
        refine ⟨(m, n), List.mem_flatMap.mpr ⟨m, List.mem_range.mpr (by omega), List.mem_filter.mpr ⟨List.mem_map.mpr ⟨n, List.mem_range.mpr (by omega), rfl⟩, ?_⟩⟩⟩
        rw [hit_is o hp] at h5
        simp only [Bool.and_eq_true, bne_iff_ne, ne_eq, beq_iff_eq, Bool.or_eq_true]
        rw [Bool.or_eq_true, beq_iff_eq, beq_iff_eq] at h5
        exact ⟨⟨⟨⟨h1, h2⟩, h3⟩, h4⟩, h5⟩
      rcases hx with ⟨n, hn, hh⟩ | ⟨n, hn, hh⟩
      · obtain ⟨b1, b2, b3, b4⟩ := mem_bare.mp hn
        have e := back n _ b3
        have m0 : ((r.p - 1) / 2) / n ≠ 0 := fun z => by rw [z, Nat.zero_mul] at e; omega
        obtain ⟨l1, l2⟩ := le_of _ n _ m0 (by omega) e
        exact fin _ n m0 (by omega) b4 (.inl ((key _ n m0 (by omega)).1.mpr e)) hh (by omega) (by omega)
      · obtain ⟨b1, b2, b3, b4⟩ := mem_bare.mp hn
        have e := back n _ b3
        have m0 : ((r.p + 1) / 2) / n ≠ 0 := fun z => by rw [z, Nat.zero_mul] at e; omega
        obtain ⟨l1, l2⟩ := le_of _ n _ m0 (by omega) e
        exact fin _ n m0 (by omega) b4 (.inr ((key _ n m0 (by omega)).2.mpr e)) hh (by omega) (by omega)
/-! ### how many ways: numbers of so many parts with that sum -/
def parts : Nat → Nat → Nat
  | 0, t => if t = 0 then 1 else 0
  | n + 1, t => ((List.range (t + 1)).map fun k => parts n (t - k)).sum
theorem sum_le_map {f g : Nat → Nat} : ∀ {l : List Nat}, (∀ x ∈ l, f x ≤ g x) → (l.map f).sum ≤ (l.map g).sum
  | [], _ => Nat.le_refl _
  | x :: r, h => by
    rw [List.map_cons, List.map_cons, List.sum_cons, List.sum_cons]
    exact Nat.add_le_add (h x List.mem_cons_self) (sum_le_map fun y hy => h y (List.mem_cons_of_mem _ hy))
theorem sum_take_le (f : Nat → Nat) {m n : Nat} (h : m ≤ n) : ((List.range m).map f).sum ≤ ((List.range n).map f).sum := by
  have e : n = m + (n - m) := by omega
  rw [e, List.range_add, List.map_append, List.sum_append]
  omega
theorem which_parts : ∀ (ns : List Int) (t : Nat), (Kqz6.which (ns.map dec) t).length ≤ parts ns.length t
  | [], t => by
    show (if t = 0 then [[]] else [] : List (List Nat)).length ≤ if t = 0 then 1 else 0
    split <;> simp
  | n :: r, t => by
    show (((List.range (min (Kqz6.room (dec n)) t + 1)).reverse).flatMap (fun k => (Kqz6.which (r.map dec) (t - k)).map fun w => k :: w)).length ≤ ((List.range (t + 1)).map fun k => parts r.length (t - k)).sum
    rw [List.length_flatMap, List.map_reverse, List.sum_reverse]
    refine Nat.le_trans (sum_le_map (g := fun k => parts r.length (t - k)) fun k _ => ?_) (sum_take_le _ (by omega))
    rw [List.length_map]
    exact which_parts r (t - k)
theorem parts_715 : ∀ n, n ≤ 10 → ∀ t, t ≤ 4 → parts n t ≤ 715 := by decide +kernel
theorem which_715 {ns : List Int} (o : OkNs ns) {t : Nat} (h : t ≤ 4) : (Kqz6.which (ns.map dec) t).length ≤ 715 := Nat.le_trans (which_parts ns t) (parts_715 _ o.len t h)
/-- of the begun ones too -/
theorem downF_len (n : Int) (w : List Int) (f : Frac) (left low : Int) : ∀ i, (downF n w f left low i).length = i
  | 0 => rfl
  | i + 1 => by
    show (downF n w f left low i).length + 1 = i + 1
    rw [downF_len n w f left low i]
theorem longOne_len (n rest : Int) (b : Begun) {t : Nat} (h0 : 0 ≤ b.2.2) (h : b.2.2 ≤ t) : (longOne n rest b).length ≤ t + 1 := by
  unfold longOne
  rw [downF_len]
  have : mostOf n b.2.2 ≤ b.2.2 := by unfold mostOf; split <;> omega
  have : 0 ≤ lowOf b.2.2 rest := by unfold lowOf; split <;> omega
  omega
theorem longer_len (n rest : Int) {t : Nat} : ∀ bs : List Begun, (∀ b ∈ bs, 0 ≤ b.2.2 ∧ b.2.2 ≤ (t : Int)) → (longer bs n rest).length ≤ bs.length * (t + 1)
  | [], _ => by simp [longer]
  | b :: r, h => by
    show (List.flatMap (longOne n rest) (b :: r)).length ≤ (r.length + 1) * (t + 1)
    rw [List.flatMap_cons, List.length_append, Nat.add_mul, Nat.one_mul]
    have a := longOne_len n rest b (h b List.mem_cons_self).1 (h b List.mem_cons_self).2
    have c := longer_len n rest r fun x hx => h x (List.mem_cons_of_mem _ hx)
    unfold longer at c
    omega
end Fc
end
section
set_option Elab.async false
set_option linter.all false
set_option maxRecDepth 100000
set_option maxHeartbeats 2000000
/-! The words that all bodies use -/
namespace Fc
open PySem PySem.Spec PyProof.Rows L2
open Kqz1 (Frac)
abbrev topS (i : Nat) : Stmt := PySem.Challenge.pw_fewchanges_s01_answers.main.body.getD i (.Pass ⟨0, 0, 0, 0⟩)
/-- a def of the module by its name: what it promises, at which level -/
structure Cal (P : Program) (w : World) (K : PySem.W.Frag) (mg : Str → Option Value) (base : Heap) (k : Nat) (x : Str) (ps : List Str) (sp : Sp) : Prop where
  ex : ∃ (f : Addr) (fd : FuncData), FnOk P w K mg base CX0 k f fd ps sp ∧ mg x = some (.ref f) ∧ PySem.W.keepIn K (.ref f) = true ∧ Binds K fd ps []
theorem Cal.mono {P : Program} {w : World} {K : PySem.W.Frag} {mg : Str → Option Value} {base : Heap} {j k : Nat} {x : Str} {ps : List Str} {sp : Sp} (c : Cal P w K mg base j x ps sp) (h : j ≤ k) : Cal P w K mg base k x ps sp := by
  obtain ⟨f, fd, a, b, d, e⟩ := c.ex
  exact ⟨f, fd, a.mono h, b, d, e⟩
/-- where a def of the module stands -/
structure Pl (K : PySem.W.Frag) (mg : Str → Option Value) (x : Str) (st : Stmt) (ps : List Str) (f : Addr) (fd : FuncData) : Prop where
  fn : Fun K x x st f fd
  at_ : mg x = some (.ref f)
  bd : Binds K fd ps []
section
variable {X : Cx} {k : Nat} {x : Str} {ps : List Str} {sp : Sp} {p pos : Pos} {e : Expr} {es : List Expr} {t : TA}
def tK (sp : Sp) (t : TA) : TE := fun σ H Q => t σ H fun vs H1 => sp vs H1 Q E0
theorem tK_of {sp : Sp} {t : TA} : tCall sp [] E0 t = fun σ H Q => t σ H fun vs H1 => sp (vs ++ []) H1 Q E0 := rfl
theorem tCall_nil (sp : Sp) (t : TA) : tCall sp [] E0 t = tK sp t := by
  unfold tCall tK
  funext σ H Q
  have e : (fun (vs : List V) (H1 : Hp) => sp (vs ++ []) H1 Q E0) = fun vs H1 => sp vs H1 Q E0 := by
    funext vs H1
    rw [List.append_nil]
  rw [e]
theorem pe_k (c : Cal X.prog X.w X.K X.mg X.base k x ps sp) (hr : Room k X.A) (hg : Gl X x) (ha : PA X (e :: es) t)
    (hdb : (x == ("__debug__" : Str)) = false := by decide) (he : starEach (e :: es) X.env = (false, eval e X.env) :: starEach es X.env := by rfl) (hpl : (backTo pos (starEach es X.env)).any (·.1) = false := by rfl) :
    PE X (.Call (.Name x p) (e :: es) [] pos) (tK sp t) := by
  obtain ⟨f, fd, F, hm, hk, hb⟩ := c.ex
  have q := pe_call (p := p) (pos := pos) F hr hg hm hk hb .nil (pass0 (X := X)) ha hdb he hpl
  rw [tCall_nil] at q
  exact q
theorem pe_k0 (c : Cal X.prog X.w X.K X.mg X.base k x ps sp) (hr : Room k X.A) (hg : Gl X x)
    (hdb : (x == ("__debug__" : Str)) = false := by decide) : PE X (.Call (.Name x p) [] [] pos) (tK sp tNil) := by
  obtain ⟨f, fd, F, hm, hk, hb⟩ := c.ex
  have q := pe_call0 (p := p) (pos := pos) F hr hg hm hk hb .nil (pass0 (X := X)) hdb
  rw [tCall_nil] at q
  exact q
end
section
variable {P : Program} {w : World} {K : PySem.W.Frag} {mg : Str → Option Value} {base : Heap}
theorem Pl.cal {x : Str} {st : Stmt} {ps : List Str} {f : Addr} {fd : FuncData} {k : Nat} {sp : Sp} (p : Pl K mg x st ps f fd) (F : FnOk P w K mg base CX0 k f fd ps sp) : Cal P w K mg base k x ps sp := ⟨f, fd, F, p.at_, p.fn.kp, p.bd⟩
end
/-! ### what is given back -/
abbrev frV (f : Frac) : List V := [.int f.p, .int (f.q : Int)]
def RetV (H : Hp) (v : V) (Q : VK) : Prop := ∀ H', Same H H' → Q v H'
def RetT (H : Hp) (xs : List V) (Q : VK) : Prop := ∀ H' a, Same H H' → H' a = some (.tup xs) → Q (.ref a) H'
def RetL (H : Hp) (xs : List V) (Q : VK) : Prop := ∀ H' a, Same H H' → H' a = some (.lst xs) → Q (.ref a) H'
theorem same_upd {H : Hp} {p : Addr} {o : HO} (h : H p = none) : Same H (upd H p o) := fun b u e => by
  rw [upd_ne (ne_of_none e h)]
  exact e
theorem _root_.L2.Same.upd {H H' : Hp} {p : Addr} {o : HO} (s : Same H H') (h : H' p = none) : Same H (L2.upd H' p o) := s.trans (same_upd h)
theorem _root_.L2.Same.sqT {K : PySem.W.Frag} {H H' : Hp} {a : Addr} {xs : List V} (e : Same H H') (h : SqT K H a xs) : SqT K H' a xs := by
  rcases h with (h | ⟨o, h⟩) | h
  · exact .inl (.inl (e _ _ h))
  · exact .inl (.inr ⟨o, e _ _ h⟩)
  · exact .inr h
theorem RetT.fin {H H1 : Hp} {xs : List V} {Q : VK} (k : RetT H xs Q) (s : Same H H1) : ∀ p, H1 p = none → Q (.ref p) (upd H1 p (.tup xs)) := fun p hp => k _ p (Same.upd s hp) upd_same
theorem RetL.fin {H H1 : Hp} {xs : List V} {Q : VK} (k : RetL H xs Q) (s : Same H H1) : ∀ p, H1 p = none → Q (.ref p) (upd H1 p (.lst xs)) := fun p hp => k _ p (Same.upd s hp) upd_same
theorem RetT.same {H H1 : Hp} {xs : List V} {Q : VK} (k : RetT H xs Q) (s : Same H H1) : RetT H1 xs Q := fun H' a s' h => k H' a (s.trans s') h
theorem RetL.same {H H1 : Hp} {xs : List V} {Q : VK} (k : RetL H xs Q) (s : Same H H1) : RetL H1 xs Q := fun H' a s' h => k H' a (s.trans s') h
theorem RetV.same {H H1 : Hp} {v : V} {Q : VK} (k : RetV H v Q) (s : Same H H1) : RetV H1 v Q := fun H' s' => k H' (s.trans s')
theorem sz2 : (2 : Nat) ≤ sizeLine := by decide
theorem sz3 : (3 : Nat) ≤ sizeLine := by decide
theorem sz1 : (1 : Nat) ≤ sizeLine := by decide
theorem if_t {c : Bool} {A B : Prop} (hc : c = true) (h : A) : if c = true then A else B := by
  rw [if_pos hc]
  exact h
theorem if_f {c : Bool} {A B : Prop} (hc : c = false) (h : B) : if c = true then A else B := by
  rw [hc, if_neg Bool.false_ne_true]
  exact h
end Fc
end
section
set_option Elab.async false
set_option linter.all false
set_option maxRecDepth 100000
set_option maxHeartbeats 2000000
/-! fraction, closing's small ones, figures' small ones -/
namespace Fc
open PySem PySem.Spec PyProof.Rows L2
open Kqz1 (Frac)
section
variable {P : Program} {w : World} {K : PySem.W.Frag} {mg : Str → Option Value} {base : Heap}
/-! ### flat_fraction -/
theorem scFlat : FnScope [] [] (defScope (topS 1)) := ⟨rfl, rfl, rfl, by decide +kernel, rfl, by decide +kernel, by decide +kernel⟩
def spFlat : Sp := fun vs H Q _ => vs = [] ∧ RetT H (frV ⟨0, 1⟩) Q
theorem ok_flat {f : Addr} {fd : FuncData} (F : Fun K "flat_fraction" "flat_fraction" (topS 1) f fd) : FnOk P w K mg base CX0 1 f fd [] spFlat := by
  refine F.ok scFlat (fun vs H Q E h => ?_) (fun cdv A outer s H vs Q E hr h => ⟨_, pss_one (ps_ret (pe_tup (pa_cons pe_int (pa_cons pe_int pa_nil)))), ?_⟩)
  · rw [h.1] <;> rfl
  · obtain ⟨rfl, k⟩ := h
    exact ⟨sz2, k.fin (Same.refl H)⟩
/-! ### nothing_in_common -/
theorem scNic : FnScope ["one", "other", "rest"] ["one", "other"] (defScope (topS 3)) := ⟨rfl, rfl, rfl, by decide +kernel, rfl, by decide +kernel, by decide +kernel⟩
def spNic : Sp := fun vs H Q _ => ∃ a b : Int, vs = [.int a, .int b] ∧ 0 ≤ a ∧ 0 ≤ b ∧ RetV H (.bl (decide (Int.gcd a b = 1))) Q
theorem ok_nic {f : Addr} {fd : FuncData} (F : Fun K "nothing_in_common" "nothing_in_common" (topS 3) f fd) : FnOk P w K mg base CX0 1 f fd ["one", "other"] spNic := by
  refine F.ok scNic (fun vs H Q E h => ?_) (fun cdv A outer s H vs Q E hr h => ⟨_, pss_cons (ps_while PassesOwn.never (pt_cmpR op_gt (pv 1) pe_int (nomark _))
    (pss_cons (ps_set (i := 2) scNic.nd rfl (Or.inl rfl) (pe_op op_modN (pv 0) (pv 1)))
    (pss_cons (ps_set (i := 0) scNic.nd rfl (Or.inl rfl) (pv 1))
    (pss_one (ps_set (i := 1) scNic.nd rfl (Or.inl rfl) (pv 2))))))
    (pss_one (ps_ret (pe_cmpR op_eq (pv 0) pe_int (nomark _)))), ?_⟩)
  · obtain ⟨a, b, rfl, _⟩ := h
    rfl
  · obtain ⟨a, b, rfl, ha, hb, k⟩ := h
    refine while_by (fun σ H' => H' = H ∧ ∃ (x y : Int) (v : Option V), σ = [some (.int x), some (.int y), v] ∧ 0 ≤ x ∧ 0 ≤ y ∧ Int.gcd x y = Int.gcd a b) (fun σ _ => match σ with | [_, some (.int y), _] => y.toNat | _ => 0) ⟨rfl, a, b, none, rfl, ha, hb, rfl⟩ ?_ ?_
    · rintro σ H' ⟨rfl, x, y, v, rfl, hx, hy, hg⟩
      refine ⟨_, rfl, _, _, rfl, rfl, _, rfl, ?_⟩
      by_cases c : 0 < y
      · refine if_t (decide_eq_true c) ?_
        obtain ⟨g1, g2, g3⟩ := gcd_step hx c
        refine ⟨_, rfl, _, rfl, _, _, rfl, rfl, (by omega), _, rfl, _, rfl, ⟨rfl, _, _, _, rfl, by omega, g2, by rw [g1, hg]⟩, ?_⟩
        show (x.fmod y).toNat < y.toNat
        omega
      · refine if_f (decide_eq_false c) ?_
        have y0 : y = 0 := by omega
        subst y0
        refine ⟨_, rfl, rfl, ?_⟩
        have e : (decide (V.int x = V.int 1)) = decide (Int.gcd a b = 1) := by
          rw [← hg, Int.gcd_zero, Bool.eq_iff_iff]
          simp
          omega
        rw [e]
        exact k _ (Same.refl _)
    · intro σ H' Q1 Q2 hq h
      obtain ⟨v, e, i, j, e1, e2, k1, e3, h⟩ := h
      exact ⟨v, e, i, j, e1, e2, k1, e3, hq _ _ h⟩
/-! ### is_fraction -/
theorem scIsf : FnScope ["upper", "lower"] ["upper", "lower"] (defScope (topS 2)) := ⟨rfl, rfl, rfl, by decide +kernel, rfl, by decide +kernel, by decide +kernel⟩
def isFr (p q : Int) : Bool := if q = 0 then decide (p = 1) else decide (Int.gcd (iabs p) q = 1)
def spIsf : Sp := fun vs H Q _ => ∃ a b : Int, vs = [.int a, .int b] ∧ 0 ≤ b ∧ RetV H (.bl (isFr a b)) Q
theorem iabs_nn (n : Int) : 0 ≤ iabs n := by rw [iabs_nat]; omega
theorem ok_isf {f : Addr} {fd : FuncData} (F : Fun K "is_fraction" "is_fraction" (topS 2) f fd) (cN : ∀ base, Cal P w K mg base 1 "nothing_in_common" ["one", "other"] spNic) (nA : mg "abs" = none) : FnOk P w K mg base CX0 2 f fd ["upper", "lower"] spIsf := by
  refine F.ok scIsf (fun vs H Q E h => ?_) (fun cdv A outer s H vs Q E hr h => ⟨_, pss_cons (ps_if (pt_cmpR op_eq (pv 1) pe_int (nomark _))
      (pss_one (ps_ret (pe_cmpR op_eq (pv 0) pe_int (nomark _)))) pss_nil)
      (pss_one (ps_ret (pe_k (cN _) hr rfl (pa_cons (pe_callB call_abs (by rfl) nA (by decide +kernel) (pa_cons (pv 0) pa_nil)) (pa_cons (pv 1) pa_nil))))), ?_⟩)
  · obtain ⟨a, b, rfl, _⟩ := h
    rfl
  · obtain ⟨a, b, rfl, hb, k⟩ := h
    refine ⟨_, rfl, rfl, _, rfl, ?_⟩
    unfold isFr at k
    by_cases c : b = 0
    · rw [if_pos c] at k
      refine if_t (decide_eq_true (by rw [c])) ⟨_, rfl, rfl, ?_⟩
      have e : decide (V.int a = V.int 1) = decide (a = 1) := by rw [Bool.eq_iff_iff]; simp
      rw [e]
      exact k _ (Same.refl _)
    · rw [if_neg c] at k
      refine if_f (decide_eq_false (by simpa using c)) ?_
      exact ⟨_, rfl, a, rfl, _, rfl, iabs a, b, rfl, iabs_nn a, hb, k⟩
/-! ### twisted, turned -/
theorem at0 {f : Frac} : atI (frV f) 0 = some (.int f.p) := rfl
theorem at1 {f : Frac} : atI (frV f) 1 = some (.int (f.q : Int)) := rfl
theorem scTwi : FnScope ["fraction", "n"] ["fraction", "n"] (defScope (topS 4)) := ⟨rfl, rfl, rfl, by decide +kernel, rfl, by decide +kernel, by decide +kernel⟩
def spTwi (K : PySem.W.Frag) : Sp := fun vs H Q _ => ∃ (a : Addr) (f : Frac) (n : Int), vs = [.ref a, .int n] ∧ SqT K H a (frV f) ∧ n.natAbs ≤ 6 ∧ RetT H (frV ⟨f.p + n * (f.q : Int), f.q⟩) Q
theorem small6 {n : Int} (h : n.natAbs ≤ 6) : -(2 ^ 64) < n ∧ n < 2 ^ 64 := by omega
theorem ok_twi {f : Addr} {fd : FuncData} (F : Fun K "twisted" "twisted" (topS 4) f fd) : FnOk P w K mg base CX0 1 f fd ["fraction", "n"] (spTwi K) := by
  refine F.ok scTwi (fun vs H Q E h => ?_) (fun cdv A outer s H vs Q E hr h => ⟨_, pss_one (ps_ret (pe_tup (pa_cons
      (pe_op op_add (pe_ix ix_tup (pv 0) pe_int (fun _ _ => rfl)) (pe_op op_mul (pv 1) (pe_ix ix_tup (pv 0) pe_int (fun _ _ => rfl))))
      (pa_cons (pe_ix ix_tup (pv 0) pe_int (fun _ _ => rfl)) pa_nil)))), ?_⟩)
  · obtain ⟨a, g, n, rfl, _⟩ := h
    rfl
  · obtain ⟨a, g, n, rfl, hS, hn, k⟩ := h
    refine ⟨_, rfl, _, _, _, _, rfl, rfl, hS, at0, _, rfl, _, rfl, _, _, _, _, rfl, rfl, hS, at1, _, _, rfl, rfl, .inl (small6 hn), _, _, rfl, rfl, _, rfl, _, _, _, _, rfl, rfl, hS, at1, sz2, ?_⟩
    exact k.fin (Same.refl H)
theorem scTur : FnScope ["fraction", "upper", "lower"] ["fraction"] (defScope (topS 5)) := ⟨rfl, rfl, rfl, by decide +kernel, rfl, by decide +kernel, by decide +kernel⟩
def spTur (K : PySem.W.Frag) : Sp := fun vs H Q _ => ∃ (a : Addr) (f : Frac), vs = [.ref a] ∧ SqT K H a (frV f) ∧ RetT H (frV (turnX f)) Q
theorem ok_tur {f : Addr} {fd : FuncData} (F : Fun K "turned" "turned" (topS 5) f fd) : FnOk P w K mg base CX0 1 f fd ["fraction"] (spTur K) := by
  refine F.ok scTur (fun vs H Q E h => ?_) (fun cdv A outer s H vs Q E hr h => ⟨_,
      pss_cons (ps_set (i := 1) scTur.nd rfl (Or.inl rfl) (pe_ix ix_tup (pv 0) pe_int (fun _ _ => rfl)))
      (pss_cons (ps_set (i := 2) scTur.nd rfl (Or.inl rfl) (pe_ix ix_tup (pv 0) pe_int (fun _ _ => rfl)))
      (pss_cons (ps_if (pt_cmpR op_eq (pv 1) pe_int (nomark _)) (pss_one (ps_ret (pe_tup (pa_cons pe_int (pa_cons pe_int pa_nil))))) pss_nil)
      (pss_cons (ps_if (pt_cmpR op_lt (pv 1) pe_int (nomark _)) (pss_one (ps_ret (pe_tup (pa_cons (pv 2) (pa_cons (pe_un un_neg (pv 1)) pa_nil))))) pss_nil)
      (pss_one (ps_ret (pe_tup (pa_cons (pe_un un_neg (pv 2)) (pa_cons (pv 1) pa_nil)))))))), ?_⟩)
  · obtain ⟨a, g, rfl, _⟩ := h
    rfl
  · obtain ⟨a, g, rfl, hS, k⟩ := h
    refine ⟨_, rfl, _, _, _, _, rfl, rfl, hS, at0, _, rfl, _, _, _, _, rfl, rfl, hS, at1, _, rfl, rfl, _, rfl, ?_⟩
    unfold turnX at k
    by_cases c : g.p = 0
    · rw [if_pos c] at k
      exact if_t (decide_eq_true (by rw [c])) ⟨sz2, k.fin (Same.refl H)⟩
    · rw [if_neg c] at k
      refine if_f (decide_eq_false (by simpa using c)) ⟨_, rfl, _, _, rfl, rfl, _, rfl, ?_⟩
      by_cases c2 : g.p < 0
      · rw [if_pos c2] at k
        refine if_t (decide_eq_true c2) ⟨_, rfl, _, rfl, _, rfl, sz2, ?_⟩
        have e : (frV ⟨(g.q : Int), (-g.p).toNat⟩ : List V) = [.int (g.q : Int), .int (-g.p)] := by
          show [V.int (g.q : Int), V.int (((-g.p).toNat : Nat) : Int)] = _
          rw [Int.toNat_of_nonneg (by omega)]
        rw [e] at k
        exact k.fin (Same.refl H)
      · rw [if_neg c2] at k
        refine if_f (decide_eq_false c2) ⟨_, rfl, _, rfl, _, rfl, sz2, ?_⟩
        have e : (frV ⟨-(g.q : Int), g.p.toNat⟩ : List V) = [.int (-(g.q : Int)), .int g.p] := by
          show [V.int (-(g.q : Int)), V.int ((g.p.toNat : Nat) : Int)] = _
          rw [Int.toNat_of_nonneg (by omega)]
        rw [e] at k
        exact k.fin (Same.refl H)
/-! ### changed_figure, turned_or_twisted -/
theorem scChg : FnScope ["n", "k"] ["n", "k"] (defScope (topS 20)) := ⟨rfl, rfl, rfl, by decide +kernel, rfl, by decide +kernel, by decide +kernel⟩
def spChg : Sp := fun vs H Q _ => ∃ n k : Int, vs = [.int n, .int k] ∧ RetV H (.int (chg n k)) Q
theorem two_lit : -(2 ^ 64) < (2 : Int) ∧ (2 : Int) < 2 ^ 64 := by decide
theorem ok_chg {f : Addr} {fd : FuncData} (F : Fun K "changed_figure" "changed_figure" (topS 20) f fd) : FnOk P w K mg base CX0 1 f fd ["n", "k"] spChg := by
  refine F.ok scChg (fun vs H Q E h => ?_) (fun cdv A outer s H vs Q E hr h => ⟨_,
      pss_cons (ps_if (pt_cmpR op_lt (pv 0) pe_int (nomark _)) (pss_one (ps_ret (pe_op op_add (pv 0) (pe_op op_mul pe_int (pv 1))))) pss_nil)
      (pss_one (ps_ret (pe_op op_sub (pv 0) (pe_op op_mul pe_int (pv 1))))), ?_⟩)
  · obtain ⟨n, k, rfl, _⟩ := h
    rfl
  · obtain ⟨n, j, rfl, k⟩ := h
    refine ⟨_, rfl, _, _, rfl, rfl, _, rfl, ?_⟩
    unfold chg at k
    by_cases c : n < 0
    · rw [if_pos c] at k
      exact if_t (decide_eq_true c) ⟨_, rfl, _, rfl, _, _, rfl, rfl, .inl two_lit, _, _, rfl, rfl, k _ (Same.refl _)⟩
    · rw [if_neg c] at k
      exact if_f (decide_eq_false c) ⟨_, rfl, _, rfl, _, _, rfl, rfl, .inl two_lit, _, _, rfl, rfl, k _ (Same.refl _)⟩
theorem scTot : FnScope ["fraction", "figure", "k"] ["fraction", "figure", "k"] (defScope (topS 19)) := ⟨rfl, rfl, rfl, by decide +kernel, rfl, by decide +kernel, by decide +kernel⟩
def spTot (K : PySem.W.Frag) : Sp := fun vs H Q _ => ∃ (a : Addr) (f : Frac) (n k : Int), vs = [.ref a, .int n, .int k] ∧ SqT K H a (frV f) ∧ (n ≠ 0 → (chg n k).natAbs ≤ 6) ∧ RetT H (frV (tw f n k)) Q
theorem ok_tot {f : Addr} {fd : FuncData} (F : Fun K "turned_or_twisted" "turned_or_twisted" (topS 19) f fd) (gT : ∃ t, mg "TURN" = some (.int 0 t)) (cU : ∀ base, Cal P w K mg base 1 "turned" ["fraction"] (spTur K)) (cW : ∀ base, Cal P w K mg base 1 "twisted" ["fraction", "n"] (spTwi K))
    (cC : ∀ base, Cal P w K mg base 1 "changed_figure" ["n", "k"] spChg) : FnOk P w K mg base CX0 2 f fd ["fraction", "figure", "k"] (spTot K) := by
  obtain ⟨t0, gT⟩ := gT
  refine F.ok scTot (fun vs H Q E h => ?_) (fun cdv A outer s H vs Q E hr h => ⟨_,
      pss_cons (ps_if (pt_cmpR op_eq (pv 1) (pe_glob (v := .int 0) rfl gT ⟨_, rfl⟩) (nomark _)) (pss_one (ps_ret (pe_k (cU _) hr rfl (pa_cons (pv 0) pa_nil)))) pss_nil)
      (pss_one (ps_ret (pe_k (cW _) hr rfl (pa_cons (pv 0) (pa_cons (pe_k (cC _) hr rfl (pa_cons (pv 1) (pa_cons (pv 2) pa_nil))) pa_nil))))), ?_⟩)
  · obtain ⟨a, g, n, k, rfl, _⟩ := h
    rfl
  · obtain ⟨a, g, n, j, rfl, hS, hn, k⟩ := h
    refine ⟨_, rfl, rfl, _, rfl, ?_⟩
    unfold tw at k
    by_cases c : n = 0
    · rw [if_pos c] at k
      exact if_t (decide_eq_true (by rw [c])) ⟨_, rfl, _, _, rfl, hS, k⟩
    · rw [if_neg c] at k
      refine if_f (decide_eq_false (by simpa using c)) ⟨_, rfl, _, rfl, _, rfl, _, _, rfl, fun H1 s1 => ?_⟩
      exact ⟨_, _, _, rfl, s1.sqT hS, hn c, k.same s1⟩
end
end Fc
end
section
set_option Elab.async false
set_option linter.all false
set_option maxRecDepth 100000
set_option maxHeartbeats 2000000
/-! closing -/
namespace Fc
open PySem PySem.Spec PyProof.Rows L2
open Kqz1 (Frac)
open Kqz3 (Ring)
section
variable {P : Program} {w : World} {K : PySem.W.Frag} {mg : Str → Option Value} {base : Heap}
/-! ### size_of -/
theorem scSiz : FnScope ["fraction"] ["fraction"] (defScope (topS 7)) := ⟨rfl, rfl, rfl, by decide +kernel, rfl, by decide +kernel, by decide +kernel⟩
def spSiz (K : PySem.W.Frag) : Sp := fun vs H Q _ => ∃ (a : Addr) (f : Frac), vs = [.ref a] ∧ SqT K H a (frV f) ∧ RetV H (.int (ringP f)) Q
theorem ok_siz {f : Addr} {fd : FuncData} (F : Fun K "size_of" "size_of" (topS 7) f fd) (nA : mg "abs" = none) : FnOk P w K mg base CX0 1 f fd ["fraction"] (spSiz K) := by
  refine F.ok scSiz (fun vs H Q E h => ?_) (fun cdv A outer s H vs Q E hr h => ⟨_, pss_one (ps_ret (pe_callB call_abs (by rfl) nA (by decide +kernel) (pa_cons (pe_ix ix_tup (pv 0) pe_int (fun _ _ => rfl)) pa_nil))), ?_⟩)
  · obtain ⟨a, g, rfl, _⟩ := h
    rfl
  · obtain ⟨a, g, rfl, hS, k⟩ := h
    exact ⟨_, rfl, _, _, _, _, rfl, rfl, hS, at0, _, rfl, k _ (Same.refl _)⟩
/-! ### ring_of -/
abbrev ringV (f : Frac) : List V := [.int (ringP f), .int (ringQ f)]
theorem scRin : FnScope ["fraction", "size"] ["fraction"] (defScope (topS 8)) := ⟨rfl, rfl, rfl, by decide +kernel, rfl, by decide +kernel, by decide +kernel⟩
def spRin (K : PySem.W.Frag) : Sp := fun vs H Q _ => ∃ (a : Addr) (f : Frac), vs = [.ref a] ∧ SqT K H a (frV f) ∧ RetT H (ringV f) Q
theorem ok_rin {f : Addr} {fd : FuncData} (F : Fun K "ring_of" "ring_of" (topS 8) f fd) (cS : ∀ base, Cal P w K mg base 1 "size_of" ["fraction"] (spSiz K)) : FnOk P w K mg base CX0 2 f fd ["fraction"] (spRin K) := by
  refine F.ok scRin (fun vs H Q E h => ?_) (fun cdv A outer s H vs Q E hr h => ⟨_,
      pss_cons (ps_set (i := 1) scRin.nd rfl (Or.inl rfl) (pe_k (cS _) hr rfl (pa_cons (pv 0) pa_nil)))
      (pss_cons (ps_if (pt_cmpR op_eq (pv 1) pe_int (nomark _)) (pss_one (ps_ret (pe_tup (pa_cons pe_int (pa_cons pe_int pa_nil))))) pss_nil)
      (pss_cons (ps_if (pt_cmpR op_lt (pe_ix ix_tup (pv 0) pe_int (fun _ _ => rfl)) pe_int (nomark _)) (pss_one (ps_ret (pe_tup (pa_cons (pv 1) (pa_cons (pe_op op_modN (pe_un un_neg (pe_ix ix_tup (pv 0) pe_int (fun _ _ => rfl))) (pv 1)) pa_nil))))) pss_nil)
      (pss_one (ps_ret (pe_tup (pa_cons (pv 1) (pa_cons (pe_op op_modN (pe_ix ix_tup (pv 0) pe_int (fun _ _ => rfl)) (pv 1)) pa_nil))))))), ?_⟩)
  · obtain ⟨a, g, rfl, _⟩ := h
    rfl
  · obtain ⟨a, g, rfl, hS, k⟩ := h
    refine ⟨_, rfl, _, _, rfl, hS, fun H1 s1 => ?_⟩
    have hS1 := s1.sqT hS
    refine ⟨_, rfl, rfl, _, rfl, ?_⟩
    by_cases c : ringP g = 0
    · have e : ringV g = [.int 0, .int 0] := by
        unfold ringV ringQ
        rw [if_pos c, c]
      rw [e] at k
      exact if_t (decide_eq_true (by rw [c])) ⟨sz2, k.fin s1⟩
    · refine if_f (decide_eq_false (by simpa using c)) ⟨_, rfl, _, _, _, _, rfl, rfl, hS1, at0, _, _, rfl, rfl, _, rfl, ?_⟩
      by_cases c2 : g.p < 0
      · have e : ringV g = [.int (ringP g), .int ((-(g.q : Int)).fmod (ringP g))] := by
          unfold ringV ringQ
          rw [if_neg c, if_pos c2]
        rw [e] at k
        exact if_t (decide_eq_true c2) ⟨_, rfl, _, rfl, _, _, _, _, rfl, rfl, hS1, at1, _, rfl, _, rfl, _, _, rfl, rfl, c, sz2, k.fin s1⟩
      · have e : ringV g = [.int (ringP g), .int ((g.q : Int).fmod (ringP g))] := by
          unfold ringV ringQ
          rw [if_neg c, if_neg c2]
        rw [e] at k
        exact if_f (decide_eq_false c2) ⟨_, rfl, _, rfl, _, _, _, _, rfl, rfl, hS1, at1, _, rfl, _, _, rfl, rfl, c, sz2, k.fin s1⟩
/-! ### other_share -/
theorem scOth : FnScope ["size", "share", "upper", "lower", "upper_times", "lower_times", "whole", "rest", "rest_times"] ["size", "share"] (defScope (topS 9)) := ⟨rfl, rfl, rfl, by decide +kernel, rfl, by decide +kernel, by decide +kernel⟩
def spOth : Sp := fun vs H Q _ => ∃ r : Ring, vs = [.int (r.p : Int), .int (r.q : Int)] ∧ RingOk r ∧ r.p ≠ 0 ∧ r.p < 1000000 ∧ RetV H (.int (Kqz3.inverse r : Int)) Q
theorem ok_oth {f : Addr} {fd : FuncData} (F : Fun K "other_share" "other_share" (topS 9) f fd) : FnOk P w K mg base CX0 1 f fd ["size", "share"] spOth := by
  refine F.ok scOth (fun vs H Q E h => ?_) (fun cdv A outer s H vs Q E hr h => ⟨_,
      pss_cons (ps_set (i := 2) scOth.nd rfl (Or.inl rfl) (pv 0))
      (pss_cons (ps_set (i := 3) scOth.nd rfl (Or.inl rfl) (pv 1))
      (pss_cons (ps_set (i := 4) scOth.nd rfl (Or.inl rfl) pe_int)
      (pss_cons (ps_set (i := 5) scOth.nd rfl (Or.inl rfl) pe_int)
      (pss_cons (ps_while PassesOwn.never (pt_cmpR op_gt (pv 3) pe_int (nomark _))
        (pss_cons (ps_set (i := 6) scOth.nd rfl (Or.inl rfl) (pe_op op_fdivN (pv 2) (pv 3)))
        (pss_cons (ps_set (i := 7) scOth.nd rfl (Or.inl rfl) (pe_op op_sub (pv 2) (pe_op op_mul (pv 6) (pv 3))))
        (pss_cons (ps_set (i := 8) scOth.nd rfl (Or.inl rfl) (pe_op op_sub (pv 4) (pe_op op_mul (pv 6) (pv 5))))
        (pss_cons (ps_set (i := 2) scOth.nd rfl (Or.inl rfl) (pv 3))
        (pss_cons (ps_set (i := 4) scOth.nd rfl (Or.inl rfl) (pv 5))
        (pss_cons (ps_set (i := 3) scOth.nd rfl (Or.inl rfl) (pv 7))
        (pss_one (ps_set (i := 5) scOth.nd rfl (Or.inl rfl) (pv 8))))))))))
      (pss_one (ps_ret (pe_op op_modN (pv 4) (pv 0)))))))), ?_⟩)
  · obtain ⟨r, rfl, _⟩ := h
    rfl
  · obtain ⟨r, rfl, o, hp, hb, k⟩ := h
    refine ⟨_, rfl, _, rfl, ?_⟩
    refine while_by (fun σ H' => H' = H ∧ ∃ (e : Eu) (v6 v7 v8 : Option V), σ = [some (.int (r.p : Int)), some (.int (r.q : Int)), some (.int e.u), some (.int e.l), some (.int e.ut), some (.int e.lt), v6, v7, v8] ∧ EuOk r.p r.q e)
      (fun σ _ => match σ with | [_, _, _, some (.int y), _, _, _, _, _] => y.toNat | _ => 0) ⟨rfl, ⟨r.p, r.q, 0, 1⟩, none, none, none, rfl, euStart o hp⟩ ?_ ?_
    · rintro σ H' ⟨rfl, e, v6, v7, v8, rfl, oe⟩
      refine ⟨_, rfl, _, _, rfl, rfl, _, rfl, ?_⟩
      by_cases c : 0 < e.l
      · have lb := oe.lb
        have ub := oe.ub
        have u0 := oe.u0
        have d1 : e.u.fdiv e.l = e.u / e.l := Int.fdiv_eq_ediv_of_nonneg e.u (by omega)
        have d2 : 0 ≤ e.u / e.l := Int.ediv_nonneg u0 (by omega)
        have d3 : e.u / e.l ≤ e.u := Int.ediv_le_self _ u0
        have m1 : -(2 ^ 64) < e.u.fdiv e.l ∧ e.u.fdiv e.l < 2 ^ 64 := by rw [d1]; omega
        obtain ⟨n0, n1⟩ := Eu.next_l oe c
        refine if_t (decide_eq_true c) ⟨_, rfl, _, rfl, _, _, rfl, rfl, ⟨by omega, by omega⟩, ?_⟩
        refine ⟨_, rfl, _, rfl, _, rfl, _, _, rfl, rfl, .inl m1, _, _, rfl, rfl, ?_⟩
        refine ⟨_, rfl, _, rfl, _, rfl, _, _, rfl, rfl, .inl m1, _, _, rfl, rfl, ?_⟩
        refine ⟨_, rfl, _, rfl, _, rfl, _, rfl, ⟨rfl, e.next, _, _, _, rfl, oe.next c⟩, ?_⟩
        show (e.next.l).toNat < e.l.toNat
        omega
      · refine if_f (decide_eq_false c) ?_
        have u1 := oe.done c
        refine ⟨_, rfl, _, rfl, _, _, rfl, rfl, by omega, ?_⟩
        have d := oe.um
        rw [u1] at d
        show Q (V.int (e.ut.fmod (r.p : Int))) H'
        rw [inverse_is o hp d]
        exact k _ (Same.refl _)
    · intro σ H' Q1 Q2 hq h
      obtain ⟨v, e, i, j, e1, e2, k1, e3, h⟩ := h
      exact ⟨v, e, i, j, e1, e2, k1, e3, hq _ _ h⟩
/-! ### name_of -/
abbrev rV (r : Ring) : List V := [.int (r.p : Int), .int (r.q : Int)]
theorem ringV_is (f : Frac) : ringV f = rV (Kqz3.ringOf f) := by
  unfold ringV rV
  rw [ringP_is, ringQ_is]
theorem scNam : FnScope ["ring"] ["ring"] (defScope (topS 10)) := ⟨rfl, rfl, rfl, by decide +kernel, rfl, by decide +kernel, by decide +kernel⟩
def spNam (K : PySem.W.Frag) : Sp := fun vs H Q _ => ∃ (a : Addr) (r : Ring), vs = [.ref a] ∧ SqT K H a (rV r) ∧ RingOk r ∧ r.p < 1000000 ∧ RetT H (rV (Kqz3.name r)) Q
theorem rat0 {r : Ring} : atI (rV r) 0 = some (.int (r.p : Int)) := rfl
theorem rat1 {r : Ring} : atI (rV r) 1 = some (.int (r.q : Int)) := rfl
theorem ok_nam {f : Addr} {fd : FuncData} (F : Fun K "name_of" "name_of" (topS 10) f fd) (cO : ∀ base, Cal P w K mg base 1 "other_share" ["size", "share"] spOth) (nM : mg "min" = none) : FnOk P w K mg base CX0 2 f fd ["ring"] (spNam K) := by
  refine F.ok scNam (fun vs H Q E h => ?_) (fun cdv A outer s H vs Q E hr h => ⟨_,
      pss_cons (ps_if (pt_cmpR op_eq (pe_ix ix_tup (pv 0) pe_int (fun _ _ => rfl)) pe_int (nomark _)) (pss_one (ps_ret (pe_tup (pa_cons pe_int (pa_cons pe_int pa_nil))))) pss_nil)
      (pss_one (ps_ret (pe_tup (pa_cons (pe_ix ix_tup (pv 0) pe_int (fun _ _ => rfl)) (pa_cons (pe_callB (call_min2 rfl) (by rfl) nM (by decide +kernel) (pa_cons (pe_ix ix_tup (pv 0) pe_int (fun _ _ => rfl)) (pa_cons
        (pe_k (cO _) hr rfl (pa_cons (pe_ix ix_tup (pv 0) pe_int (fun _ _ => rfl)) (pa_cons (pe_ix ix_tup (pv 0) pe_int (fun _ _ => rfl)) pa_nil))) pa_nil))) pa_nil))))), ?_⟩)
  · obtain ⟨a, r, rfl, _⟩ := h
    rfl
  · obtain ⟨a, r, rfl, hS, o, hb, k⟩ := h
    obtain ⟨n1, n2⟩ := name_is o
    have en : rV (Kqz3.name r) = [.int (nameP r), .int (nameQ r)] := by
      unfold rV
      rw [n1, n2]
    rw [en] at k
    refine ⟨_, rfl, _, _, _, _, rfl, rfl, hS, rat0, rfl, _, rfl, ?_⟩
    by_cases c : r.p = 0
    · have e : ([.int (nameP r), .int (nameQ r)] : List V) = [.int 0, .int 0] := by
        unfold nameP nameQ
        rw [if_pos c, c]
        rfl
      rw [e] at k
      exact if_t (decide_eq_true (by rw [c] <;> rfl)) ⟨sz2, k.fin (Same.refl H)⟩
    · have ci : ¬ (r.p : Int) = 0 := by omega
      have e : ([.int (nameP r), .int (nameQ r)] : List V) = [.int (r.p : Int), .int (if (Kqz3.inverse r : Int) < r.q then (Kqz3.inverse r : Int) else r.q)] := by
        unfold nameP nameQ
        rw [if_neg c]
      rw [e] at k
      refine if_f (decide_eq_false (by simpa using ci)) ⟨_, rfl, _, _, _, _, rfl, rfl, hS, rat0, _, rfl, _, _, _, _, rfl, rfl, hS, rat1, _, rfl, _, _, _, _, rfl, rfl, hS, rat0, _, rfl, _, _, _, _, rfl, rfl, hS, rat1, ?_⟩
      exact ⟨r, rfl, o, c, hb, fun H1 s1 => ⟨_, _, rfl, sz2, k.fin s1⟩⟩
/-! ### is_ring -/
theorem scIsr : FnScope ["size", "share"] ["size", "share"] (defScope (topS 12)) := ⟨rfl, rfl, rfl, by decide +kernel, rfl, by decide +kernel, by decide +kernel⟩
def isRi (p q : Nat) : Bool := if p = 0 then decide (q = 0) else decide (q < p) && decide (Nat.gcd p q = 1)
def spIsr : Sp := fun vs H Q _ => ∃ p q : Nat, vs = [.int (p : Int), .int (q : Int)] ∧ RetV H (.bl (isRi p q)) Q
theorem ok_isr {f : Addr} {fd : FuncData} (F : Fun K "is_ring" "is_ring" (topS 12) f fd) (cN : ∀ base, Cal P w K mg base 1 "nothing_in_common" ["one", "other"] spNic) : FnOk P w K mg base CX0 2 f fd ["size", "share"] spIsr := by
  refine F.ok scIsr (fun vs H Q E h => ?_) (fun cdv A outer s H vs Q E hr h => ⟨_, pss_cons (ps_if (pt_cmpR op_eq (pv 0) pe_int (nomark _))
      (pss_one (ps_ret (pe_cmpR op_eq (pv 1) pe_int (nomark _)))) pss_nil)
      (pss_one (ps_ret (pe_and (pe_cmpR op_lt (pv 1) (pv 0) (nomark _)) (pe_one (pe_k (cN _) hr rfl (pa_cons (pv 0) (pa_cons (pv 1) pa_nil))))))), ?_⟩)
  · obtain ⟨a, b, rfl, _⟩ := h
    rfl
  · obtain ⟨a, b, rfl, k⟩ := h
    refine ⟨_, rfl, rfl, _, rfl, ?_⟩
    unfold isRi at k
    by_cases c : a = 0
    · rw [if_pos c] at k
      refine if_t (decide_eq_true (by rw [c] <;> rfl)) ⟨_, rfl, rfl, ?_⟩
      have e : decide (V.int (b : Int) = V.int 0) = decide (b = 0) := by
        rw [Bool.eq_iff_iff]
        simp
      rw [e]
      exact k _ (Same.refl _)
    · rw [if_neg c] at k
      have ci : ¬ (a : Int) = 0 := by omega
      refine if_f (decide_eq_false (by simpa using ci)) ⟨_, rfl, _, rfl, _, _, rfl, rfl, _, rfl, ?_⟩
      by_cases c2 : b < a
      · rw [decide_eq_true c2, Bool.true_and] at k
        exact if_t (decide_eq_true (by omega)) ⟨_, rfl, _, rfl, (a : Int), (b : Int), rfl, by omega, by omega, k⟩
      · rw [decide_eq_false c2, Bool.false_and] at k
        exact if_f (decide_eq_false (by omega)) (k _ (Same.refl _))
/-! ### bare_divisors -/
theorem scBar : FnScope ["product", "divisors", "n"] ["product"] (defScope (topS 14)) := ⟨rfl, rfl, rfl, by decide +kernel, rfl, by decide +kernel, by decide +kernel⟩
def natV (l : List Nat) : List V := l.map fun (n : Nat) => V.int (n : Int)
def spBar : Sp := fun vs H Q _ => ∃ pr : Nat, vs = [.int (pr : Int)] ∧ pr < 1000000 ∧ RetL H (natV (bareDiv pr)) Q
theorem filter_take {α : Type} (p : α → Bool) {l : List α} {i : Nat} {x : α} (h : l[i]? = some x) : (l.take (i + 1)).filter p = (l.take i).filter p ++ (if p x = true then [x] else []) := by
  rw [List.take_add_one, h, List.filter_append]
  congr 1
  show List.filter p [x] = _
  rw [List.filter_cons]
  split <;> rfl
theorem natV_len (l : List Nat) : (natV l).length = l.length := by unfold natV; rw [List.length_map]
theorem natV_app (a b : List Nat) : natV (a ++ b) = natV a ++ natV b := by unfold natV; rw [List.map_append]
theorem ok_bar {f : Addr} {fd : FuncData} (F : Fun K "bare_divisors" "bare_divisors" (topS 14) f fd) (cN : ∀ base, Cal P w K mg base 1 "nothing_in_common" ["one", "other"] spNic) (nR : mg "range" = none) : FnOk P w K mg base CX0 2 f fd ["product"] spBar := by
  refine F.ok scBar (fun vs H Q E h => ?_) (fun cdv A outer s H vs Q E hr h => ⟨_,
      pss_cons (ps_setLc (i := 1) (own := [("n", 2)]) (g := gName 2) (by rfl) scBar.nd rfl rfl (sw_true rfl rfl rfl (by decide +kernel)) (pi_range2 (by rfl) nR (pa_cons pe_int (pa_cons (pe_op op_add (pv 0) pe_int) pa_nil))) (blkOk_by (own := [("n", 2)]) (N := ["product", "divisors", "n"]) (sc := defScope (topS 14)) (by decide +kernel))
          (fun _ _ _ _ _ => pg_name (i := 2) scBar.nd rfl (Or.inl rfl)) (fun _ _ _ _ _ => pts_one (pt_cmpR op_eq (pe_op op_modN (pv 0) (pv 2)) pe_int (nomark _))) (fun _ _ _ _ _ => pv 2))
      (pss_one (ps_ret (pe_lc (own := [("n", 2)]) (g := gName 2) (by rfl) scBar.nd (pi_list (pv 1)) (blkOk_by (own := [("n", 2)]) (N := ["product", "divisors", "n"]) (sc := defScope (topS 14)) (by decide +kernel))
          (fun _ _ _ _ _ => pg_name (i := 2) scBar.nd rfl (Or.inl rfl)) (fun _ _ _ _ _ => pts_one (pt_val (pe_k (cN _) hr rfl (pa_cons (pe_op op_fdivN (pv 0) (pv 2)) (pa_cons (pv 2) pa_nil))))) (fun _ _ _ _ _ => pv 2)))), ?_⟩)
  · obtain ⟨a, rfl, _⟩ := h
    rfl
  · obtain ⟨pr, rfl, hb, k⟩ := h
    have hb2 : (pr : Int) < 1000000 := by omega
    refine ⟨_, rfl, _, _, rfl, rfl, 1, (pr : Int) + 1, rfl, by omega, fun D hD => ?_⟩
    let l1 := List.range' 1 pr
    let p1 : Nat → Bool := fun n => pr % n == 0
    have en : (((pr : Int) + 1) - 1).toNat = pr := by omega
    have g1 : ∀ i, i < pr → l1[i]? = some (1 + i) := fun i hi => by
      show (List.range' 1 pr)[i]? = _
      rw [List.getElem?_range' (by simpa using hi), Nat.one_mul]
    refine lc_range (lo := 1) (n := (((pr : Int) + 1) - 1).toNat) (fun i H' => Same H H' ∧ H' D = some (.lst (natV ((l1.take i).filter p1)))) ⟨same_upd hD, upd_same⟩ ?_ ?_
    · rintro i H' hi ⟨s1, hD1⟩
      rw [en] at hi
      have hx := g1 i hi
      have ft := filter_take p1 hx
      refine ⟨rfl, _, rfl, _, rfl, _, _, rfl, rfl, by omega, rfl, _, rfl, ?_⟩
      have et : (decide (V.int ((pr : Int).fmod (1 + (i : Int))) = V.int 0)) = p1 (1 + i) := by
        have e1 : (pr : Int).fmod (1 + (i : Int)) = ((pr % (1 + i) : Nat) : Int) := by
          rw [Int.fmod_eq_emod_of_nonneg _ (by omega)]
          simp
        rw [e1, Bool.eq_iff_iff, decide_eq_true_iff]
        show _ ↔ (pr % (1 + i) == 0) = true
        rw [beq_iff_eq, V.int.injEq]
        omega
      by_cases c : p1 (1 + i) = true
      · refine if_t (by rw [et]; exact c) ⟨_, rfl, _, hD1, ?_, ?_, ?_⟩
        · rw [natV_len]
          have a1 := List.length_filter_le p1 (l1.take i)
          have a2 : (l1.take i).length ≤ pr := by
            rw [List.length_take]
            show min i (List.range' 1 pr).length ≤ pr
            rw [List.length_range']
            omega
          have : sizeLine = 16777216 := sizeLine_eq
          omega
        · exact fun b o e => by
            by_cases hbD : b = D
            · rw [hbD, hD] at e
              cases e
            · rw [upd_ne hbD]
              exact s1 b o e
        · rw [upd_same, ft, if_pos c, natV_app]
          rfl
      · refine if_f (by rw [et]; simpa using c) ⟨s1, ?_⟩
        rw [ft, if_neg c, List.append_nil]
        exact hD1
    · rintro H' ⟨s1, hD1⟩
      rw [en] at hD1
      have full : l1.take pr = l1 := by
        apply List.take_of_length_le
        show (List.range' 1 pr).length ≤ pr
        rw [List.length_range']
        exact Nat.le_refl _
      rw [full] at hD1
      refine ⟨_, rfl, D, rfl, ⟨_, SqL.of hD1⟩, fun D2 hD2 => ?_⟩
      let l2 := l1.filter p1
      let p2 : Nat → Bool := fun n => Nat.gcd (pr / n) n == 1
      have len2 : l2.length ≤ pr := by
        have a1 := List.length_filter_le p1 l1
        have a2 : l1.length = pr := List.length_range'
        show (l1.filter p1).length ≤ pr
        omega
      refine lc_list (K := K) (a := D) (xs := natV l2) (fun i H2 => Same H' H2 ∧ H2 D2 = some (.lst (natV ((l2.take i).filter p2)))) ⟨same_upd hD2, upd_same⟩ (fun i H2 _ ⟨s2, _⟩ => s2.seq (SqL.of hD1)) ?_ ?_
      · rintro i x H2 hx ⟨s2, hD3⟩
        obtain ⟨n, hn, rfl⟩ : ∃ n, l2[i]? = some n ∧ x = V.int (n : Int) := by
          unfold natV at hx
          rw [List.getElem?_map] at hx
          cases e : l2[i]? with
          | none =>
            rw [e] at hx
            cases hx
          | some n =>
            rw [e] at hx
            exact ⟨n, rfl, (Option.some.inj hx).symm⟩
        have hmem : n ∈ l2 := List.mem_of_getElem? hn
        have n1 : 1 ≤ n ∧ n ≤ pr := by
          have h1 := (List.mem_filter.mp hmem).1
          have h2 : n ∈ List.range' 1 pr := h1
          rw [List.mem_range'] at h2
          obtain ⟨j, j1, j2⟩ := h2
          omega
        have ft := filter_take p2 hn
        have ed : (pr : Int).fdiv (n : Int) = ((pr / n : Nat) : Int) := by
          rw [Int.fdiv_eq_ediv_of_nonneg _ (by omega)]
          simp
        refine ⟨rfl, _, rfl, _, rfl, _, _, rfl, rfl, ⟨by omega, by omega⟩, _, rfl, (pr : Int).fdiv (n : Int), (n : Int), rfl, by rw [ed]; exact Int.natCast_nonneg _, by omega, fun H3 s3 => ⟨_, rfl, ?_⟩⟩
        have et : decide (Int.gcd ((pr : Int).fdiv (n : Int)) (n : Int) = 1) = p2 n := by
          rw [ed]
          rfl
        rw [et]
        have hD4 := s3 _ _ hD3
        have s4 : Same H' H3 := s2.trans s3
        by_cases c : p2 n = true
        · refine if_t c ⟨_, rfl, _, hD4, ?_, ?_, ?_⟩
          · rw [natV_len]
            have a1 := List.length_filter_le p2 (l2.take i)
            have a2 : (l2.take i).length ≤ l2.length := List.length_take_le' _ _
            have : sizeLine = 16777216 := sizeLine_eq
            omega
          · exact fun b o e => by
              by_cases hbD : b = D2
              · rw [hbD, hD2] at e
                cases e
              · rw [upd_ne hbD]
                exact s4 b o e
          · rw [upd_same, ft, if_pos c, natV_app]
            rfl
        · refine if_f (by simpa using c) ⟨s4, ?_⟩
          rw [ft, if_neg c, List.append_nil]
          exact hD4
      · rintro H2 ⟨s2, hD3⟩
        rw [natV_len, List.take_length] at hD3
        exact k _ D2 (s1.trans s2) hD3
end
end Fc
end
section
set_option Elab.async false
set_option linter.all false
set_option maxRecDepth 100000
set_option maxHeartbeats 2000000
/-! zip of a list and a tuple; sum of a tuple -/
namespace Fc
open PySem PySem.Spec PyProof.Rows L2
/-- a list at a, a tuple at b, their items in new pairs, as long as both are -/
def ItM (K : PySem.W.Frag) (a b : Addr) : It :=
  ⟨fun i H => ∃ (xs ys : List V) (x y : V), SqL K H a xs ∧ SqT K H b ys ∧ xs[i]? = some x ∧ ys[i]? = some y,
    fun i H v H' => ∃ T x y, v = .ref T ∧ H T = none ∧ H' = upd H T (.tup [x, y]) ∧ (∀ zs, SqL K H a zs → zs[i]? = some x) ∧ ∀ zs, SqT K H b zs → zs[i]? = some y,
    fun i H => ∃ xs ys : List V, SqL K H a xs ∧ SqT K H b ys ∧ i = xs.length ∧ i = ys.length⟩
theorem mem5 {c z TI TO i1 i2 : Addr} (h : c ∈ [z, TI, TO, i1, i2]) : c = z ∨ c = TI ∨ c = TO ∨ c = i1 ∨ c = i2 := by simpa using h
theorem not5 {c z TI TO i1 i2 : Addr} (h : c ∉ [z, TI, TO, i1, i2]) : c ≠ z ∧ c ≠ TI ∧ c ≠ TO ∧ c ≠ i1 ∧ c ≠ i2 := by
  refine ⟨fun q => h ?_, fun q => h ?_, fun q => h ?_, fun q => h ?_, fun q => h ?_⟩ <;> (rw [q]; simp)
theorem turn_m {P : Program} {w : World} {K : PySem.W.Frag} {elts : List Expr} {kk : Nat} {tpos : Pos} {a b z TI TO i1 i2 : Addr} (S : ZipSep2 z TI TO i1 i2 [i1, a] [i2, b]) :
    Turn P w K (.Tuple elts kk tpos) (ItM K a b) [z, TI, TO, i1, i2] z (fun i h => IsZip h z TI TO .none ∧ IsTupOf2 h TI (.ref i1) (.ref i2) ∧ (∃ x y, IsTupOf2 h TO x y) ∧ h.IsListIter i1 a i ∧ h.IsTupleIter i2 b i) where
  mem := List.mem_cons_self
  obj := fun i h st c hc => by
    obtain ⟨s1, s2, ⟨x, y, s3⟩, ⟨o1, e1, _, d1⟩, ⟨o2, e2, _, d2⟩⟩ := st
    rcases mem5 hc with q | q | q | q | q <;> rw [q]
    · exact ⟨_, s1, fun v => nofun⟩
    · exact ⟨_, s2, fun v => nofun⟩
    · exact ⟨_, s3, fun v => nofun⟩
    · exact ⟨o1, e1, fun v n => by rw [d1] at n; cases n⟩
    · exact ⟨o2, e2, fun v n => by rw [d2] at n; cases n⟩
  keep := fun i h h' st k => by
    obtain ⟨s1, s2, ⟨x, y, s3⟩, s4, s5⟩ := st
    refine ⟨k z (by simp) _ s1, k TI (by simp) _ s2, ⟨x, y, k TO (by simp) _ s3⟩, ?_, ?_⟩
    · exact s4.at fun o => k i1 (by simp) o
    · exact s5.at fun o => k i2 (by simp) o
  item := by
    intro X eP ew eK hc i pins s σ H E I hf st hg
    subst eP ew eK
    obtain ⟨s1, s2, ⟨x0, y0, s3⟩, s4, s5⟩ := st
    obtain ⟨xs, ys, x, y, qx, qy, gx, gy⟩ := hg
    obtain ⟨us, ru, pu, _⟩ := I.list qx
    obtain ⟨vs, rv, pv, _⟩ := I.tuple qy
    obtain ⟨u, gu, ruu⟩ := ru.get gx
    obtain ⟨v, gv, rvv⟩ := rv.get gy
    have zl : z < s.heap.objs.size := Heap.lt_size s1
    have hh := I.ok.hd hc
    have ne1 : a ≠ i1 := fun q => by
      obtain ⟨o1, e1, c1, _⟩ := s4
      obtain ⟨o2, _, e2, c2, _⟩ := pu
      rw [q, e1] at e2
      cases e2
      rw [c1] at c2
      exact absurd (Value.type.inj c2) (by decide)
    have ne2 : b ≠ i2 := fun q => by
      obtain ⟨o1, e1, c1, _⟩ := s5
      obtain ⟨o2, e2, c2, _⟩ := pv
      rw [q, e1] at e2
      cases e2
      rw [c1] at c2
      exact absurd (Value.type.inj c2) (by decide)
    have l1 : i < us.length := (List.getElem?_eq_some_iff.mp gu).1
    have l2 : i < vs.length := (List.getElem?_eq_some_iff.mp gv).1
    refine wpAny_pyNext_zipD2_item S (Draws.list (prog := X.prog) (w := X.w) (A := X.A.in1) hh i1 a ne1 us.toArray) (Draws.tuple (prog := X.prog) (w := X.w) (A := X.A.in1) hh i2 b ne2 vs.toArray) s1 s2 s3 ⟨s4, pu.isList⟩ ⟨s5, pv⟩ (by simpa using l1) (by simpa using l2) fun x1 x2 h' tk p1 p2 z1 z2 z3 z4 z5 z6 z7 => ?_
    have e1 : x1 = u := by
      have p1' : us[i]? = some x1 := by simpa using p1
      rw [gu] at p1'
      exact (Option.some.inj p1').symm
    have e2 : x2 = v := by
      have p2' : vs[i]? = some x2 := by simpa using p2
      rw [gv] at p2'
      exact (Option.some.inj p2').symm
    subst e1
    subst e2
    refine ⟨_, rfl, wpAny_letOwnedTupleGo_zip (s := { s with heap := h', toks := tk }) z1 fun h2 z8 sb => ?_⟩
    have at_ : h2.get? s.heap.objs.size = some { cls := .type "tuple", data := .seq #[x1, x2] } := (sb.2 _ (Nat.ne_of_gt zl)).trans z5
    have new : ObjOk X.prog X.w (upd H s.heap.objs.size (.tup [x, y])) h2 s.heap.objs.size (.tup [x, y]) := ⟨sz2, [x1, x2], .cons ruu (.cons rvv .nil), ⟨_, at_, rfl, _, rfl⟩⟩
    have J : Inv X pins σ (upd H s.heap.objs.size (.tup [x, y])) { s with heap := h2, toks := tk } := by
      refine I.turnedNew (t' := tk) (ch := [z, TI, TO, i1, i2]) (fun c o hb q => ?_) hf (Nat.le_refl _) new
      obtain ⟨n1, _, n3, n4, n5⟩ := not5 hb
      exact (sb.2 c n1).trans (z7 c o n1 n3 n4 n5 q)
    refine ⟨.ref s.heap.objs.size, _, J, rfl, ⟨_, x, y, rfl, I.hok.fresh (Nat.le_refl _), rfl, fun l hl => by rw [I.list_inj hl qx]; exact gx, fun l hl => by rw [I.tuple_inj hl qy]; exact gy⟩, ⟨z8, ?_, ⟨x1, x2, ?_⟩, ?_, ?_⟩, fun c hcm => ?_⟩
    · exact (sb.2 _ S.TIz).trans (z7 _ _ S.TIz S.TITO S.TIi1 S.TIi2 s2)
    · exact (sb.2 _ S.TOz).trans z2
    · exact z3.1.at fun o q => (sb.2 _ (Ne.symm S.zi1)).trans q
    · exact z4.1.at fun o q => (sb.2 _ (Ne.symm S.zi2)).trans q
    · have hlt : c < s.heap.objs.size := by
        rcases mem5 hcm with q | q | q | q | q <;> rw [q]
        · exact zl
        · exact Heap.lt_size s2
        · exact Heap.lt_size s3
        · obtain ⟨_, e1, _⟩ := s4
          exact Heap.lt_size e1
        · obtain ⟨_, e2, _⟩ := s5
          exact Heap.lt_size e2
      rw [upd_ne (Nat.ne_of_lt hlt)]
      exact (hf c hcm).1
  done := by
    intro X eP ew eK hc i pins s σ H E I hf st hg
    subst eP ew eK
    obtain ⟨s1, s2, ⟨x0, y0, s3⟩, s4, s5⟩ := st
    obtain ⟨xs, ys, qx, qy, n1, n2⟩ := hg
    obtain ⟨us, ru, pu, _⟩ := I.list qx
    obtain ⟨vs, rv, pv, _⟩ := I.tuple qy
    have l1 := ru.length
    have l2 := rv.length
    have hh := I.ok.hd hc
    have ne1 : a ≠ i1 := fun q => by
      obtain ⟨o1, e1, c1, _⟩ := s4
      obtain ⟨o2, _, e2, c2, _⟩ := pu
      rw [q, e1] at e2
      cases e2
      rw [c1] at c2
      exact absurd (Value.type.inj c2) (by decide)
    have ne2 : b ≠ i2 := fun q => by
      obtain ⟨o1, e1, c1, _⟩ := s5
      obtain ⟨o2, e2, c2, _⟩ := pv
      rw [q, e1] at e2
      cases e2
      rw [c1] at c2
      exact absurd (Value.type.inj c2) (by decide)
    refine wpAny_pyNext_zipD2_end S (Draws.list (prog := X.prog) (w := X.w) (A := X.A.in1) hh i1 a ne1 us.toArray) (Draws.tuple (prog := X.prog) (w := X.w) (A := X.A.in1) hh i2 b ne2 vs.toArray) s1 s2 s3 ⟨s4, pu.isList⟩ ⟨s5, pv⟩ (by simp; omega) (by simp; omega) (.inl (by simp; omega)) fun h' tk hk => ⟨rfl, ?_⟩
    refine I.turnedL (t' := tk) (ch := [z, TI, TO, i1, i2]) (fun c o hb q => ?_) hf
    obtain ⟨n1, _, n3, n4, n5⟩ := not5 hb
    exact hk c o n1 n3 n4 n5 q
  self := fun A i s Q E st h => wpAny_pyIter_zip st.1 h
/-- zip(a list, a list or a tuple) -/
def iZipB (K : PySem.W.Frag) (ta : TA) : TI := fun σ H R => ta σ H fun vs H1 => ∃ a b xs ys, vs = [.ref a, .ref b] ∧ SqL K H1 a xs ∧ ((SqL K H1 b ys ∧ R (Itz K a b) H1) ∨ (SqT K H1 b ys ∧ R (ItM K a b) H1))
theorem fresh5 {X : Cx} {pins : List (Addr × Obj)} {σ : L2.St} {H : Hp} {s : Shared} (I : Inv X pins σ H s) : ∀ c ∈ [s.heap.objs.size + 4, s.heap.objs.size + 2, s.heap.objs.size + 3, s.heap.objs.size, s.heap.objs.size + 1], FpOk X pins H c := fun c hcm => by
  have hle : s.heap.objs.size ≤ c := by
    rcases mem5 hcm with q | q | q | q | q <;> (rw [q]; first | exact Nat.le_add_right _ _ | exact Nat.le_refl _)
  exact I.fpOk hle (I.hok.fresh hle)
theorem pi_zipB {X : Cx} {e e2 : Expr} {ta : TA} {p pos tpos : Pos} {elts : List Expr} {kk : Nat} (hg : Gl X "zip") (hm : X.mg "zip" = none) (ha : PA X [e, e2] ta)
    (hs : starEach [e, e2] X.env = (false, eval e X.env) :: starEach [e2] X.env := by rfl) (hpl : (backTo pos (starEach [e2] X.env)).any (·.1) = false := by rfl) :
    PI X (.Tuple elts kk tpos) (.Call (.Name "zip" p) [e, e2] [] pos) (iZipB X.K ta) := by
  refine ⟨fun pins s σ H R I h => Call_ (ld_blt I hg hm PyProof.Rows.boot_zip (PyProof.Rows.callWith_type1 ?_ hs hpl))⟩
  refine thn (ha.run pos pins s σ H _ I h) fun us s1 ⟨vs, H1, I1, r1, a, b, xs, ys, ex, hx, q1⟩ => ?_
  subst ex
  obtain ⟨u1, u2, eu, ra, rb⟩ := vals2 r1
  subst eu
  cases ra
  cases rb
  obtain ⟨its, rv, p1, _⟩ := I1.list hx
  rcases q1 with ⟨hy, q⟩ | ⟨hy, q⟩
  · obtain ⟨its2, rv2, p2, _⟩ := I1.list hy
    refine call_zip_2 p1.isList p2.isList fun h' z1 z2 z3 z4 z5 z6 z7 => wpAny_pyIter_zip z1 ?_
    exact ⟨s1.heap.objs.size + 4, _, _, _, H1, rfl, I1.kept (t' := s1.toks) z7, turn_zip (PySem.W.ktu_apart s1.heap.objs.size a b p1.lt p2.lt), ⟨z1, z2, ⟨_, _, z3⟩, z4, z5⟩, fresh5 I1, q⟩
  · obtain ⟨its2, rv2, p2, _⟩ := I1.tuple hy
    obtain ⟨o2, g2, _⟩ := id p2
    refine zip_begins2 (begins_list a its.toArray) (begins_tuple b its2.toArray) p1.isList p2 fun h' z1 z2 z3 z4 z5 z6 z7 => wpAny_pyIter_zip z1 ?_
    refine ⟨s1.heap.objs.size + 4, _, _, _, H1, rfl, I1.kept (t' := s1.toks) z7, turn_m (zip_sep2 (fp1 := [a]) (fp2 := [b]) (fun c hc => ?_) fun c hc => ?_), ⟨z1, z2, ⟨_, _, z3⟩, ⟨_, z4, rfl, rfl⟩, ⟨_, z5, rfl, rfl⟩⟩, fresh5 I1, q⟩
    · have : c = a := by simpa using hc
      rw [this]
      exact p1.lt
    · have : c = b := by simpa using hc
      rw [this]
      exact Heap.lt_size g2
/-- the loop over both -/
theorem for_m {K : PySem.W.Frag} {a b : Addr} {xs ys : List V} {g : TG} {tb : TS} {D : Ends} {σ : L2.St} {H : Hp} (hl : xs.length = ys.length) (Pv : Nat → L2.St → Hp → Prop) (h0 : Pv 0 σ H) (hq : ∀ i σ H, Pv i σ H → SqL K H a xs ∧ SqT K H b ys)
    (hs : ∀ (i : Nat) (x y : V) (T : Addr) (σ : L2.St) (H : Hp), xs[i]? = some x → ys[i]? = some y → Pv i σ H → H T = none → g (.ref T) σ (upd H T (.tup [x, y])) fun σ2 H2 => tb { D with nx := Pv (i + 1), ct := Pv (i + 1), bk := D.nx } σ2 H2) (hd : ∀ σ H, Pv xs.length σ H → D.nx σ H) :
    ∃ W : Nat → Nat → L2.St → Hp → Prop, (∃ m, W 0 m σ H) ∧ ∀ i m σ H, W i m σ H →
      ((ItM K a b).stop i H ∧ D.nx σ H) ∨ ((ItM K a b).go i H ∧ ∃ N : L2.St → Hp → Prop, (∀ σ' H', N σ' H' → ∃ m', m' < m ∧ W (i + 1) m' σ' H') ∧ ∀ v H', (ItM K a b).yld i H v H' → g v σ H' fun σ2 H2 => tb { D with nx := N, ct := N, bk := D.nx } σ2 H2) := by
  refine ⟨fun i m σ H => m = xs.length - i ∧ i ≤ xs.length ∧ Pv i σ H, ⟨_, rfl, Nat.zero_le _, h0⟩, ?_⟩
  rintro i m σ H ⟨rfl, hi, p⟩
  obtain ⟨qx, qy⟩ := hq i σ H p
  rcases Nat.lt_or_eq_of_le hi with c | c
  · have gx : xs[i]? = some xs[i] := List.getElem?_eq_getElem c
    have gy : ys[i]? = some (ys[i]'(hl ▸ c)) := List.getElem?_eq_getElem _
    refine .inr ⟨⟨xs, ys, _, _, qx, qy, gx, gy⟩, Pv (i + 1), fun σ' H' p' => ⟨_, Nat.sub_lt_sub_left c (Nat.lt_succ_self i), rfl, c, p'⟩, ?_⟩
    rintro v H' ⟨T, x, y, rfl, fr, rfl, ax, ay⟩
    exact hs i x y T σ H (ax xs qx) (ay ys qy) p fr
  · subst c
    exact .inl ⟨⟨xs, ys, qx, qy, rfl, hl⟩, hd σ H p⟩
end Fc
end
section
set_option Elab.async false
set_option linter.all false
set_option maxRecDepth 100000
set_option maxHeartbeats 2000000
namespace Fc
open PySem PySem.Spec PyProof.Rows L2
theorem preSum_list : ∀ (ns : List Int) (j : Nat), j ≤ ns.length → preSum (fun i => ns.getD i 0) j = (ns.take j).sum
  | ns, 0, _ => by simp [preSum]
  | ns, j + 1, h => by
    show preSum (fun i => ns.getD i 0) j + ns.getD j 0 = _
    rw [preSum_list ns j (by omega), List.take_add_one, List.sum_append, List.getD_eq_getElem?_getD]
    have : j < ns.length := by omega
    rw [List.getElem?_eq_getElem this]
    simp
theorem vals_int_at : ∀ {ns : List Int} {us : List Value}, Vals (ns.map V.int) us → ∀ {i : Nat} {v : Value}, us[i]? = some v → ∃ t, v = .int (ns.getD i 0) t
  | [], us, r, i, v, e => by
    cases r
    simp at e
  | n :: ns, us, r, i, v, e => by
    cases r with
    | cons a b =>
      cases i with
      | zero =>
        have e' := Option.some.inj (by simpa using e)
        subst e'
        obtain ⟨t, h⟩ := (show ∃ t, _ = Value.int n t from a)
        exact ⟨t, h⟩
      | succ i =>
        have := vals_int_at b (i := i) (v := v) (by simpa using e)
        simpa using this
/-- sum of a tuple of ints -/
theorem cr_sumT {X : Cx} (hc : X.calm = true) : CallR X (.builtin "sum") (fun vs H Q => ∃ (a : Addr) (ns : List Int), vs = [V.ref a] ∧ SqT X.K H a (ns.map V.int) ∧ Q (.int ns.sum) H) := by
  intro pins s σ H vs us Q I r h
  obtain ⟨a, ns, rfl, hs, q⟩ := h
  obtain ⟨its, rv, p, _⟩ := I.tuple hs
  rw [Vals.ref1 r]
  have hlen : its.length = ns.length := by
    have := rv.length
    rw [List.length_map] at this
    omega
  have hh : X.A.in1.handled = none := I.ok.hd hc
  have lt : a < s.heap.objs.size := by
    obtain ⟨o, e, _⟩ := p
    exact Heap.lt_size e
  refine call_sum_walkG (wpAny_pyIter_tuple (show s.heap.IsTuple a its.toArray from p) ?_)
  refine ⟨s.heap.objs.size, _, _, _, _, _, fun i => ns.getD i 0, rfl, Walks.tuple (A := X.A.in1) hh s.heap.objs.size a (Nat.ne_of_lt lt) its.toArray, ⟨⟨_, Heap.get?_push_size _ rfl, rfl, rfl⟩, ?_⟩, fun b hb => ?_, fun i v e => vals_int_at rv (by simpa using e), fun h' tk t' hk => ?_⟩
  · obtain ⟨o, e, c⟩ := p
    exact ⟨o, Heap.get?_push_of_some _ e, c⟩
  · show b < (s.heap.push _).objs.size
    rw [Heap.size_push]
    have : b = s.heap.objs.size ∨ b = a := by simpa using hb
    rcases this with q | q <;> rw [q]
    · exact Nat.lt_succ_self _
    · exact Nat.lt_succ_of_lt lt
  · have e : preSum (fun i => ns.getD i 0) its.toArray.size = ns.sum := by
      rw [preSum_list _ _ (by simp; omega), List.take_of_length_le (by simp; omega)]
    rw [e]
    refine ⟨.int ns.sum, H, I.kept (t' := tk) fun b o eb => hk b o (fun m => ?_) (Heap.get?_push_of_some _ eb), ⟨t', rfl⟩, q⟩
    have eq : b = s.heap.objs.size := by simpa using m
    rw [eq] at eb
    exact Nat.lt_irrefl _ (Heap.lt_size eb)
end Fc
end
section
set_option Elab.async false
set_option linter.all false
set_option maxRecDepth 100000
set_option maxHeartbeats 2000000
/-! figures' loops; ways -/
namespace Fc
open PySem PySem.Spec PyProof.Rows L2
open Kqz1 (Frac)
/-! ### lists of tuples -/
theorem paired_at {α β : Type} {R : α → β → Prop} : ∀ {as : List α} {xs : List β}, Paired R as xs → ∀ {i : Nat} {a : α}, as[i]? = some a → ∃ x, xs[i]? = some x ∧ R a x
  | _, _, .nil, i, a, e => by simp at e
  | _, _, .cons h t, 0, a, e => ⟨_, rfl, by
    have := Option.some.inj (show some _ = some a from e)
    subst this
    exact h⟩
  | _, _, .cons h t, i + 1, a, e => paired_at t (i := i) e
def LiO {α : Type} (R : Hp → Addr → α → Prop) (K : PySem.W.Frag) (H : Hp) (a : Addr) (xs : List α) : Prop := ∃ as : List Addr, SqL K H a (as.map V.ref) ∧ Paired (R H) as xs
def FrAt (K : PySem.W.Frag) (H : Hp) (b : Addr) (f : Frac) : Prop := SqT K H b (frV f)
abbrev inV (w : List Int) : List V := w.map V.int
def WaAt (K : PySem.W.Frag) (H : Hp) (b : Addr) (x : List Int × Frac) : Prop := ∃ wa fa, SqT K H b [.ref wa, .ref fa] ∧ SqT K H wa (inV x.1) ∧ SqT K H fa (frV x.2)
def BeAt (K : PySem.W.Frag) (H : Hp) (b : Addr) (x : Begun) : Prop := ∃ wa fa, SqT K H b [.ref wa, .ref fa, .int x.2.2] ∧ SqT K H wa (inV x.1) ∧ SqT K H fa (frV x.2.1)
theorem FrAt.same {K : PySem.W.Frag} {H H' : Hp} (s : Same H H') {b : Addr} {f : Frac} (h : FrAt K H b f) : FrAt K H' b f := s.sqT h
theorem WaAt.same {K : PySem.W.Frag} {H H' : Hp} (s : Same H H') {b : Addr} {x : List Int × Frac} (h : WaAt K H b x) : WaAt K H' b x := by
  obtain ⟨wa, fa, h1, h2, h3⟩ := h
  exact ⟨wa, fa, s.sqT h1, s.sqT h2, s.sqT h3⟩
theorem BeAt.same {K : PySem.W.Frag} {H H' : Hp} (s : Same H H') {b : Addr} {x : Begun} (h : BeAt K H b x) : BeAt K H' b x := by
  obtain ⟨wa, fa, h1, h2, h3⟩ := h
  exact ⟨wa, fa, s.sqT h1, s.sqT h2, s.sqT h3⟩
theorem LiO.same {α : Type} {R : Hp → Addr → α → Prop} {K : PySem.W.Frag} {H H' : Hp} (s : Same H H') (hR : ∀ b x, R H b x → R H' b x) {a : Addr} {xs : List α} (h : LiO R K H a xs) : LiO R K H' a xs := by
  obtain ⟨as, h1, h2⟩ := h
  exact ⟨as, s.seq h1, Paired.mapP h2 hR⟩
/-- an int item of a list of ints -/
theorem inV_at {ns : List Int} {i : Nat} {x : V} (h : (inV ns)[i]? = some x) : ∃ n, ns[i]? = some n ∧ x = V.int n := by
  unfold inV at h
  rw [List.getElem?_map] at h
  cases e : ns[i]? with
  | none =>
    rw [e] at h
    cases h
  | some n =>
    rw [e] at h
    exact ⟨n, rfl, (Option.some.inj h).symm⟩
theorem ref_at {as : List Addr} {i : Nat} {x : V} (h : (as.map V.ref)[i]? = some x) : ∃ a, as[i]? = some a ∧ x = V.ref a := by
  rw [List.getElem?_map] at h
  cases e : as[i]? with
  | none =>
    rw [e] at h
    cases h
  | some n =>
    rw [e] at h
    exact ⟨n, rfl, (Option.some.inj h).symm⟩
theorem inV_len (ns : List Int) : (inV ns).length = ns.length := List.length_map _
/-- a new list that grows stands apart -/
theorem Same.grow {H H' : Hp} {D : Addr} {o : HO} (s : Same H H') (hD : H D = none) : Same H (upd H' D o) := fun b u e => by
  by_cases c : b = D
  · rw [c, hD] at e
    cases e
  · rw [upd_ne c]
    exact s b u e
theorem take_snoc {α : Type} {l : List α} {i : Nat} {x : α} (h : l[i]? = some x) : l.take (i + 1) = l.take i ++ [x] := by rw [List.take_add_one, h]; rfl
section
variable {P : Program} {w : World} {K : PySem.W.Frag} {mg : Str → Option Value} {base : Heap}
/-! ### fraction_of -/
theorem scFro : FnScope ["figures", "fraction", "figure"] ["figures"] (defScope (topS 21)) := ⟨rfl, rfl, rfl, by decide +kernel, rfl, by decide +kernel, by decide +kernel⟩
def spFro (K : PySem.W.Frag) : Sp := fun vs H Q _ => ∃ (a : Addr) (ns : List Int), vs = [.ref a] ∧ SqL K H a (inV ns) ∧ (∀ n ∈ ns, n.natAbs ≤ 6) ∧ RetT H (frV (fracOf ns)) Q
theorem runX_snoc (ns : List Int) (n : Int) (f : Frac) : runX f (ns ++ [n]) = tw (runX f ns) n 0 := by
  unfold runX
  rw [List.foldl_append]
  rfl
theorem ok_fro {f : Addr} {fd : FuncData} (F : Fun K "fraction_of" "fraction_of" (topS 21) f fd) (cF : ∀ base, Cal P w K mg base 1 "flat_fraction" [] spFlat) (cT : ∀ base, Cal P w K mg base 2 "turned_or_twisted" ["fraction", "figure", "k"] (spTot K)) : FnOk P w K mg base CX0 3 f fd ["figures"] (spFro K) := by
  refine F.ok scFro (fun vs H Q E h => ?_) (fun cdv A outer s H vs Q E hr h => ⟨_,
      pss_cons (ps_set (i := 1) scFro.nd rfl (Or.inl rfl) (pe_k0 (cF _) (hr.mono (by decide)) rfl))
      (pss_cons (ps_for PassesOwn.never rfl (pi_list (pv 0)) (pg_name (i := 2) scFro.nd rfl (Or.inl rfl))
        (pss_one (ps_set (i := 1) scFro.nd rfl (Or.inl rfl) (pe_k (cT _) hr rfl (pa_cons (pv 1) (pa_cons (pv 2) (pa_cons pe_int pa_nil)))))))
      (pss_one (ps_ret (pv 1)))), ?_⟩)
  · obtain ⟨a, ns, rfl, _⟩ := h
    rfl
  · obtain ⟨a, ns, rfl, hS, h6, k⟩ := h
    refine ⟨rfl, fun H1 b s1 hb => ?_⟩
    refine ⟨_, rfl, a, rfl, ⟨_, s1.seq hS⟩, for_list (K := K) (a := a) (xs := inV ns) (fun i σ H' => ∃ (c : Addr) (v : Option V), σ = [some (.ref a), some (.ref c), v] ∧ Same H H' ∧ H' c = some (.tup (frV (fracOf (ns.take i))))) ⟨b, none, rfl, s1, hb⟩ (fun i σ H' _ ⟨_, _, _, s2, _⟩ => s2.seq hS) ?_ ?_⟩
    · rintro i x σ H' hx ⟨c, v, rfl, s2, hc⟩
      obtain ⟨n, hn, rfl⟩ := inV_at hx
      refine ⟨_, rfl, _, rfl, c, fracOf (ns.take i), n, 0, rfl, SqT.of hc, fun _ => by rw [chg_zero]; exact h6 n (List.mem_of_getElem? hn), fun H2 d s3 hd => ?_⟩
      refine ⟨d, _, rfl, s2.trans s3, ?_⟩
      have e : fracOf (ns.take (i + 1)) = tw (fracOf (ns.take i)) n 0 := by
        unfold fracOf
        rw [take_snoc hn, runX_snoc]
      rw [e]
      exact hd
    · rintro σ H' ⟨c, v, rfl, s2, hc⟩
      rw [inV_len, List.take_length] at hc
      exact ⟨_, rfl, k H' c s2 hc⟩
/-! ### crossings_of -/
theorem scCro : FnScope ["figures", "figure"] ["figures"] (defScope (topS 22)) := ⟨rfl, rfl, rfl, by decide +kernel, rfl, by decide +kernel, by decide +kernel⟩
def spCro (K : PySem.W.Frag) : Sp := fun vs H Q _ => ∃ (a : Addr) (ns : List Int), vs = [.ref a] ∧ SqL K H a (inV ns) ∧ ns.length ≤ 10 ∧ RetV H (.int (cross ns)) Q
theorem small10 {n m : Nat} (h : n ≤ m) (h2 : m ≤ 10) : n < sizeLine := by
  have : sizeLine = 16777216 := sizeLine_eq
  omega
theorem ok_cro {f : Addr} {fd : FuncData} (F : Fun K "crossings_of" "crossings_of" (topS 22) f fd) (nS : mg "sum" = none) (nA : mg "abs" = none) : FnOk P w K mg base CX0 1 f fd ["figures"] (spCro K) := by
  refine F.ok scCro (fun vs H Q E h => ?_) (fun cdv A outer s H vs Q E hr h => ⟨_,
      pss_one (ps_ret (pe_callB (cr_sum rfl) (by rfl) nS (by decide +kernel) (pa_cons (pe_lc (own := [("figure", 1)]) (g := gName 1) (by rfl) scCro.nd (pi_list (pv 0)) (blkOk_by (own := [("figure", 1)]) (N := ["figures", "figure"]) (sc := defScope (topS 22)) (by decide +kernel))
          (fun _ _ _ _ _ => pg_name (i := 1) scCro.nd rfl (Or.inl rfl)) (fun _ _ _ _ _ => pts_nil) (fun _ _ _ _ _ => pe_callB call_abs (by rfl) nA (by decide +kernel) (pa_cons (pv 1) pa_nil))) pa_nil))), ?_⟩)
  · obtain ⟨a, ns, rfl, _⟩ := h
    rfl
  · obtain ⟨a, ns, rfl, hS, hl, k⟩ := h
    refine ⟨_, rfl, a, rfl, ⟨_, hS⟩, fun D hD => lc_list (K := K) (a := a) (xs := inV ns) (fun i H' => Same H H' ∧ H' D = some (.lst (inV ((ns.take i).map iabs)))) ⟨same_upd hD, upd_same⟩ (fun i H' _ ⟨s1, _⟩ => s1.seq hS) ?_ ?_⟩
    · rintro i x H' hx ⟨s1, hD1⟩
      obtain ⟨n, hn, rfl⟩ := inV_at hx
      refine ⟨rfl, ⟨_, rfl, _, rfl, _, hD1, ?_, Same.grow s1 hD, ?_⟩⟩
      · rw [inV_len, List.length_map, List.length_take]
        exact small10 (Nat.min_le_right _ _) hl
      · rw [upd_same, take_snoc hn, List.map_append]
        unfold inV
        rw [List.map_append]
        rfl
    · rintro H' ⟨s1, hD1⟩
      rw [inV_len, List.take_length] at hD1
      exact ⟨D, ns.map iabs, rfl, SqL.of hD1, k _ s1⟩
/-! ### changed_row -/
theorem scCrw : FnScope ["figures", "way", "row", "figure", "k"] ["figures", "way"] (defScope (topS 23)) := ⟨rfl, rfl, rfl, by decide +kernel, rfl, by decide +kernel, by decide +kernel⟩
def spCrw (K : PySem.W.Frag) : Sp := fun vs H Q _ => ∃ (a b : Addr) (ns ks : List Int), vs = [.ref a, .ref b] ∧ SqL K H a (inV ns) ∧ (SqL K H b (inV ks) ∨ SqT K H b (inV ks)) ∧ ns.length = ks.length ∧ ns.length ≤ 10 ∧ RetL H (inV (changedRow ns ks)) Q
theorem changedRow_take : ∀ (ns ks : List Int) (i : Nat) (n k : Int), ns[i]? = some n → ks[i]? = some k → changedRow (ns.take (i + 1)) (ks.take (i + 1)) = changedRow (ns.take i) (ks.take i) ++ rowStep n k
  | [], _, _, _, _, h, _ => by simp at h
  | _ :: _, [], _, _, _, _, h => by simp at h
  | m :: ns, j :: ks, 0, n, k, h1, h2 => by
    have e1 : m = n := by simpa using h1
    have e2 : j = k := by simpa using h2
    subst e1 e2
    simp [changedRow]
  | m :: ns, j :: ks, i + 1, n, k, h1, h2 => by
    have ih := changedRow_take ns ks i n k (by simpa using h1) (by simpa using h2)
    show rowStep m j ++ changedRow (ns.take (i + 1)) (ks.take (i + 1)) = (rowStep m j ++ changedRow (ns.take i) (ks.take i)) ++ rowStep n k
    rw [ih, List.append_assoc]
theorem inV_app (a b : List Int) : inV (a ++ b) = inV a ++ inV b := List.map_append
theorem ok_crw {f : Addr} {fd : FuncData} (F : Fun K "changed_row" "changed_row" (topS 23) f fd) (gT : ∃ t, mg "TURN" = some (.int 0 t)) (nZ : mg "zip" = none) (cC : ∀ base, Cal P w K mg base 1 "changed_figure" ["n", "k"] spChg) : FnOk P w K mg base CX0 2 f fd ["figures", "way"] (spCrw K) := by
  obtain ⟨t0, gT⟩ := gT
  refine F.ok scCrw (fun vs H Q E h => ?_) (fun cdv A outer s H vs Q E hr h => ⟨_,
      pss_cons (ps_set (i := 2) scCrw.nd rfl (Or.inl rfl) (pe_lst pa_nil))
      (pss_cons (ps_for PassesOwn.never rfl (pi_zipB (by rfl) nZ (pa_cons (pv 0) (pa_cons (pv 1) pa_nil))) (pg_tup rfl (pgs_cons (pg_name (i := 3) scCrw.nd rfl (Or.inl rfl)) (pgs_cons (pg_name (i := 4) scCrw.nd rfl (Or.inl rfl)) pgs_nil)))
        (pss_one (ps_if (pt_cmpR op_eq (pv 3) (pe_glob (v := .int 0) rfl gT ⟨_, rfl⟩) (nomark _))
          (pss_one (ps_expr (pe_bm PySem.F.plainAttrs_list PySem.F.slot_list_append PySem.F.type_list_append mt_append (pv 2) (pa_cons (pe_glob (v := .int 0) rfl gT ⟨_, rfl⟩) pa_nil))))
          (pss_one (ps_if (pt_cmpR op_ne (pe_k (cC _) hr rfl (pa_cons (pv 3) (pa_cons (pv 4) pa_nil))) pe_int (nomark _))
            (pss_one (ps_expr (pe_bm PySem.F.plainAttrs_list PySem.F.slot_list_append PySem.F.type_list_append mt_append (pv 2) (pa_cons (pe_k (cC _) hr rfl (pa_cons (pv 3) (pa_cons (pv 4) pa_nil))) pa_nil))))
            pss_nil)))))
      (pss_one (ps_ret (pv 2)))), ?_⟩)
  · obtain ⟨a, b, ns, ks, rfl, _⟩ := h
    rfl
  · obtain ⟨a, b, ns, ks, rfl, hS, hW, hl, h10, k⟩ := h
    refine ⟨(by decide), fun D hD => ?_⟩
    have s0 : Same H (upd H D (.lst [])) := same_upd hD
    -- what stands at the beginning of each turn
    let Pv : Nat → L2.St → Hp → Prop := fun i σ H' => ∃ v3 v4 : Option V, σ = [some (.ref a), some (.ref b), some (.ref D), v3, v4] ∧ Same H H' ∧ H' D = some (.lst (inV (changedRow (ns.take i) (ks.take i))))
    have p0 : Pv 0 [some (.ref a), some (.ref b), some (.ref D), none, none] (upd H D (.lst [])) := ⟨none, none, rfl, s0, upd_same⟩
    have len : ∀ i, (inV (changedRow (ns.take i) (ks.take i))).length < sizeLine := fun i => by
      rw [inV_len]
      refine small10 (m := ns.length) ?_ h10
      refine Nat.le_trans (row_len _ _) ?_
      rw [List.length_take]
      exact Nat.min_le_right _ _
    have fin : ∀ σ H', Pv (inV ns).length σ H' → tRet (tVar 2) { nx := fun _ H' => Q .non H', rt := Q } σ H' := by
      rintro σ H' ⟨v3, v4, rfl, s1, h1⟩
      rw [inV_len, List.take_length, hl, List.take_length] at h1
      exact ⟨_, rfl, k H' D s1 h1⟩
    have stp : ∀ (i : Nat) (x y : V) (T : Addr) (σ : L2.St) (H' : Hp), (inV ns)[i]? = some x → (inV ks)[i]? = some y → Pv i σ H' → H' T = none → ∃ (n j : Int) (H2 : Hp), x = .int n ∧ y = .int j ∧ H2 = upd H' T (.tup [x, y]) ∧ H2 D = some (.lst (inV (changedRow (ns.take i) (ks.take i)))) ∧ Same H H2 ∧ changedRow (ns.take (i + 1)) (ks.take (i + 1)) = changedRow (ns.take i) (ks.take i) ++ rowStep n j ∧
        ∃ v3 v4 : Option V, σ = [some (.ref a), some (.ref b), some (.ref D), v3, v4] := by
      rintro i x y T σ H' hx hy ⟨v3, v4, rfl, s1, h1⟩ hT
      obtain ⟨n, hn, rfl⟩ := inV_at hx
      obtain ⟨j, hj, rfl⟩ := inV_at hy
      exact ⟨n, j, _, rfl, rfl, rfl, (same_upd hT) _ _ h1, s1.trans (same_upd hT), changedRow_take ns ks i n j hn hj, v3, v4, rfl⟩
    have body : ∀ (i : Nat) (x y : V) (T : Addr) (σ : L2.St) (H' : Hp) (D0 : Ends), (inV ns)[i]? = some x → (inV ks)[i]? = some y → Pv i σ H' → H' T = none → (∀ σ H', Pv (i + 1) σ H' → D0.nx σ H') →
        gTup K 2 (gCons (gName 3) (gCons (gName 4) gNil)) (.ref T) σ (upd H' T (.tup [x, y])) fun σ2 H2 =>
          tIfS (tTest (tOp rEq (tVar 3) (tC (.int 0)))) (tDrop (tBM K "list" rAppend (tVar 2) (tCons (tC (.int 0)) tNil))) (tIfS (tTest (tOp rNe (tK spChg (tCons (tVar 3) (tCons (tVar 4) tNil))) (tC (.int 0)))) (tDrop (tBM K "list" rAppend (tVar 2) (tCons (tK spChg (tCons (tVar 3) (tCons (tVar 4) tNil))) tNil))) tNext) D0 σ2 H2 := by
      intro i x y T σ H' D0 hx hy p hT hD0
      obtain ⟨n, j, H2, rfl, rfl, e2, hD2, s2, er, v3, v4, rfl⟩ := stp i x y T σ H' hx hy p hT
      refine ⟨T, _, rfl, SqT.of upd_same, rfl, _, _, rfl, _, _, rfl, rfl, ?_⟩
      rw [← e2]
      refine ⟨_, rfl, rfl, _, rfl, ?_⟩
      by_cases c : n = 0
      · refine if_t (decide_eq_true (by rw [c])) ⟨_, rfl, .inl ⟨rfl, _, SqL.of hD2⟩, D, _, _, rfl, rfl, hD2, len i, hD0 _ _ ⟨_, _, rfl, Same.grow s2 hD, ?_⟩⟩
        rw [upd_same, er]
        unfold rowStep
        rw [if_pos c, inV_app]
        rfl
      · refine if_f (decide_eq_false (by simpa using c)) ⟨_, rfl, _, rfl, n, j, rfl, fun H3 s3 => ⟨rfl, _, rfl, ?_⟩⟩
        have hD3 := s3 _ _ hD2
        by_cases c2 : chg n j = 0
        · refine if_f (by simp [c2]) (hD0 _ _ ⟨_, _, rfl, s2.trans s3, ?_⟩)
          rw [er]
          unfold rowStep
          rw [if_neg c, if_pos c2, List.append_nil]
          exact hD3
        · refine if_t (by simp [c2]) ⟨_, rfl, .inl ⟨rfl, _, SqL.of hD3⟩, _, rfl, _, rfl, n, j, rfl, fun H4 s4 => ?_⟩
          have hD4 := s4 _ _ hD3
          refine ⟨D, _, _, rfl, rfl, hD4, len i, hD0 _ _ ⟨_, _, rfl, Same.grow ((s2.trans s3).trans s4) hD, ?_⟩⟩
          rw [upd_same, er]
          unfold rowStep
          rw [if_neg c, if_neg c2, inV_app]
          rfl
    refine ⟨_, rfl, _, rfl, a, b, inV ns, inV ks, rfl, s0.seq hS, ?_⟩
    have hl2 : (inV ns).length = (inV ks).length := by rw [inV_len, inV_len, hl]
    rcases hW with hW | hW
    · refine .inl ⟨s0.seq hW, RZ.for_zipL hl2 Pv p0 (fun i σ H' ⟨_, _, _, s1, _⟩ => ⟨s1.seq hS, s1.seq hW⟩) (fun i x y T σ H' hx hy p hT => ?_) fin⟩
      exact body i x y T σ H' _ hx hy p hT fun _ _ q => q
    · refine .inr ⟨s0.sqT hW, for_m hl2 Pv p0 (fun i σ H' ⟨_, _, _, s1, _⟩ => ⟨s1.seq hS, s1.sqT hW⟩) (fun i x y T σ H' hx hy p hT => ?_) fin⟩
      exact body i x y T σ H' _ hx hy p hT fun _ _ q => q
end
end Fc
end
section
set_option Elab.async false
set_option linter.all false
set_option maxRecDepth 100000
set_option maxHeartbeats 2000000
/-! ways -/
namespace Fc
open PySem PySem.Spec PyProof.Rows L2
open Kqz1 (Frac)
/-! ### the begun ways, one by one -/
theorem downF_at (n : Int) (w : List Int) (f : Frac) (left low : Int) : ∀ (c j : Nat), j < c → (downF n w f left low c)[j]? = some (w ++ [low + ((c - 1 - j : Nat) : Int)], tw f n (low + ((c - 1 - j : Nat) : Int)), left - (low + ((c - 1 - j : Nat) : Int)))
  | 0, _, h => absurd h (Nat.not_lt_zero _)
  | c + 1, 0, _ => rfl
  | c + 1, j + 1, h => by
    show (downF n w f left low c)[j]? = _
    rw [downF_at n w f left low c j (by omega)]
    have e : c - 1 - j = c + 1 - 1 - (j + 1) := by omega
    rw [e]
theorem flatMap_take {α β : Type} (g : α → List β) {l : List α} {i : Nat} {x : α} (h : l[i]? = some x) : (l.take (i + 1)).flatMap g = (l.take i).flatMap g ++ g x := by
  rw [take_snoc h, List.flatMap_append, List.flatMap_cons, List.flatMap_nil, List.append_nil]
theorem flatMap_take_len {α β : Type} (g : α → List β) (l : List α) (i : Nat) : ((l.take i).flatMap g).length ≤ (l.flatMap g).length := by
  have e : l.flatMap g = (l.take i).flatMap g ++ (l.drop i).flatMap g := by rw [← List.flatMap_append, List.take_append_drop]
  rw [e, List.length_append]
  exact Nat.le_add_right _ _
/-! ### tuples stand where a list grows -/
theorem sqT_lst {K : PySem.W.Frag} {H : Hp} {D b : Addr} {ys zs xs : List V} (hD : H D = some (.lst ys)) (h : SqT K H b xs) : SqT K (upd H D (.lst zs)) b xs := by
  rcases h with (h | ⟨o, h⟩) | h
  · exact .inl (.inl (by rw [upd_ne (ne_of h hD (by intro z; cases z))]; exact h))
  · exact .inl (.inr ⟨o, by rw [upd_ne (ne_of h hD (by intro z; cases z))]; exact h⟩)
  · exact .inr h
theorem BeAt.lst {K : PySem.W.Frag} {H : Hp} {D b : Addr} {ys zs : List V} {x : Begun} (hD : H D = some (.lst ys)) (h : BeAt K H b x) : BeAt K (upd H D (.lst zs)) b x := by
  obtain ⟨wa, fa, h1, h2, h3⟩ := h
  exact ⟨wa, fa, sqT_lst hD h1, sqT_lst hD h2, sqT_lst hD h3⟩
theorem WaAt.lst {K : PySem.W.Frag} {H : Hp} {D b : Addr} {ys zs : List V} {x : List Int × Frac} (hD : H D = some (.lst ys)) (h : WaAt K H b x) : WaAt K (upd H D (.lst zs)) b x := by
  obtain ⟨wa, fa, h1, h2, h3⟩ := h
  exact ⟨wa, fa, sqT_lst hD h1, sqT_lst hD h2, sqT_lst hD h3⟩
/-- a tuple and one more item -/
theorem cat_one {K : PySem.W.Frag} {H : Hp} {wa q : Addr} {yw : List Int} {kk : Int} {Q : VK} (h1 : SqT K H wa (inV yw)) (h2 : SqT K H q [.int kk]) (hl : yw.length ≤ 10)
    (k : ∀ p H', Same H H' → SqT K H' p (inV (yw ++ [kk])) → Q (.ref p) H') : rCatA K (.ref wa) (.ref q) H Q := by
  refine ⟨wa, q, inV yw, [.int kk], rfl, rfl, h1, h2, ?_, fun e => ?_, fun _ e => ?_, fun _ _ p hp => ?_⟩
  · rw [inV_len]
    exact Nat.le_of_lt (small10 (m := 10) (n := 10) (Nat.le_refl _) (Nat.le_refl _) |> fun z => Nat.lt_of_le_of_lt (Nat.add_le_add_right hl 1) (by rw [sizeLine_eq]; decide))
  · have z : yw = [] := by
      cases yw with
      | nil => rfl
      | cons a r => exact absurd e (by simp [inV])
    subst z
    exact k q H (Same.refl H) h2
  · cases e
  · exact k p _ (same_upd hp) (SqT.of (by rw [upd_same, inV_app]; rfl))
section
variable {P : Program} {w : World} {K : PySem.W.Frag} {mg : Str → Option Value} {base : Heap}
/-! ### longer_ways -/
theorem scLon : FnScope ["begun", "figure", "rest", "longer", "way", "fraction", "left", "most", "fewest", "k"] ["begun", "figure", "rest"] (defScope (topS 28)) := ⟨rfl, rfl, rfl, by decide +kernel, rfl, by decide +kernel, by decide +kernel⟩
def RetO {α : Type} (R : Hp → Addr → α → Prop) (K : PySem.W.Frag) (H : Hp) (xs : List α) (Q : VK) : Prop := ∀ H' p, Same H H' → LiO R K H' p xs → Q (.ref p) H'
theorem RetO.same {α : Type} {R : Hp → Addr → α → Prop} {K : PySem.W.Frag} {H H1 : Hp} {xs : List α} {Q : VK} (k : RetO R K H xs Q) (s : Same H H1) : RetO R K H1 xs Q := fun H' a s' h => k H' a (s.trans s') h
def spLon (K : PySem.W.Frag) : Sp := fun vs H Q _ => ∃ (a : Addr) (bs : List Begun) (n rest : Int), vs = [.ref a, .int n, .int rest] ∧ LiO (BeAt K) K H a bs ∧ n.natAbs ≤ 6 ∧ 0 ≤ rest ∧ rest ≤ 1000 ∧ (∀ b ∈ bs, 0 ≤ b.2.2 ∧ b.2.2 ≤ 4 ∧ b.1.length ≤ 10) ∧ (longer bs n rest).length < 10000000 ∧
  RetO (BeAt K) K H (longer bs n rest) Q
theorem ok_lon {f : Addr} {fd : FuncData} (F : Fun K "longer_ways" "longer_ways" (topS 28) f fd) (nM : mg "min" = none) (nX : mg "max" = none) (nA : mg "abs" = none) (nR : mg "range" = none)
    (cT : ∀ base, Cal P w K mg base 2 "turned_or_twisted" ["fraction", "figure", "k"] (spTot K)) : FnOk P w K mg base CX0 3 f fd ["begun", "figure", "rest"] (spLon K) := by
  refine F.ok scLon (fun vs H Q E h => ?_) (fun cdv A outer s H vs Q E hr h => ⟨_,
      pss_cons (ps_set (i := 3) scLon.nd rfl (Or.inl rfl) (pe_lst pa_nil))
      (pss_cons (ps_for PassesOwn.never rfl (pi_list (pv 0)) (pg_tup rfl (pgs_cons (pg_name (i := 4) scLon.nd rfl (Or.inl rfl)) (pgs_cons (pg_name (i := 5) scLon.nd rfl (Or.inl rfl)) (pgs_cons (pg_name (i := 6) scLon.nd rfl (Or.inl rfl)) pgs_nil))))
        (pss_cons (ps_set (i := 7) scLon.nd rfl (Or.inl rfl) (pe_callB (call_min2 rfl) (by rfl) nM (by decide +kernel) (pa_cons (pe_callB call_abs (by rfl) nA (by decide +kernel) (pa_cons (pv 1) pa_nil)) (pa_cons (pv 6) pa_nil))))
        (pss_cons (ps_set (i := 8) scLon.nd rfl (Or.inl rfl) (pe_callB (call_max2 rfl) (by rfl) nX (by decide +kernel) (pa_cons pe_int (pa_cons (pe_op op_sub (pv 6) (pv 2)) pa_nil))))
        (pss_one (ps_for PassesOwn.never rfl (pi_range3 rfl nR (pa_cons (pv 7) (pa_cons (pe_op op_sub (pv 8) pe_int) (pa_cons (pe_un un_neg pe_int) pa_nil)))) (pg_name (i := 9) scLon.nd rfl (Or.inl rfl))
          (pss_one (ps_expr (pe_bm PySem.F.plainAttrs_list PySem.F.slot_list_append PySem.F.type_list_append mt_append (pv 3) (pa_cons (pe_tup (pa_cons (pe_op op_catA (pv 4) (pe_tup (pa_cons (pv 9) pa_nil)))
            (pa_cons (pe_k (cT _) hr rfl (pa_cons (pv 5) (pa_cons (pv 1) (pa_cons (pv 9) pa_nil)))) (pa_cons (pe_op op_sub (pv 6) (pv 9)) pa_nil)))) pa_nil)))))))))
      (pss_one (ps_ret (pv 3)))), ?_⟩)
  · obtain ⟨a, bs, n, rest, rfl, _⟩ := h
    rfl
  · obtain ⟨a, bs, n, rest, rfl, ⟨as, hS, hP⟩, hn, r0, r1, hb, hlen, k⟩ := h
    refine ⟨(by decide), fun D hD => ?_⟩
    have s0 : Same H (upd H D (.lst [])) := same_upd hD
    have hlas := Paired.length hP
    refine ⟨_, rfl, a, rfl, ⟨_, s0.seq hS⟩, for_list (K := K) (a := a) (xs := as.map V.ref) (fun i σ H' => ∃ v4 v5 v6 v7 v8 v9 : Option V, σ = [some (.ref a), some (.int n), some (.int rest), some (.ref D), v4, v5, v6, v7, v8, v9] ∧ Same H H' ∧
      ∃ cs : List Addr, H' D = some (.lst (cs.map V.ref)) ∧ Paired (BeAt K H') cs ((bs.take i).flatMap (longOne n rest))) ⟨none, none, none, none, none, none, rfl, s0, [], upd_same, .nil⟩ (fun i σ H' _ ⟨_, _, _, _, _, _, _, s1, _⟩ => s1.seq hS) ?_ ?_⟩
    · rintro i x σ H' hx ⟨v4, v5, v6, v7, v8, v9, rfl, s1, cs, hD1, hP1⟩
      obtain ⟨b, hb1, rfl⟩ := ref_at hx
      obtain ⟨y, hy, wa, fa, ht, hw, hf⟩ := paired_at hP hb1
      obtain ⟨yw, yf, yl⟩ := y
      obtain ⟨l0, l4, lw⟩ := hb _ (List.mem_of_getElem? hy)
      have l0 : 0 ≤ yl := l0
      have l4 : yl ≤ 4 := l4
      have lw : yw.length ≤ 10 := lw
      have ft := flatMap_take (longOne n rest) hy
      have hlow0 : 0 ≤ lowOf yl rest := by unfold lowOf; split <;> omega
      have hmost : mostOf n yl ≤ iabs n := by unfold mostOf; split <;> omega
      have hmost4 : mostOf n yl ≤ 4 := by unfold mostOf; split <;> omega
      have hmost0 : 0 ≤ mostOf n yl := by
        have := iabs_nn n
        unfold mostOf
        split <;> omega
      have hlow4 : lowOf yl rest ≤ 4 := by unfold lowOf; split <;> omega
      have hiab := iabs_nat n
      refine ⟨b, _, rfl, s1.sqT ht, rfl, _, _, rfl, _, _, rfl, _, _, rfl, rfl, ?_⟩
      refine ⟨_, rfl, _, rfl, _, rfl, _, _, rfl, ?_⟩
      show tSeq _ _ _ _ _
      refine ⟨_, rfl, _, rfl, _, _, rfl, rfl, _, _, rfl, ?_⟩
      refine ⟨_, rfl, _, rfl, _, _, rfl, rfl, _, rfl, mostOf n yl, lowOf yl rest - 1, -1, (mostOf n yl - (lowOf yl rest - 1)).toNat, rfl, RgC.neg (by omega) (by omega) (by omega) (by omega), ?_⟩
      obtain ⟨cnt, ecnt⟩ : ∃ c : Nat, c = (mostOf n yl - lowOf yl rest + 1).toNat := ⟨_, rfl⟩
      have ecnt2 : (mostOf n yl - (lowOf yl rest - 1)).toNat = cnt := by omega
      have eone : longOne n rest (yw, yf, yl) = downF n yw yf yl (lowOf yl rest) cnt := by rw [ecnt]; rfl
      have hlone : (longOne n rest (yw, yf, yl)).length = cnt := by rw [eone, downF_len]
      rw [ecnt2]
      refine for_rangeC (lo := mostOf n yl) (c := -1) (n := cnt) (fun j σ H2 => ∃ v9 : Option V, σ = [some (.ref a), some (.int n), some (.int rest), some (.ref D), some (.ref wa), some (.ref fa), some (.int yl), some (.int (mostOf n yl)), some (.int (lowOf yl rest)), v9] ∧ Same H H2 ∧
        ∃ cs : List Addr, H2 D = some (.lst (cs.map V.ref)) ∧ Paired (BeAt K H2) cs ((bs.take i).flatMap (longOne n rest) ++ (longOne n rest (yw, yf, yl)).take j)) ?_ ?_ ?_
      · exact ⟨_, rfl, s1, cs, hD1, by rw [List.take_zero, List.append_nil]; exact hP1⟩
      · rintro j σ H2 hj ⟨v9, rfl, s2, cs2, hD2, hP2⟩
        obtain ⟨kk, ekk⟩ : ∃ kk : Int, kk = mostOf n yl + (j : Int) * -1 := ⟨_, rfl⟩
        rw [← ekk]
        have hit : (longOne n rest (yw, yf, yl))[j]? = some (yw ++ [kk], tw yf n kk, yl - kk) := by
          rw [eone, downF_at n yw yf yl (lowOf yl rest) cnt j hj]
          have e : lowOf yl rest + ((cnt - 1 - j : Nat) : Int) = kk := by omega
          rw [e]
        have k0 : 0 ≤ kk := by omega
        have kn : kk ≤ n.natAbs := by omega
        have lenc : (cs2.map V.ref).length < sizeLine := by
          have e1 := Paired.length hP2
          rw [List.length_map, e1, List.length_append]
          have e2 := flatMap_take_len (longOne n rest) bs (i + 1)
          rw [ft, List.length_append] at e2
          have e3 : ((longOne n rest (yw, yf, yl)).take j).length ≤ (longOne n rest (yw, yf, yl)).length := List.length_take_le' _ _
          have e4 : (bs.flatMap (longOne n rest)).length < 10000000 := hlen
          have : sizeLine = 16777216 := sizeLine_eq
          omega
        have hw2 := s2.sqT hw
        have hf2 := s2.sqT hf
        refine ⟨_, rfl, .inl ⟨rfl, _, SqL.of hD2⟩, _, rfl, _, rfl, sz1, fun q hq => ?_⟩
        have sq : Same H2 (upd H2 q (.tup [.int kk])) := same_upd hq
        refine cat_one (sq.sqT hw2) (SqT.of upd_same) lw fun p H3 s3 hp => ?_
        have s23 := sq.trans s3
        refine ⟨_, rfl, _, rfl, _, rfl, fa, yf, n, kk, rfl, s23.sqT hf2, fun _ => chg_six hn k0 kn, fun H4 d s4 hd => ?_⟩
        have s24 := s23.trans s4
        refine ⟨_, rfl, _, rfl, _, _, rfl, rfl, sz3, fun e he => ?_⟩
        have s25 := s24.trans (same_upd (o := .tup [.ref p, .ref d, .int (yl - kk)]) he)
        have hD5 := s25 _ _ hD2
        refine ⟨D, _, _, rfl, rfl, hD5, lenc, ⟨_, rfl, ?_, cs2 ++ [e], ?_, ?_⟩⟩
        · exact Same.grow (s2.trans s25) hD
        · rw [upd_same, List.map_append]
          rfl
        · have ej : (longOne n rest (yw, yf, yl)).take (j + 1) = (longOne n rest (yw, yf, yl)).take j ++ [(yw ++ [kk], tw yf n kk, yl - kk)] := take_snoc hit
          rw [ej, ← List.append_assoc]
          refine Paired.snoc (Paired.mapP hP2 fun c x hx => (hx.same s25).lst hD5) ?_
          refine BeAt.lst hD5 ⟨p, d, SqT.of upd_same, ?_, ?_⟩
          · exact (s4.trans (same_upd he)).sqT hp
          · exact (same_upd he).sqT (SqT.of hd)
      · rintro σ H2 ⟨v9, rfl, s2, cs2, hD2, hP2⟩
        rw [← hlone, List.take_length, ← ft] at hP2
        exact ⟨_, _, _, _, _, _, rfl, s2, cs2, hD2, hP2⟩
    · rintro σ H' ⟨v4, v5, v6, v7, v8, v9, rfl, s1, cs, hD1, hP1⟩
      have e : (as.map V.ref).length = bs.length := by rw [List.length_map]; exact hlas
      rw [e, List.take_length] at hP1
      exact ⟨_, rfl, k H' D s1 ⟨cs, SqL.of hD1, hP1⟩⟩
end
end Fc
end
section
set_option Elab.async false
set_option linter.all false
set_option maxRecDepth 100000
set_option maxHeartbeats 2000000
/-! all ways; names; undone by one -/
namespace Fc
open PySem PySem.Spec PyProof.Rows L2
open Kqz1 (Frac)
open Kqz3 (Ring)
theorem pow5 {i : Nat} (h : i ≤ 10) : 5 ^ i < 10000000 := Nat.lt_of_le_of_lt (Nat.pow_le_pow_right (by decide) h) (by decide)
theorem cross_drop {ns : List Int} {i : Nat} {n : Int} (h : ns[i]? = some n) : crossN (ns.drop i) = n.natAbs + crossN (ns.drop (i + 1)) := by
  obtain ⟨hi, e⟩ := List.getElem?_eq_some_iff.mp h
  rw [List.drop_eq_getElem_cons hi, e]
  unfold crossN
  rw [List.map_cons, List.sum_cons]
theorem crossN_le : ∀ ns : List Int, (∀ n ∈ ns, n.natAbs ≤ 6) → crossN ns ≤ 6 * ns.length
  | [], _ => Nat.zero_le _
  | n :: r, h => by
    have a := crossN_le r fun x hx => h x (List.mem_cons_of_mem _ hx)
    have b := h n List.mem_cons_self
    have e : crossN (n :: r) = n.natAbs + crossN r := by unfold crossN; simp
    rw [e, List.length_cons]
    omega
/-- of a begun way: what is left, how long it is -/
def BeOk (t i : Nat) (b : Begun) : Prop := 0 ≤ b.2.2 ∧ b.2.2 ≤ (t : Int) ∧ b.1.length = i
theorem longer_ok {n rest : Int} {bs : List Begun} {t i : Nat} (h : ∀ b ∈ bs, BeOk t i b) : ∀ c ∈ longer bs n rest, BeOk t (i + 1) c := by
  intro c hc
  obtain ⟨b, hb, hm⟩ := List.mem_flatMap.mp hc
  obtain ⟨l0, l1, l2⟩ := h b hb
  obtain ⟨k, k1, k2, rfl⟩ := mem_longOne hm
  have a : 0 ≤ lowOf b.2.2 rest := by unfold lowOf; split <;> omega
  have a2 : mostOf n b.2.2 ≤ b.2.2 := by unfold mostOf; split <;> omega
  refine ⟨?_, ?_, ?_⟩
  · show 0 ≤ b.2.2 - k
    omega
  · show b.2.2 - k ≤ (t : Int)
    omega
  · show (b.1 ++ [k]).length = i + 1
    rw [List.length_append, l2]
    rfl
section
variable {P : Program} {w : World} {K : PySem.W.Frag} {mg : Str → Option Value} {base : Heap}
/-! ### ways_with_fractions -/
theorem scWwf : FnScope ["figures", "t", "rest", "begun", "figure", "way", "fraction", "left"] ["figures", "t"] (defScope (topS 26)) := ⟨rfl, rfl, rfl, by decide +kernel, rfl, by decide +kernel, by decide +kernel⟩
def spWwf (K : PySem.W.Frag) : Sp := fun vs H Q _ => ∃ (a : Addr) (ns : List Int) (t : Nat), vs = [.ref a, .int (t : Int)] ∧ SqL K H a (inV ns) ∧ OkNs ns ∧ t ≤ 4 ∧ RetO (WaAt K) K H (waysX ns (t : Int)) Q
theorem ok_wwf {f : Addr} {fd : FuncData} (F : Fun K "ways_with_fractions" "ways_with_fractions" (topS 26) f fd) (nA : mg "abs" = none) (cC : ∀ base, Cal P w K mg base 1 "crossings_of" ["figures"] (spCro K)) (cF : ∀ base, Cal P w K mg base 1 "flat_fraction" [] spFlat)
    (cL : ∀ base, Cal P w K mg base 3 "longer_ways" ["begun", "figure", "rest"] (spLon K)) : FnOk P w K mg base CX0 4 f fd ["figures", "t"] (spWwf K) := by
  refine F.ok scWwf (fun vs H Q E h => ?_) (fun cdv A outer s H vs Q E hr h => ⟨_,
      pss_cons (ps_set (i := 2) scWwf.nd rfl (Or.inl rfl) (pe_k (cC _) (hr.mono (by decide)) rfl (pa_cons (pv 0) pa_nil)))
      (pss_cons (ps_if (pt_cmpR op_gt (pv 1) (pv 2) (nomark _)) (pss_one (ps_ret (pe_lst pa_nil))) pss_nil)
      (pss_cons (ps_set (i := 3) scWwf.nd rfl (Or.inl rfl) (pe_lst (pa_cons (pe_tup (pa_cons (pe_tup pa_nil) (pa_cons (pe_k0 (cF _) (hr.mono (by decide)) rfl) (pa_cons (pv 1) pa_nil)))) pa_nil)))
      (pss_cons (ps_for PassesOwn.never rfl (pi_list (pv 0)) (pg_name (i := 4) scWwf.nd rfl (Or.inl rfl))
        (pss_cons (ps_set (i := 2) scWwf.nd rfl (Or.inl rfl) (pe_op op_sub (pv 2) (pe_callB call_abs (by rfl) nA (by decide +kernel) (pa_cons (pv 4) pa_nil))))
        (pss_one (ps_set (i := 3) scWwf.nd rfl (Or.inl rfl) (pe_k (cL _) hr rfl (pa_cons (pv 3) (pa_cons (pv 4) (pa_cons (pv 2) pa_nil))))))))
      (pss_one (ps_ret (pe_lc (own := [("way", 5), ("fraction", 6), ("left", 7)]) (g := gTup K 3 (gCons (gName 5) (gCons (gName 6) (gCons (gName 7) gNil)))) (by rfl) scWwf.nd (pi_list (pv 3)) (blkOk_by (own := [("way", 5), ("fraction", 6), ("left", 7)]) (N := ["figures", "t", "rest", "begun", "figure", "way", "fraction", "left"]) (sc := defScope (topS 26)) (by decide +kernel))
          (fun _ _ _ _ _ => pg_tup rfl (pgs_cons (pg_name (i := 5) scWwf.nd rfl (Or.inl rfl)) (pgs_cons (pg_name (i := 6) scWwf.nd rfl (Or.inl rfl)) (pgs_cons (pg_name (i := 7) scWwf.nd rfl (Or.inl rfl)) pgs_nil)))) (fun _ _ _ _ _ => pts_nil)
          (fun _ _ _ _ _ => pe_tup (pa_cons (pv 5) (pa_cons (pv 6) pa_nil))))))))), ?_⟩)
  · obtain ⟨a, ns, t, rfl, _⟩ := h
    rfl
  · obtain ⟨a, ns, t, rfl, hS, o, ht, k⟩ := h
    refine ⟨_, rfl, a, ns, rfl, hS, o.len, fun H1 s1 => ⟨_, rfl, _, rfl, _, _, rfl, rfl, _, rfl, ?_⟩⟩
    have len0 : (0 : Nat) ≤ sizeLine := Nat.zero_le _
    unfold waysX at k
    by_cases c : cross ns < (t : Int)
    · rw [if_pos c] at k
      exact if_t (decide_eq_true c) ⟨len0, fun p hp => k _ p (s1.trans (same_upd hp)) ⟨[], SqL.of upd_same, .nil⟩⟩
    · rw [if_neg c] at k
      refine if_f (decide_eq_false c) ⟨len0, fun e he => ?_⟩
      have se : Same H1 (upd H1 e (.tup [])) := same_upd he
      refine ⟨rfl, fun H2 d s2 hd => ⟨_, rfl, sz3, fun b hb => ⟨sz1, fun D hD => ?_⟩⟩⟩
      have s3 : Same H2 (upd H2 b (.tup [.ref e, .ref d, .int (t : Int)])) := same_upd hb
      have s4 : Same (upd H2 b (.tup [.ref e, .ref d, .int (t : Int)])) (upd (upd H2 b (.tup [.ref e, .ref d, .int (t : Int)])) D (.lst [.ref b])) := same_upd hD
      have sAll : Same H (upd (upd H2 b (.tup [.ref e, .ref d, .int (t : Int)])) D (.lst [.ref b])) := (s1.trans (se.trans s2)).trans (s3.trans s4)
      have b0 : BeAt K (upd (upd H2 b (.tup [.ref e, .ref d, .int (t : Int)])) D (.lst [.ref b])) b ([], ⟨0, 1⟩, (t : Int)) := by
        refine ⟨e, d, s4.sqT (SqT.of upd_same), ?_, ?_⟩
        · exact (s2.trans (s3.trans s4)).sqT (SqT.of upd_same)
        · exact (s3.trans s4).sqT (SqT.of hd)
      refine ⟨_, rfl, a, rfl, ⟨_, sAll.seq hS⟩, for_list (K := K) (a := a) (xs := inV ns) (fun i σ H' => ∃ (v4 : Option V) (B : Addr) (bs : List Begun), σ = [some (.ref a), some (.int (t : Int)), some (.int (crossN (ns.drop i) : Int)), some (.ref B), v4, none, none, none] ∧ Same H H' ∧
        LiO (BeAt K) K H' B bs ∧ (∀ b ∈ bs, BeOk t i b) ∧ bs.length ≤ 5 ^ i ∧ goOn (ns.drop i) (crossN (ns.drop i) : Int) bs = goOn ns (cross ns) [([], ⟨0, 1⟩, (t : Int))]) ?_ (fun i σ H' _ ⟨_, _, _, _, s2, _⟩ => s2.seq hS) ?_ ?_⟩
      · refine ⟨none, D, [([], ⟨0, 1⟩, (t : Int))], ?_, sAll, ⟨[b], SqL.of upd_same, .cons b0 .nil⟩, fun x hx => ?_, Nat.le_refl _, ?_⟩
        · rw [List.drop_zero, ← cross_nat]
          rfl
        · have ex : x = ([], ⟨0, 1⟩, (t : Int)) := by simpa using hx
          rw [ex]
          exact ⟨Int.natCast_nonneg _, Int.le_refl _, rfl⟩
        · rw [List.drop_zero, ← cross_nat]
      · rintro i x σ H' hx ⟨v4, B, bs, rfl, s5, hB, ok, hbl, hg⟩
        obtain ⟨n, hn, rfl⟩ := inV_at hx
        have hi : i < ns.length := (List.getElem?_eq_some_iff.mp hn).1
        have n6 := o.six n (List.mem_of_getElem? hn)
        have cd := cross_drop hn
        have ed : ns.drop i = n :: ns.drop (i + 1) := by
          obtain ⟨hi, e⟩ := List.getElem?_eq_some_iff.mp hn
          rw [List.drop_eq_getElem_cons hi, e]
        have eia := iabs_nat n
        have ler : (crossN (ns.drop (i + 1)) : Int) ≤ 1000 := by
          have q := crossN_le (ns.drop (i + 1)) fun x hx => o.six x (List.mem_of_mem_drop hx)
          have q2 : (ns.drop (i + 1)).length ≤ ns.length := by rw [List.length_drop]; omega
          have := o.len
          omega
        have er : ((crossN (ns.drop i) : Nat) : Int) - iabs n = (crossN (ns.drop (i + 1)) : Int) := by rw [eia, cd]; omega
        have ll := longer_len n (crossN (ns.drop (i + 1)) : Int) (t := t) bs fun b hb => ⟨(ok b hb).1, (ok b hb).2.1⟩
        have ll2 : (longer bs n (crossN (ns.drop (i + 1)) : Int)).length ≤ 5 ^ (i + 1) := by
          rw [Nat.pow_succ]
          exact Nat.le_trans ll (Nat.mul_le_mul hbl (by omega))
        refine ⟨_, rfl, _, rfl, _, rfl, _, _, rfl, rfl, ?_⟩
        show tSeq _ _ _ _ _
        refine ⟨_, rfl, _, rfl, _, rfl, B, bs, n, _, rfl, hB, n6, ?_, ?_, fun b hb => ?_, ?_, fun H2 B2 s6 hB2 => ?_⟩
        · show 0 ≤ ((crossN (ns.drop i) : Nat) : Int) - iabs n
          rw [er]
          exact Int.natCast_nonneg _
        · show ((crossN (ns.drop i) : Nat) : Int) - iabs n ≤ 1000
          rw [er]
          exact ler
        · obtain ⟨b1, b2, b3⟩ := ok b hb
          have := o.len
          exact ⟨b1, by omega, by omega⟩
        · show (longer bs n (((crossN (ns.drop i) : Nat) : Int) - iabs n)).length < 10000000
          rw [er]
          have := o.len
          exact Nat.lt_of_le_of_lt ll2 (pow5 (by omega))
        · have hB2 : LiO (BeAt K) K H2 B2 (longer bs n (((crossN (ns.drop i) : Nat) : Int) - iabs n)) := hB2
          rw [er] at hB2
          refine ⟨some (.int n), B2, _, ?_, s5.trans s6, hB2, longer_ok ok, ll2, ?_⟩
          · show ([some (.ref a), some (.int (t : Int)), some (.int (((crossN (ns.drop i) : Nat) : Int) - iabs n)), some (.ref B2), some (.int n), none, none, none] : L2.St) = _
            rw [er]
          · have e9 : ∀ z, goOn (ns.drop i) z bs = goOn (ns.drop (i + 1)) (z - iabs n) (longer bs n (z - iabs n)) := fun z => by
              rw [ed]
              rfl
            rw [← hg, e9, er]
      · rintro σ H' ⟨v4, B, bs, rfl, s5, hB, ok, hbl, hg⟩
        rw [inV_len] at ok hbl hg
        have ebs : bs = goOn ns (cross ns) [([], ⟨0, 1⟩, (t : Int))] := by
          rw [← hg, List.drop_length]
          rfl
        rw [← ebs] at k
        obtain ⟨as, hA, hP⟩ := hB
        have lab := Paired.length hP
        refine ⟨_, rfl, B, rfl, ⟨_, hA⟩, fun D2 hD2 => lc_list (K := K) (a := B) (xs := as.map V.ref) (fun i H2 => Same H' H2 ∧ ∃ cs : List Addr, H2 D2 = some (.lst (cs.map V.ref)) ∧ Paired (WaAt K H2) cs ((bs.take i).map fun b => (b.1, b.2.1)))
          ⟨same_upd hD2, [], upd_same, .nil⟩ (fun i H2 _ ⟨s6, _⟩ => s6.seq hA) ?_ ?_⟩
        · rintro i x H2 hx ⟨s6, cs, hD3, hP2⟩
          obtain ⟨q, hq, rfl⟩ := ref_at hx
          obtain ⟨y, hy, wa, fa, q1, q2, q3⟩ := paired_at hP hq
          refine ⟨q, _, rfl, s6.sqT q1, rfl, _, _, rfl, _, _, rfl, _, _, rfl, rfl, rfl, ?_⟩
          refine ⟨_, rfl, _, rfl, sz2, fun p hp => ?_⟩
          have s7 : Same H2 (upd H2 p (.tup [.ref wa, .ref fa])) := same_upd hp
          have hD4 := s7 _ _ hD3
          refine ⟨_, hD4, ?_, Same.grow (s6.trans s7) hD2, cs ++ [p], ?_, ?_⟩
          · rw [List.length_map, Paired.length hP2, List.length_map, List.length_take]
            have a1 : bs.length ≤ 5 ^ ns.length := hbl
            have a2 := pow5 o.len
            have : sizeLine = 16777216 := sizeLine_eq
            omega
          · rw [upd_same, List.map_append]
            rfl
          · rw [take_snoc hy, List.map_append]
            refine Paired.snoc (Paired.mapP hP2 fun c x hx => (hx.same s7).lst hD4) (WaAt.lst hD4 ⟨wa, fa, SqT.of upd_same, s7.sqT (s6.sqT q2), s7.sqT (s6.sqT q3)⟩)
        · rintro H2 ⟨s6, cs, hD3, hP2⟩
          have e : (as.map V.ref).length = bs.length := by rw [List.length_map]; exact lab
          rw [e, List.take_length] at hP2
          exact k H2 D2 (s5.trans s6) ⟨cs, SqL.of hD3, hP2⟩
/-! ### fractions_by_ways -/
theorem scFbw : FnScope ["figures", "t", "way", "fraction"] ["figures", "t"] (defScope (topS 27)) := ⟨rfl, rfl, rfl, by decide +kernel, rfl, by decide +kernel, by decide +kernel⟩
def fracsX (ns : List Int) (t : Int) : List Frac := (waysX ns t).map fun b => b.2
def spFbw (K : PySem.W.Frag) : Sp := fun vs H Q _ => ∃ (a : Addr) (ns : List Int) (t : Nat), vs = [.ref a, .int (t : Int)] ∧ SqL K H a (inV ns) ∧ OkNs ns ∧ t ≤ 4 ∧ RetO (FrAt K) K H (fracsX ns (t : Int)) Q
theorem waysX_715 {ns : List Int} (o : OkNs ns) {t : Nat} (h : t ≤ 4) : (waysX ns (t : Int)).length ≤ 715 := by
  rw [waysX_is, List.length_map]
  exact which_715 o h
theorem ok_fbw {f : Addr} {fd : FuncData} (F : Fun K "fractions_by_ways" "fractions_by_ways" (topS 27) f fd) (cW : ∀ base, Cal P w K mg base 4 "ways_with_fractions" ["figures", "t"] (spWwf K)) : FnOk P w K mg base CX0 5 f fd ["figures", "t"] (spFbw K) := by
  refine F.ok scFbw (fun vs H Q E h => ?_) (fun cdv A outer s H vs Q E hr h => ⟨_,
      pss_one (ps_ret (pe_lc (own := [("way", 2), ("fraction", 3)]) (g := gTup K 2 (gCons (gName 2) (gCons (gName 3) gNil))) (by rfl) scFbw.nd (pi_list (pe_k (cW _) hr rfl (pa_cons (pv 0) (pa_cons (pv 1) pa_nil)))) (blkOk_by (own := [("way", 2), ("fraction", 3)]) (N := ["figures", "t", "way", "fraction"]) (sc := defScope (topS 27)) (by decide +kernel))
          (fun _ _ _ _ _ => pg_tup rfl (pgs_cons (pg_name (i := 2) scFbw.nd rfl (Or.inl rfl)) (pgs_cons (pg_name (i := 3) scFbw.nd rfl (Or.inl rfl)) pgs_nil))) (fun _ _ _ _ _ => pts_nil) (fun _ _ _ _ _ => pv 3))), ?_⟩)
  · obtain ⟨a, ns, t, rfl, _⟩ := h
    rfl
  · obtain ⟨a, ns, t, rfl, hS, o, ht, k⟩ := h
    refine ⟨_, rfl, _, rfl, a, ns, t, rfl, hS, o, ht, fun H' B s1 hB => ?_⟩
    obtain ⟨as, hA, hP⟩ := hB
    have lab := Paired.length hP
    have l715 := waysX_715 o ht
    refine ⟨B, rfl, ⟨_, hA⟩, fun D hD => lc_list (K := K) (a := B) (xs := as.map V.ref) (fun i H2 => Same H' H2 ∧ ∃ cs : List Addr, H2 D = some (.lst (cs.map V.ref)) ∧ Paired (FrAt K H2) cs (((waysX ns (t : Int)).take i).map fun b => b.2))
      ⟨same_upd hD, [], upd_same, .nil⟩ (fun i H2 _ ⟨s6, _⟩ => s6.seq hA) ?_ ?_⟩
    · rintro i x H2 hx ⟨s6, cs, hD3, hP2⟩
      obtain ⟨q, hq, rfl⟩ := ref_at hx
      obtain ⟨y, hy, wa, fa, q1, q2, q3⟩ := paired_at hP hq
      refine ⟨q, _, rfl, s6.sqT q1, rfl, _, _, rfl, _, _, rfl, rfl, rfl, ?_⟩
      refine ⟨_, rfl, _, hD3, ?_, Same.grow s6 hD, cs ++ [fa], ?_, ?_⟩
      · rw [List.length_map, Paired.length hP2, List.length_map, List.length_take]
        have : sizeLine = 16777216 := sizeLine_eq
        omega
      · rw [upd_same, List.map_append]
        rfl
      · rw [take_snoc hy, List.map_append]
        exact Paired.snoc (Paired.mapP hP2 fun c x hx => sqT_lst hD3 hx) (sqT_lst hD3 (s6.sqT q3))
    · rintro H2 ⟨s6, cs, hD3, hP2⟩
      have e : (as.map V.ref).length = (waysX ns (t : Int)).length := by rw [List.length_map]; exact lab
      rw [e, List.take_length] at hP2
      exact k H2 D (s1.trans s6) ⟨cs, SqL.of hD3, hP2⟩
end
end Fc
end
section
set_option Elab.async false
set_option linter.all false
set_option maxRecDepth 100000
set_option maxHeartbeats 2000000
/-! names; undone by one -/
namespace Fc
open PySem PySem.Spec PyProof.Rows L2
open Kqz1 (Frac)
open Kqz3 (Ring)
def RiAt (K : PySem.W.Frag) (H : Hp) (b : Addr) (r : Ring) : Prop := SqT K H b (rV r)
def keyR (r : Ring) : List L2.Key := [Sum.inl (r.p : Int), Sum.inl (r.q : Int)]
def entR (r : Ring) : List L2.Key × V := (keyR r, .bl true)
theorem keyR_inj {r s : Ring} (h : keyR r = keyR s) : r = s := by
  obtain ⟨a, b⟩ := r
  obtain ⟨c, d⟩ := s
  unfold keyR at h
  injection h with h1 h2
  injection h2 with h3 _
  have e1 : (a : Int) = (c : Int) := Sum.inl.inj h1
  have e2 : (b : Int) = (d : Int) := Sum.inl.inj h3
  have e3 : a = c := by omega
  have e4 : b = d := by omega
  rw [e3, e4]
theorem put_ent (rs : List Ring) (r : Ring) : putK (rs.map entR) (keyR r) (V.bl true) = (if rs.contains r then rs else rs ++ [r]).map entR := by
  unfold putK
  have ea : ((rs.map entR).any fun kv => decide (kv.1 = keyR r)) = rs.contains r := by
    rw [List.any_map, List.contains_eq_any_beq]
    congr 1
    funext s
    show decide (keyR s = keyR r) = (r == s)
    rw [ring_beq, Bool.eq_iff_iff, decide_eq_true_iff, decide_eq_true_iff]
    exact ⟨fun h => (keyR_inj h).symm, fun h => by rw [h]⟩
  rw [ea]
  by_cases c : rs.contains r = true
  · rw [if_pos c, if_pos c, List.map_map]
    apply List.map_congr_left
    intro s _
    show (if keyR s = keyR r then (keyR s, V.bl true) else (keyR s, V.bl true)) = _
    split <;> rfl
  · rw [if_neg c, if_neg c, List.map_append]
    rfl
theorem dedup_snoc {α : Type} [BEq α] (l : List α) (x : α) : dedup (l ++ [x]) = if (dedup l).contains x then dedup l else dedup l ++ [x] := by
  unfold dedup
  rw [List.foldl_append]
  rfl
theorem dedup_len {α : Type} [BEq α] : ∀ (l : List α), (dedup l).length ≤ l.length := by
  have key : ∀ (l a : List α), (l.foldl (fun a f => if a.contains f then a else a ++ [f]) a).length ≤ a.length + l.length := by
    intro l
    induction l with
    | nil => intro a; exact Nat.le_refl _
    | cons x r ih =>
      intro a
      rw [List.foldl_cons, List.length_cons]
      refine Nat.le_trans (ih _) ?_
      split
      · omega
      · rw [List.length_append]
        show a.length + 1 + r.length ≤ _
        omega
  intro l
  have := key l []
  simpa [dedup] using this
theorem paired_map {α β γ : Type} {R : β → γ → Prop} {S : α → γ → Prop} {f : α → β} (h : ∀ a c, R (f a) c → S a c) : ∀ {l : List α} {cs : List γ}, Paired R (l.map f) cs → Paired (fun c a => S a c) cs l
  | [], _, p => by
    cases p
    exact .nil
  | a :: l, _, p => by
    cases p with
    | cons x t => exact .cons (h _ _ x) (paired_map h t)
section
variable {P : Program} {w : World} {K : PySem.W.Frag} {mg : Str → Option Value} {base : Heap}
/-! ### names_of -/
theorem scNms : FnScope ["fractions", "names", "fraction"] ["fractions"] (defScope (topS 11)) := ⟨rfl, rfl, rfl, by decide +kernel, rfl, by decide +kernel, by decide +kernel⟩
def nameF (f : Frac) : Ring := Kqz3.name (Kqz3.ringOf f)
def spNms (K : PySem.W.Frag) : Sp := fun vs H Q _ => ∃ (a : Addr) (fs : List Frac), vs = [.ref a] ∧ LiO (FrAt K) K H a fs ∧ (∀ f ∈ fs, Good f ∧ wt f < 1000000) ∧ fs.length ≤ 1000 ∧ RetO (RiAt K) K H (dedup (fs.map nameF)) Q
theorem ringP_small {f : Frac} (h : wt f < 1000000) : (Kqz3.ringOf f).p < 1000000 := by
  have e := ringP_is f
  unfold ringP at e
  rw [iabs_nat] at e
  unfold wt at h
  omega
theorem ok_nms {f : Addr} {fd : FuncData} (F : Fun K "names_of" "names_of" (topS 11) f fd) (nL : mg "list" = none) (cR : ∀ base, Cal P w K mg base 2 "ring_of" ["fraction"] (spRin K)) (cN : ∀ base, Cal P w K mg base 2 "name_of" ["ring"] (spNam K)) : FnOk P w K mg base CX0 3 f fd ["fractions"] (spNms K) := by
  refine F.ok scNms (fun vs H Q E h => ?_) (fun cdv A outer s H vs Q E hr h => ⟨_,
      pss_cons (ps_set (i := 1) scNms.nd rfl (Or.inl rfl) pe_dnewT)
      (pss_cons (ps_for PassesOwn.never rfl (pi_list (pv 0)) (pg_name (i := 2) scNms.nd rfl (Or.inl rfl))
        (pss_one (ps_dput (hu_of hr) (pv 1) (pe_k (cN _) hr rfl (pa_cons (pe_k (cR _) hr rfl (pa_cons (pv 2) pa_nil)) pa_nil)) pe_bl rfl)))
      (pss_one (ps_ret (pe_callTy (call_list_dT rfl) (by rfl) nL (by decide +kernel) (pa_cons (pv 1) pa_nil))))), ?_⟩)
  · obtain ⟨a, fs, rfl, _⟩ := h
    rfl
  · obtain ⟨a, fs, rfl, ⟨as, hS, hP⟩, hg, hl, k⟩ := h
    intro D hD
    have lab := Paired.length hP
    have s0 : Same H (upd H D (.dT [])) := same_upd hD
    refine ⟨_, rfl, a, rfl, ⟨_, s0.seq hS⟩, for_list (K := K) (a := a) (xs := as.map V.ref) (fun i σ H' => ∃ v : Option V, σ = [some (.ref a), some (.ref D), v] ∧ Same H H' ∧ H' D = some (.dT ((dedup ((fs.take i).map nameF)).map entR))) ⟨none, rfl, s0, upd_same⟩ (fun i σ H' _ ⟨_, _, s1, _⟩ => s1.seq hS) ?_ ?_⟩
    · rintro i x σ H' hx ⟨v, rfl, s1, hD1⟩
      obtain ⟨b, hb, rfl⟩ := ref_at hx
      obtain ⟨g, hgi, hF⟩ := paired_at hP hb
      obtain ⟨gg, gw⟩ := hg g (List.mem_of_getElem? hgi)
      refine ⟨_, rfl, _, rfl, b, g, rfl, s1.sqT hF, fun H2 c s2 hc => ?_⟩
      have hc' : H2 c = some (.tup (rV (Kqz3.ringOf g))) := by rw [← ringV_is]; exact hc
      refine ⟨c, Kqz3.ringOf g, rfl, SqT.of hc', ringOf_ok gg, ringP_small gw, fun H3 d s3 hd => ?_⟩
      have hD3 := (s2.trans s3) _ _ hD1
      refine ⟨D, _, rfl, DPut.t (k := keyR (nameF g)) hD3 hd ?_, some (.ref b), rfl, Same.grow (s1.trans (s2.trans s3)) hD, ?_⟩
      · rw [List.length_map]
        have a1 := dedup_len ((fs.take i).map nameF)
        rw [List.length_map, List.length_take] at a1
        have : sizeLine = 16777216 := sizeLine_eq
        omega
      · rw [upd_same, put_ent, take_snoc hgi, List.map_append]
        show _ = some (HO.dT ((dedup ((fs.take i).map nameF ++ [nameF g])).map entR))
        rw [dedup_snoc]
    · rintro σ H' ⟨v, rfl, s1, hD1⟩
      have e : (as.map V.ref).length = fs.length := by rw [List.length_map]; exact lab
      rw [e, List.take_length] at hD1
      refine ⟨_, rfl, D, _, rfl, Rd.of hD1, fun p bs hp hk => ?_⟩
      have s2 : Same H' (upd H' p (.lst (bs.map V.ref))) := same_upd hp
      refine k _ p (s1.trans s2) ⟨bs, SqL.of upd_same, ?_⟩
      exact paired_map (f := entR) (fun r c h => SqT.of (s2 _ _ h)) hk
/-! ### is_undone_by_one -/
theorem scUnd : FnScope ["ring", "size", "shares", "product", "n"] ["ring"] (defScope (topS 13)) := ⟨rfl, rfl, rfl, by decide +kernel, rfl, by decide +kernel, by decide +kernel⟩
def spUnd (K : PySem.W.Frag) : Sp := fun vs H Q _ => ∃ (a : Addr) (r : Ring), vs = [.ref a] ∧ SqT K H a (rV r) ∧ RingOk r ∧ r.p < 1000000 ∧ RetV H (.bl (onceX r)) Q
theorem any_take {α : Type} (p : α → Bool) {l : List α} {i : Nat} {x : α} (h : l[i]? = some x) : (l.take (i + 1)).any p = ((l.take i).any p || p x) := by
  rw [take_snoc h, List.any_append]
  simp
theorem ok_und {f : Addr} {fd : FuncData} (F : Fun K "is_undone_by_one" "is_undone_by_one" (topS 13) f fd) (cB : ∀ base, Cal P w K mg base 2 "bare_divisors" ["product"] spBar) : FnOk P w K mg base CX0 3 f fd ["ring"] (spUnd K) := by
  refine F.ok scUnd (fun vs H Q E h => ?_) (fun cdv A outer s H vs Q E hr h => ⟨_,
      pss_cons (ps_set (i := 1) scUnd.nd rfl (Or.inl rfl) (pe_ix ix_tup (pv 0) pe_int (fun _ _ => rfl)))
      (pss_cons (ps_if (PW.pt (pw_or (pt_cmpR op_eq (pe_op op_mod (pv 1) pe_int) pe_int (nomark _)) (pw_or1 (pt_cmpR op_eq (pv 1) pe_int (nomark _))))) (pss_one (ps_ret pe_bl)) pss_nil)
      (pss_cons (ps_set (i := 2) scUnd.nd rfl (Or.inl rfl) (pe_tup (pa_cons (pe_ix ix_tup (pv 0) pe_int (fun _ _ => rfl)) (pa_cons (pe_op op_sub (pv 1) (pe_ix ix_tup (pv 0) pe_int (fun _ _ => rfl))) pa_nil))))
      (pss_cons (ps_for PassesOwn.never rfl (pi_tup (pe_tup (pa_cons (pe_op op_fdiv (pe_op op_sub (pv 1) pe_int) pe_int) (pa_cons (pe_op op_fdiv (pe_op op_add (pv 1) pe_int) pe_int) pa_nil)))) (pg_name (i := 3) scUnd.nd rfl (Or.inl rfl))
        (pss_one (ps_for PassesOwn.never rfl (pi_list (pe_k (cB _) hr rfl (pa_cons (pv 3) pa_nil))) (pg_name (i := 4) scUnd.nd rfl (Or.inl rfl))
          (pss_one (ps_if (pt_cmpR op_in_seq (pe_op op_modN (pe_op op_mul (pe_op op_mul pe_int (pv 4)) (pv 4)) (pv 1)) (pv 2) (by rfl)) (pss_one (ps_ret pe_bl)) pss_nil)))))
      (pss_one (ps_ret pe_bl))))), ?_⟩)
  · obtain ⟨a, r, rfl, _⟩ := h
    rfl
  · obtain ⟨a, r, rfl, hS, o, hb, k⟩ := h
    refine ⟨_, rfl, _, _, _, _, rfl, rfl, hS, rat0, _, rfl, _, _, rfl, rfl, (by show (0 : Int) < 2; decide), rfl, _, rfl, ?_⟩
    unfold onceX at k
    have e2 : ((r.p : Int) % 2) = ((r.p % 2 : Nat) : Int) := by omega
    by_cases c1 : r.p % 2 = 0
    · rw [if_pos (.inl c1)] at k
      refine if_t (decide_eq_true ?_) ?_
      · show V.int ((r.p : Int) % 2) = V.int 0
        rw [e2, c1]
        rfl
      · exact k _ (Same.refl _)
    · refine if_f (decide_eq_false ?_) ?_
      · show ¬ V.int ((r.p : Int) % 2) = V.int 0
        rw [e2, V.int.injEq]
        omega
      · refine ⟨_, rfl, rfl, _, rfl, ?_⟩
        by_cases c2 : r.p = 1
        · rw [if_pos (.inr c2)] at k
          refine if_t (decide_eq_true (by rw [c2] <;> rfl)) (k _ (Same.refl _))
        · rw [if_neg (fun z => z.elim c1 c2)] at k
          have c2i : ¬ (r.p : Int) = 1 := by omega
          refine if_f (decide_eq_false (by simpa using c2i)) ?_
          have two : CDiv ((r.p : Int) - 1) 2 := ⟨by decide, by decide⟩
          have two2 : CDiv ((r.p : Int) + 1) 2 := ⟨by decide, by decide⟩
          refine ⟨_, rfl, _, _, _, _, rfl, rfl, hS, rat1, _, rfl, _, rfl, _, _, _, _, rfl, rfl, hS, rat1, _, _, rfl, rfl, sz2, fun q hq => ?_⟩
          refine ⟨_, rfl, _, _, rfl, rfl, _, _, rfl, rfl, two, _, rfl, _, _, rfl, rfl, _, _, rfl, rfl, two2, sz2, fun t ht => ⟨t, rfl, ⟨_, SqT.of upd_same⟩, ?_⟩⟩
          have sq : Same H (upd H q (.tup [.int (r.q : Int), .int ((r.p : Int) - (r.q : Int))])) := same_upd hq
          have st : Same (upd H q (.tup [.int (r.q : Int), .int ((r.p : Int) - (r.q : Int))])) _ := same_upd (o := .tup [.int (((r.p : Int) - 1) / 2), .int (((r.p : Int) + 1) / 2)]) ht
          have p1 : ((r.p : Int) - 1) / 2 = (((r.p - 1) / 2 : Nat) : Int) := by omega
          have p2 : ((r.p : Int) + 1) / 2 = (((r.p + 1) / 2 : Nat) : Int) := by omega
          have bq := o.below (by omega)
          let prs : List Nat := [(r.p - 1) / 2, (r.p + 1) / 2]
          have eprs : ([.int (((r.p : Int) - 1) / 2), .int (((r.p : Int) + 1) / 2)] : List V) = natV prs := by
            rw [p1, p2]
            rfl
          have kk : RetV H (.bl (prs.any fun pr => (bareDiv pr).any (hit r))) Q := by
            have e : (prs.any fun pr => (bareDiv pr).any (hit r)) = ((bareDiv ((r.p - 1) / 2)).any (hit r) || (bareDiv ((r.p + 1) / 2)).any (hit r)) := by
              show ((bareDiv ((r.p - 1) / 2)).any (hit r) || ((bareDiv ((r.p + 1) / 2)).any (hit r) || false)) = _
              rw [Bool.or_false]
            rw [e]
            exact k
          refine for_tup (K := K) (a := t) (xs := natV prs) (fun i σ H' => ∃ v3 v4 : Option V, σ = [some (.ref a), some (.int (r.p : Int)), some (.ref q), v3, v4] ∧ Same H H' ∧ SqT K H' q [.int (r.q : Int), .int ((r.p : Int) - (r.q : Int))] ∧ SqT K H' t (natV prs) ∧ ((prs.take i).any fun pr => (bareDiv pr).any (hit r)) = false)
            ⟨none, none, rfl, sq.trans st, st.sqT (SqT.of upd_same), SqT.of (by rw [← eprs]; exact upd_same), rfl⟩ (fun i σ H' _ ⟨_, _, _, _, _, z, _⟩ => z) ?_ ?_
          · rintro i x σ H' hx ⟨v3, v4, rfl, s1, hq1, ht1, hn⟩
            obtain ⟨pr, hpr, rfl⟩ : ∃ pr, prs[i]? = some pr ∧ x = V.int (pr : Int) := by
              unfold natV at hx
              rw [List.getElem?_map] at hx
              cases e : prs[i]? with
              | none =>
                rw [e] at hx
                cases hx
              | some n =>
                rw [e] at hx
                exact ⟨n, rfl, (Option.some.inj hx).symm⟩
            have prb : pr < 1000000 := by
              have m : pr ∈ prs := List.mem_of_getElem? hpr
              have m' : pr = (r.p - 1) / 2 ∨ pr = (r.p + 1) / 2 := by simpa [prs] using m
              omega
            refine ⟨_, rfl, pr, rfl, prb, fun H2 B s2 hB => ⟨B, rfl, ⟨_, SqL.of hB⟩, ?_⟩⟩
            refine for_list (K := K) (a := B) (xs := natV (bareDiv pr)) (fun j σ H3 => ∃ v4 : Option V, σ = [some (.ref a), some (.int (r.p : Int)), some (.ref q), some (.int (pr : Int)), v4] ∧ Same H2 H3 ∧ ((bareDiv pr).take j).any (hit r) = false) ⟨_, rfl, Same.refl _, rfl⟩ (fun j σ H3 _ ⟨_, _, z, _⟩ => z.seq (SqL.of hB)) ?_ ?_
            · rintro j y σ H3 hy ⟨v5, rfl, s3, hm⟩
              obtain ⟨n, hnn, rfl⟩ : ∃ n, (bareDiv pr)[j]? = some n ∧ y = V.int (n : Int) := by
                unfold natV at hy
                rw [List.getElem?_map] at hy
                cases e : (bareDiv pr)[j]? with
                | none =>
                  rw [e] at hy
                  cases hy
                | some n =>
                  rw [e] at hy
                  exact ⟨n, rfl, (Option.some.inj hy).symm⟩
              have nb := (mem_bare.mp (List.mem_of_getElem? hnn)).2.1
              have big : -(2 ^ 64) < (2 : Int) * (n : Int) ∧ (2 : Int) * (n : Int) < 2 ^ 64 := by omega
              have s13 : Same H' H3 := s2.trans s3
              have em : ((2 : Int) * (n : Int) * (n : Int)).fmod (r.p : Int) = ((2 * n * n % r.p : Nat) : Int) := by
                rw [Int.fmod_eq_emod_of_nonneg _ (by omega)]
                simp
              refine ⟨_, rfl, _, _, rfl, rfl, .inl two_lit, _, rfl, _, _, rfl, rfl, .inl big, _, rfl, _, _, rfl, rfl, by omega, _, rfl, q, _, rfl, .inr (s13.sqT hq1), rfl, rfl, _, rfl, ?_⟩
              have eh : L2.inV (V.int (((2 : Int) * (n : Int) * (n : Int)).fmod (r.p : Int))) [.int (r.q : Int), .int ((r.p : Int) - (r.q : Int))] = hit r n := by
                rw [em]
                show (((r.q : Int) == ((2 * n * n % r.p : Nat) : Int)) || ((((r.p : Int) - (r.q : Int)) == ((2 * n * n % r.p : Nat) : Int)) || false)) = ((2 * n * n % r.p == r.q) || (2 * n * n % r.p == r.p - r.q))
                generalize 2 * n * n % r.p = z
                rw [Bool.or_false, Bool.eq_iff_iff, Bool.or_eq_true, Bool.or_eq_true, beq_iff_eq, beq_iff_eq, beq_iff_eq, beq_iff_eq]
                omega
              show if L2.inV (V.int (((2 : Int) * (n : Int) * (n : Int)).fmod (r.p : Int))) [.int (r.q : Int), .int ((r.p : Int) - (r.q : Int))] = true then _ else _
              rw [eh]
              have at_ := any_take (hit r) hnn
              by_cases ch : hit r n = true
              · refine if_t ch ?_
                have full : (prs.any fun pr => (bareDiv pr).any (hit r)) = true := by
                  rw [List.any_eq_true]
                  refine ⟨pr, List.mem_of_getElem? hpr, ?_⟩
                  rw [List.any_eq_true]
                  exact ⟨n, List.mem_of_getElem? hnn, ch⟩
                rw [full] at kk
                exact kk _ (s1.trans s13)
              · refine if_f (by simpa using ch) ⟨_, rfl, s3, ?_⟩
                rw [at_, hm]
                simpa using ch
            · rintro σ H3 ⟨v5, rfl, s3, hm⟩
              rw [natV_len, List.take_length] at hm
              refine ⟨_, _, rfl, s1.trans (s2.trans s3), (s2.trans s3).sqT hq1, (s2.trans s3).sqT ht1, ?_⟩
              rw [any_take _ hpr, hn, hm]
              rfl
          · rintro σ H' ⟨v3, v4, rfl, s1, hq1, ht1, hn⟩
            rw [natV_len, List.take_length] at hn
            rw [hn] at kk
            exact kk _ s1
end
end Fc
end
section
set_option Elab.async false
set_option linter.all false
set_option maxRecDepth 100000
set_option maxHeartbeats 2000000
/-! a lambda of one parameter, with one captured name or none, handed to a def and called further down -/
namespace Fc
open PySem PySem.Spec PyProof.Rows L2 LamX NdefX
open Kqz1 (Frac)
/-! ### an object known to the sign -/
abbrev FZ (o : Obj) : HO := .frz o (.ext fun _ => True)
theorem fz_ok {P : Program} {w : World} {H : Hp} {h : Heap} {a : Addr} {o : Obj} (e : h.get? a = some o) : ObjOk P w H h a (FZ o) := ⟨e, trivial, ⟨o, e⟩, fun _ _ _ _ => trivial⟩
theorem fz_at {P : Program} {w : World} {H : Hp} {h : Heap} {a : Addr} {o : Obj} (hok : HOk P w H h) (e : H a = some (FZ o)) : h.get? a = some o := (hok a _ e).1
/-! ### a cell tracked for a while -/
def hidC (c : Addr) (H : Hp) : Hp := fun b => if b = c then none else H b
theorem hidC_same {c : Addr} {H : Hp} : hidC c H c = none := if_pos rfl
theorem hidC_ne {c b : Addr} {H : Hp} (h : b ≠ c) : hidC c H b = H b := if_neg h
section
variable {P : Program} {w : World} {K : PySem.W.Frag} {mg : Str → Option Value} {base : Heap} {A : Around} {outer : List Env} {s s' : Shared} {H : Hp} {c : Addr} {o : Obj}
/-- what else is tracked leans on no cell -/
theorem hok_up {H : Hp} {h : Heap} (hok : HOk P w H h) (n : H c = none) (e : h.get? c = some o) : HOk P w (upd H c (FZ o)) h := fun b u q => by
  by_cases hb : b = c
  · rw [hb, upd_same] at q
    cases q
    rw [hb]
    exact fz_ok e
  · rw [upd_ne hb] at q
    refine (hok b u q).stay (fun _ _ _ z => z) (fun d z => ?_) fun d xs z => ?_
    · rw [upd_ne (ne_of_none z n)]
      exact z
    · rw [upd_ne (ne_of_none z n)]
      exact z
theorem hok_down {H : Hp} {h : Heap} (hok : HOk P w H h) (n : H c = some (FZ o)) : HOk P w (hidC c H) h := fun b u q => by
  by_cases hb : b = c
  · rw [hb, hidC_same] at q
    cases q
  · rw [hidC_ne hb] at q
    refine (hok b u q).stay (fun _ _ _ z => z) (fun d z => ?_) fun d xs z => ?_
    · rw [hidC_ne (ne_of z n (by intro y; cases y))]
      exact z
    · rw [hidC_ne (ne_of z n (by intro y; cases y))]
      exact z
theorem env_up (e0 : Env0 P w K mg base A outer s H) (n : H c = none) (e : s.heap.get? c = some o) (nb : base.get? c = none) (nf : c ∉ frs outer) : Env0 P w K mg base A outer s (upd H c (FZ o)) :=
  ⟨e0.frames, e0.mod, fun b ob q => ⟨(e0.bs b ob q).1, by
    have hb : b ≠ c := fun z => by rw [z, nb] at q; cases q
    rw [upd_ne hb]
    exact (e0.bs b ob q).2⟩, e0.bsz, e0.funs, fun b hb => by
    have hne : b ≠ c := fun z => nf (z ▸ hb)
    rw [upd_ne hne]
    exact e0.frf b hb, hok_up e0.hok n e, e0.bare⟩
theorem env_down (e0 : Env0 P w K mg base A outer s H) (n : H c = some (FZ o)) : Env0 P w K mg base A outer s (hidC c H) :=
  ⟨e0.frames, e0.mod, fun b ob q => ⟨(e0.bs b ob q).1, by
    have hb : b ≠ c := fun z => by
      have := (e0.bs b ob q).2
      rw [z, n] at this
      cases this
    rw [hidC_ne hb]
    exact (e0.bs b ob q).2⟩, e0.bsz, e0.funs, fun b hb => by
    by_cases hne : b = c
    · rw [hne]
      exact hidC_same
    · rw [hidC_ne hne]
      exact e0.frf b hb, hok_down e0.hok n, e0.bare⟩
/-- behind a call to which the cell was told -/
theorem ce_down {Q Q' : VK} {u : Value} (n : H c = none) (e : s.heap.get? c = some o) (nf : c ∉ frs outer) (hQ : ∀ v H3, Q' v H3 → Q v (hidC c H3)) (h : CE outer P w (upd H c (FZ o)) s Q' u s') : CE outer P w H s Q u s' := by
  obtain ⟨v, H3, os, bare, un, hok, r, q⟩ := h
  have n3 : H3 c = some (FZ o) := un.frzs c o _ upd_same
  have e3 := fz_at hok n3
  refine ⟨v, hidC c H3, os, bare, ⟨fun b ob q1 q2 q3 q4 => ?_, fun b ob q1 q2 q3 q4 => ?_, fun b ob q1 q2 q4 => ?_, un.there, fun b xs q1 => ?_, fun b ob u1 q1 => ?_, fun b ps q1 => ?_⟩, hok_down hok n3, r, hQ v H3 q⟩
  · by_cases hb : b = c
    · rw [hb] at q1 ⊢
      rw [e] at q1
      cases q1
      exact e3
    · exact un.keep b ob q1 (by rw [upd_ne hb]; exact q2) q3 q4
  · by_cases hb : b = c
    · exact absurd (hb ▸ q3) nf
    · exact un.slot b ob q1 (by rw [upd_ne hb]; exact q2) q3 q4
  · by_cases hb : b = c
    · rw [hb]
      exact hidC_same
    · rw [hidC_ne hb]
      exact un.free b ob q1 (by rw [upd_ne hb]; exact q2) q4
  · have hb : b ≠ c := ne_of_none q1 n
    rw [hidC_ne hb]
    exact un.tups b xs (by rw [upd_ne hb]; exact q1)
  · have hb : b ≠ c := ne_of_none q1 n
    rw [hidC_ne hb]
    exact un.frzs b ob u1 (by rw [upd_ne hb]; exact q1)
  · have hb : b ≠ c := ne_of_none q1 n
    rw [hidC_ne hb]
    exact un.tbls b ps (by rw [upd_ne hb]; exact q1)
/-- behind a frame that had the cell among its own -/
theorem ce_up {Q Q' : VK} {u : Value} (e0 : Env0 P w K mg base A outer s H) (n : H c = some (FZ o)) (hQ : ∀ v H3, Q' v H3 → Q v (upd H3 c (FZ o))) (h : CE outer P w (hidC c H) s Q' u s') : CE outer P w H s Q u s' := by
  obtain ⟨v, H3, os, bare, un, hok, r, q⟩ := h
  have e := fz_at e0.hok n
  have nf : c ∉ frs outer := fun z => by
    have := e0.frf c z
    rw [n] at this
    cases this
  have n3 : H3 c = none := un.free c o e hidC_same (by simp)
  have e3 : s'.heap.get? c = some o := un.keep c o e hidC_same nf (by simp)
  refine ⟨v, upd H3 c (FZ o), os, bare, ⟨fun b ob q1 q2 q3 q4 => ?_, fun b ob q1 q2 q3 q4 => ?_, fun b ob q1 q2 q4 => ?_, un.there, fun b xs q1 => ?_, fun b ob u1 q1 => ?_, fun b ps q1 => ?_⟩, hok_up hok n3 e3, r, hQ v H3 q⟩
  · have hb : b ≠ c := fun z => by rw [z, n] at q2; cases q2
    exact un.keep b ob q1 (by rw [hidC_ne hb]; exact q2) q3 q4
  · have hb : b ≠ c := fun z => by rw [z, n] at q2; cases q2
    exact un.slot b ob q1 (by rw [hidC_ne hb]; exact q2) q3 q4
  · have hb : b ≠ c := fun z => by rw [z, n] at q2; cases q2
    rw [upd_ne hb]
    exact un.free b ob q1 (by rw [hidC_ne hb]; exact q2) q4
  · have hb : b ≠ c := fun z => by rw [z, n] at q1; cases q1
    rw [upd_ne hb]
    exact un.tups b xs (by rw [hidC_ne hb]; exact q1)
  · by_cases hb : b = c
    · rw [hb] at q1 ⊢
      rw [n] at q1
      cases q1
      exact upd_same
    · rw [upd_ne hb]
      exact un.frzs b ob u1 (by rw [hidC_ne hb]; exact q1)
  · have hb : b ≠ c := fun z => by rw [z, n] at q1; cases q1
    rw [upd_ne hb]
    exact un.tbls b ps (by rw [hidC_ne hb]; exact q1)
end
/-! ### what a wish promises, wherever it is called -/
structure Wish (P : Program) (w : World) (K : PySem.W.Frag) (mg : Str → Option Value) (base : Heap) (k : Nat) (H : Hp) (f : Addr) (pr : Frac → Bool) : Prop where
  fn : ∀ (h : Heap) (H' : Hp), Same H H' → HOk P w H' h → PySem.W.FnAt f h
  run : ∀ (A : Around) (outer : List Env) (s : Shared) (H' : Hp) (a : Addr) (g : Frac) (Q : VK), Same H H' → Room k A → Env0 P w K mg base A outer s H' → SqT K H' a (frV g) → Good g → wt g < 1000000 → RetV H' (.bl (pr g)) Q →
    codeAny (model P w) A (.call (.ref f) ⟨[.ref a], []⟩) (CR CX0 outer P w H' s Q E0) s
theorem Wish.same {P : Program} {w : World} {K : PySem.W.Frag} {mg : Str → Option Value} {base : Heap} {k : Nat} {H H1 : Hp} {f : Addr} {pr : Frac → Bool} (W : Wish P w K mg base k H f pr) (s : Same H H1) : Wish P w K mg base k H1 f pr :=
  ⟨fun h H' z => W.fn h H' (s.trans z), fun A outer st H' a g Q z => W.run A outer st H' a g Q (s.trans z)⟩
/-- wish(e), the wish in the i-th slot -/
def tWish (P : Program) (w : World) (K : PySem.W.Frag) (mg : Str → Option Value) (base : Heap) (k i : Nat) (t : TA) : TE := fun σ H Q => ∃ f pr, σ[i]? = some (some (.ref f)) ∧ Wish P w K mg base k H f pr ∧
  t σ H fun vs H1 => Same H H1 ∧ ∃ a g, vs = [.ref a] ∧ SqT K H1 a (frV g) ∧ Good g ∧ wt g < 1000000 ∧ RetV H1 (.bl (pr g)) Q
section
variable {X : Cx} {k i : Nat} {x : Str} {p pos : Pos} {e : Expr} {es : List Expr} {t : TA}
theorem pe_wish (hr : Room k X.A) (hN : X.N[i]? = some x) (hv : Vis X.env.scope x) (ha : PA X (e :: es) t)
    (hdb : (x == ("__debug__" : Str)) = false := by decide) (hcd : (x == ("__classdict__" : Str)) = false := by decide)
    (he : starEach (e :: es) X.env = (false, eval e X.env) :: starEach es X.env := by rfl) (hpl : (backTo pos (starEach es X.env)).any (·.1) = false := by rfl) : PE X (.Call (.Name x p) (e :: es) [] pos) (tWish X.prog X.w X.K X.mg X.base k i t) := by
  refine ⟨fun pins s σ H Q I h => ?_⟩
  obtain ⟨f, pr, hs, W, ht⟩ := h
  refine wpAny_Call_Name_kw (thn ((pe_var (pos := p) hN hv hdb hcd).run pins s σ H (fun v H1 => v = .ref f ∧ H1 = H) I ⟨.ref f, hs, rfl, rfl⟩) ?_)
  rintro u s1 ⟨v, H1, I1, r1, rfl, rfl⟩
  obtain rfl : u = Value.ref f := r1
  refine PySem.W.callWith_F (first := []) (W.fn _ _ (Same.refl _) I1.hok) (thn (ha.run pos pins s1 σ H1 _ I1 ht) ?_) he hpl
  rintro us s2 ⟨vs, H2, I2, r2, sm, a, g, rfl, hS, hg, hw, k1⟩
  refine ⟨W.fn _ _ sm I2.hok, ?_⟩
  obtain ⟨u, eu, ru⟩ := vals1 r2
  subst eu
  cases ru
  refine wpAny_call (codeAny_mono (W.run X.A X.stack s2 H2 a g Q sm hr I2.env0 hS hg hw k1) fun r s' hq => ?_)
  cases r with
  | error e => exact hq.elim
  | ok fl =>
    cases fl with
    | ret u => exact I2.after hq
    | next => exact hq.elim
    | brk => exact hq.elim
    | cont => exact hq.elim
end
/-! ### a lambda keeps its promise -/
abbrev lamO (F : NF) (eb : Expr) (pm ctv : Value) : Obj := PySem.W.kla_obj "<lambda>" F.qual F.params eb F.scope F.cl pm F.c ctv
section
variable {P : Program} {w : World} {K : PySem.W.Frag} {mg : Str → Option Value} {base : Heap} {k : Nat} {H : Hp} {f : Addr} {pr : Frac → Bool} {F : NF} {eb : Expr} {pm ctv : Value} {x : Str} {N fr : List Str} {ws : List (Option V)}
/-- from the frame's heap -/
theorem lam_run (S : NScope N [x] fr F.scope) (hb : ∀ (pm ctv : Value) (u : Value), bindArgs (PySem.W.kla_fn "<lambda>" F.qual F.params eb F.scope F.cl pm (.ref F.c) ctv) ⟨[u], []⟩ = pure [(x, u)])
    {A : Around} {outer : List Env} {s : Shared} {H0 : Hp} {a : Addr} {Q : VK} (hr : Room (k + 1) A) (e0 : Env0 P w K mg base A outer s H0) (ho : s.heap.get? f = some (lamO F eb pm ctv)) (hc : s.heap.CodeRec (.ref F.c) F.qual) (C : CellsAt F.cl fr ws s.heap H0)
    {t : TE} (ht : Room k (A.deeper (envF F f s.heap.objs.size)) → PE (ncx CX0 P w K mg base N F f A outer s H0 E0) eb t) (hq : t (startF N [.ref a] ws) H0 Q) : codeAny (model P w) A (.call (.ref f) ⟨[.ref a], []⟩) (CR CX0 outer P w H0 s Q E0) s := by
  have lim : s.heap.NoLimit := e0.mod.nolimit.keeps fun b o e => (e0.bs b o e).1
  refine PySem.W.kla_callFunE hr.depth ho rfl S.co S.gen rfl hc ?_
  rw [hb pm ctv (.ref a)]
  refine wpAny_pure (wpAny_newFunctionEnv S.nocell (fun y hy => ?_) (fun h1 hns hsb => ⟨lim.fresh _ hsb, ?_⟩) S.kind)
  · have ey : y = (x, Value.ref a) := by simpa using hy
    rw [ey]
    exact S.par x (by simp)
  · show codeAny _ _ (.expr eb (envF F f s.heap.objs.size)) _ _
    have kp : ∀ b o, s.heap.get? b = some o → h1.get? b = some o := fun b o e => hsb.extBut b o (Nat.ne_of_lt (Heap.lt_size e)) (Heap.get?_push_of_some _ e)
    have J := inv_startN (CX := CX0) (E := E0) (f := f) (h₁ := h1) (tk := s.toks + ([(x, Value.ref a)] : List (Str × Value)).length) (us := [.ref a]) (vs := [.ref a]) S hr.hd e0 rfl (.cons rfl .nil) C hns kp
    refine PySem.W.kla_codeExpr (wpAny_mono ((ht (hr.deeper _)).run [] _ _ H0 Q J hq) (fun v s' z => ?_) fun e s' z => z)
    obtain ⟨w', H', J', rv, q⟩ := z
    exact ⟨w', H', J'.os, J'.bare, J'.base, J'.hok, rv, q⟩
/-- nothing is captured -/
theorem wish0 (S : NScope N [x] [] F.scope) (hcl : F.cl = []) (hb : ∀ (pm ctv : Value) (u : Value), bindArgs (PySem.W.kla_fn "<lambda>" F.qual F.params eb F.scope F.cl pm (.ref F.c) ctv) ⟨[u], []⟩ = pure [(x, u)])
    (hf : H f = some (FZ (lamO F eb pm ctv))) (hc : H F.c = some (CodeO F.c F.qual))
    (hbody : ∀ (A : Around) (outer : List Env) (s : Shared) (H0 : Hp), Room k (A.deeper (envF F f s.heap.objs.size)) → ∃ t, PE (ncx CX0 P w K mg base N F f A outer s H0 E0) eb t ∧ ∀ (a : Addr) (g : Frac) (Q : VK), SqT K H0 a (frV g) → Good g → wt g < 1000000 → RetV H0 (.bl (pr g)) Q → t (startF N [.ref a] []) H0 Q) :
    Wish P w K mg base (k + 1) H f pr := by
  refine ⟨fun h H' sm hok => ?_, fun A outer s H' a g Q sm hr e0 hS hg hw k1 => ?_⟩
  · exact ⟨_, _, _, _, fz_at hok (sm _ _ hf)⟩
  · obtain ⟨t, ht, hq⟩ := hbody A outer s H' (hr.deeper _)
    refine lam_run (ws := []) S hb hr e0 (fz_at e0.hok (sm _ _ hf)) (codeO_at e0.hok (sm _ _ hc)) ⟨rfl, fun y c e => ?_, fun y z c e => ?_, fun i y e => by simp at e⟩ (fun _ => ht) (hq a g Q hS hg hw k1)
    · rw [hcl] at e
      cases e
    · rw [hcl] at e
      cases e
/-- one name is captured; its cell, known to the sign, holds v -/
theorem wish1 {y : Str} {cc : Addr} {co : Obj} {v : V} (S : NScope N [x] [y] F.scope) (hcl : F.cl = [(y, cc)]) (hb : ∀ (pm ctv : Value) (u : Value), bindArgs (PySem.W.kla_fn "<lambda>" F.qual F.params eb F.scope F.cl pm (.ref F.c) ctv) ⟨[u], []⟩ = pure [(x, u)])
    (hf : H f = some (FZ (lamO F eb pm ctv))) (hc : H F.c = some (CodeO F.c F.qual)) (hcc : H cc = some (FZ co)) (hco : ∃ u, L2.RelV v u ∧ co.data = .cell (some u))
    (hbody : ∀ (A : Around) (outer : List Env) (s : Shared) (H0 : Hp), Room k (A.deeper (envF F f s.heap.objs.size)) → Same (hidC cc H) H0 → ∃ t, PE (ncx CX0 P w K mg base N F f A outer s H0 E0) eb t ∧ ∀ (a : Addr) (g : Frac) (Q : VK), SqT K H0 a (frV g) → Good g → wt g < 1000000 → RetV H0 (.bl (pr g)) Q → t (startF N [.ref a] [some v]) H0 Q) :
    Wish P w K mg base (k + 1) H f pr := by
  refine ⟨fun h H' sm hok => ?_, fun A outer s H' a g Q sm hr e0 hS hg hw k1 => ?_⟩
  · exact ⟨_, _, _, _, fz_at hok (sm _ _ hf)⟩
  · have n := sm _ _ hcc
    have e := fz_at e0.hok n
    have sm2 : Same (hidC cc H) (hidC cc H') := fun b o q => by
      by_cases z : b = cc
      · rw [z, hidC_same] at q
        cases q
      · rw [hidC_ne z] at q ⊢
        exact sm b o q
    have hS2 : SqT K (hidC cc H') a (frV g) := by
      rcases hS with (h | ⟨o, h⟩) | h
      · exact .inl (.inl (by rw [hidC_ne (ne_of h n (by intro z; cases z))]; exact h))
      · exact .inl (.inr ⟨o, by rw [hidC_ne (ne_of h n (by intro z; cases z))]; exact h⟩)
      · exact .inr h
    obtain ⟨t, ht, hq⟩ := hbody A outer s (hidC cc H') (hr.deeper _) sm2
    have k2 : RetV (hidC cc H') (.bl (pr g)) (fun v H3 => Q v (upd H3 cc (FZ co))) := fun H3 s3 => by
      refine k1 _ fun b o q => ?_
      by_cases z : b = cc
      · rw [z] at q ⊢
        rw [n] at q
        cases q
        exact upd_same
      · rw [upd_ne z]
        exact s3 b o (by rw [hidC_ne z]; exact q)
    have fin := lam_run (ws := [some v]) (Q := fun v H3 => Q v (upd H3 cc (FZ co))) S hb hr (env_down e0 n) (fz_at e0.hok (sm _ _ hf)) (codeO_at e0.hok (sm _ _ hc)) ?_ (fun _ => ht) (hq a g _ hS2 hg hw k2)
    · refine codeAny_mono fin fun r s' z => ?_
      cases r with
      | error e => exact z
      | ok fl =>
        cases fl with
        | ret u => exact ce_up e0 n (fun _ _ z => z) z
        | next => exact z
        | brk => exact z
        | cont => exact z
    · obtain ⟨u, ru, du⟩ := hco
      refine ⟨rfl, fun z c q => ?_, fun z1 z2 c q1 q2 => ?_, fun i z q => ?_⟩
      · rw [hcl, List.lookup_cons] at q
        split at q
        · have eq : cc = c := Option.some.inj q
          rw [← eq]
          exact ⟨hidC_same, some u, co, e, du⟩
        · cases q
      · rw [hcl, List.lookup_cons] at q1 q2
        split at q1
        · rename_i b1
          split at q2
          · rename_i b2
            rw [eq_of_beq b1, eq_of_beq b2]
          · cases q2
        · cases q1
      · cases i with
        | zero =>
          have ez : y = z := by simpa using q
          subst ez
          refine ⟨cc, by rw [hcl, List.lookup_cons, beq_self_eq_true], fun v' ev => ?_⟩
          have ev' : v = v' := by simpa using ev
          subst ev'
          exact ⟨u, ru, co, e, du⟩
        | succ i => simp at q
end
end Fc
end
section
set_option Elab.async false
set_option linter.all false
set_option maxRecDepth 100000
set_option maxHeartbeats 2000000
/-! f(e, lambda x: ..) -/
namespace Fc
open PySem PySem.Spec PyProof.Rows L2 LamX NdefX
open Kqz1 (Frac)
section
variable {X : Cx} {pins : List (Addr × Obj)} {σ : L2.St} {H : Hp} {s : Shared}
theorem upd_no {H : Hp} {a b : Addr} {o : HO} (e : upd H a o b = none) : H b = none := by
  by_cases h : b = a
  · rw [h, upd_same] at e
    cases e
  · rw [upd_ne h] at e
    exact e
/-- the lambda's object is new and known to the sign -/
theorem lam_new {T : List (Addr × Str)} {c Pt : Addr} {params : Arguments} {body : Expr} {scope : Scope} {pos : Pos} {E : Value → Shared → Prop} {Q : Value → Shared → Prop} (I : Inv X pins σ H s) (TB : TabB X.base X.mg c Pt) (hcode : X.env.code = .ref c)
    (hm : (Pt, X.env.qual ++ "<lambda>") ∈ T) (hu : ∀ p ∈ T, p.1 = Pt → p.2 = X.env.qual ++ "<lambda>") (hT : Tabs T H) (hdef : defaultsOf params X.env = ([], [])) (hfree : ∀ y ∈ scope.names, y.2 = .free → ∃ c, X.env.cells.lookup y.1 = some c)
    (k : ∀ (f c' : Addr) (pm ctv : Value) (H1 : Hp) (s' : Shared), Inv X pins σ H1 s' → ExtN H H1 → Tabs T H1 → H f = none → H1 f = some (FZ (PySem.W.kla_obj "<lambda>" (X.env.qual ++ "<lambda>") params body scope (cloFrom X.env.cells scope.names []) pm c' ctv)) →
      H1 c' = some (CodeO c' (X.env.qual ++ "<lambda>")) → Q (.ref f) s') :
    wpAny (model X.prog X.w) X.A (eval (.Lambda params body scope pos) X.env) Q E s := by
  obtain ⟨ps, hP, tr, am⟩ := hT _ hm
  refine PySem.W.kla_eval hdef ?_
  have bP : s.heap.BuiltinsAt X.mg Pt := TB.bm.keeps I.bk
  have oP : s.heap.get? Pt = some { cls := .none, data := .fields ps } := I.hok Pt _ hP
  have gl := I.mod.glob.keeps I.bk
  have cd := TB.code.keeps I.bk
  cases hit : codeAmong pos ps.toList with
  | some cv =>
    obtain ⟨c', ec, co⟩ := am pos cv hit
    subst ec
    refine PySem.W.kla_makeFunctionHit (mg := X.mg) (c := c) (P := Pt) (ps := ps) (closure_ok hfree) I.ok.glob gl hcode cd oP tr hit bP fun ctv h' tk hx hsz => ?_
    have J0 : Inv X pins σ H { s with heap := h', toks := tk } := I.kept hx
    have fresh : H h'.objs.size = none := I.hok.fresh hsz
    refine k h'.objs.size c' ((X.mg "__name__").getD .none) ctv (upd H h'.objs.size (FZ _)) _ (J0.laid (t' := tk) (fun b u e => Heap.get?_push_of_some _ e) (Nat.le_refl _) (fz_ok (Heap.get?_push_size _ rfl))) (fun b o e _ => ?_) (hT.ext fun b o e => ?_) fresh upd_same ?_
    · exact (upd_ne (ne_of_none e fresh)).trans e
    · exact (upd_ne (ne_of_none e fresh)).trans e
    · exact (upd_ne (ne_of_none co fresh)).trans co
  | none =>
    refine PySem.W.kla_makeFunction (mg := X.mg) (c := c) (P := Pt) (ps := ps) (closure_ok hfree) I.ok.glob gl hcode cd oP tr hit TB.gP bP fun c' ctv h' tk hx hge hlt hrec htb => ?_
    obtain ⟨c2, oc, vs, t, e2, hoc, hd, hv⟩ := hrec
    cases e2
    have nC : H c' = none := I.hok.fresh hge
    have J0 := inv_table (t' := tk) (more := #[rawInt pos.line, rawInt pos.col, .ref c']) (h' := h') I hP (fun b o hb e => hx b o hb e) htb hge ⟨oc, vs, t, hoc, hd, hv⟩
    have ext1 : ExtN H (upd (upd H Pt (.tbl (ps ++ #[rawInt pos.line, rawInt pos.col, .ref c']))) c' (CodeO c' (X.env.qual ++ "<lambda>"))) := fun b o e n => by
      have n1 : b ≠ c' := ne_of_none e nC
      have n2 : b ≠ Pt := fun z => n ps (Option.some.inj (e.symm.trans (z ▸ hP)))
      rw [upd_ne n1, upd_ne n2]
      exact e
    have eL : (ps ++ #[rawInt pos.line, rawInt pos.col, .ref c']).toList = ps.toList ++ [rawInt pos.line, rawInt pos.col, .ref c'] := by simp
    have tabs1 : Tabs T (upd (upd H Pt (.tbl (ps ++ #[rawInt pos.line, rawInt pos.col, .ref c']))) c' (CodeO c' (X.env.qual ++ "<lambda>"))) := fun p hp => by
      by_cases hb : p.1 = Pt
      · rw [hu p hp hb, hb]
        refine ⟨_, (upd_ne (ne_of_none hP nC)).trans upd_same, ?_, fun p' cv hcv => ?_⟩
        · rw [eL]
          exact PySem.TriplesOk_snoc _ _ _ _ tr
        · rw [eL] at hcv
          rcases among_app _ tr hcv with z | z
          · obtain ⟨c0, e1, e2⟩ := am p' cv z
            exact ⟨c0, e1, ext1 _ _ e2 codeO_ne⟩
          · exact ⟨c', z, upd_same⟩
      · obtain ⟨ps', a1, a2, a3⟩ := hT p hp
        refine ⟨ps', ?_, a2, fun p' cv hcv => ?_⟩
        · rw [upd_ne (ne_of_none a1 nC), upd_ne hb]
          exact a1
        · obtain ⟨c0, e1, e2⟩ := a3 p' cv hcv
          exact ⟨c0, e1, ext1 _ _ e2 codeO_ne⟩
    have fresh := J0.hok.fresh (Nat.le_refl h'.objs.size)
    refine k h'.objs.size c' ((X.mg "__name__").getD .none) ctv (upd _ h'.objs.size (FZ _)) _ (J0.laid (t' := tk) (fun b u e => Heap.get?_push_of_some _ e) (Nat.le_refl _) (fz_ok (Heap.get?_push_size _ rfl))) (fun b o e n => ?_) (tabs1.ext fun b o e => ?_) (upd_no (upd_no fresh)) upd_same ?_
    · have e1 := ext1 b o e n
      exact (upd_ne (ne_of_none e1 fresh)).trans e1
    · exact (upd_ne (ne_of_none e fresh)).trans e
    · exact (upd_ne (Nat.ne_of_lt hlt)).trans upd_same
end
/-- the lambda's words, made in X -/
abbrev lamF (X : Cx) (params : Arguments) (scope : Scope) (c' : Addr) : NF := ⟨"<lambda>", X.env.qual ++ "<lambda>", params, [], scope, cloFrom X.env.cells scope.names [], c'⟩
section
variable {X : Cx} {T : List (Addr × Str)} {c Pt : Addr} {params : Arguments} {body : Expr} {scope : Scope} {lpos p pos : Pos} {e : Expr} {te : TE} {x : Str} {k : Nat} {ps : List Str} {sp : Sp}
/-- f(e, lambda ..), nothing captured -/
def tKeep0 (X : Cx) (T : List (Addr × Str)) (params : Arguments) (body : Expr) (scope : Scope) (sp : Sp) (te : TE) : TE := fun σ H Q => te σ H fun v H1 => Tabs T H1 ∧ ∀ (f c' : Addr) (pm ctv : Value) (H2 : Hp), ExtN H1 H2 → Tabs T H2 → H1 f = none →
  H2 f = some (FZ (lamO (lamF X params scope c') body pm ctv)) → H2 c' = some (CodeO c' (X.env.qual ++ "<lambda>")) → sp [v, .ref f] H2 Q E0
theorem pe_keep0 (cl : Cal X.prog X.w X.K X.mg X.base k x ps sp) (hr : Room k X.A) (hg : Gl X x) (TB : TabB X.base X.mg c Pt) (hcode : X.env.code = .ref c) (hm : (Pt, X.env.qual ++ "<lambda>") ∈ T) (hu : ∀ p ∈ T, p.1 = Pt → p.2 = X.env.qual ++ "<lambda>")
    (hdef : defaultsOf params X.env = ([], [])) (hfree : ∀ y ∈ scope.names, y.2 ≠ .free) (he : PE X e te) (hdb : (x == ("__debug__" : Str)) = false := by decide)
    (hst : starEach [e, .Lambda params body scope lpos] X.env = (false, eval e X.env) :: starEach [.Lambda params body scope lpos] X.env := by rfl) (hst2 : starEach [.Lambda params body scope lpos] X.env = [(false, eval (.Lambda params body scope lpos) X.env)] := by rfl) :
    PE X (.Call (.Name x p) [e, .Lambda params body scope lpos] [] pos) (tKeep0 X T params body scope sp te) := by
  obtain ⟨f, fd, F, hmg, hk, hb⟩ := cl.ex
  refine ⟨fun pins s σ H Q I h => wpAny_Call_Name_kw (ld_glob I hg hmg (PySem.W.callWith_K (h₀ := X.base) I.ok.mod.kin hk ?_ hst (by rw [hst2] <;> rfl)) hdb)⟩
  rw [hst, hst2]
  show wpAny _ _ (spliced ((false, eval e X.env) :: (false, eval (.Lambda params body scope lpos) X.env) :: [])) _ _ s
  refine Calls.spliced_cons (thn (he.run pins s σ H _ I h) ?_)
  rintro u s1 ⟨v, H1, I1, rv, hT, q⟩
  refine Calls.spliced_cons (lam_new I1 TB hcode hm hu hT hdef (fun y hy z => absurd z (hfree y hy)) fun f c' pm ctv H2 s2 I2 ex T2 f0 f1 c1 => ?_)
  refine Calls.spliced_nil ⟨I2.kIn, ?_⟩
  have q2 := q f c' pm ctv H2 ex T2 f0 f1 c1
  exact run_fn (us := [u, .ref f]) (vs := [v, .ref f]) (dvs := []) F hr hb .nil pass0 I2 (.cons rv (.cons rfl .nil)) (by rw [List.append_nil]; exact q2)
/-- .., the name y in the i-th slot captured: its cell is known to the sign until the call is over -/
def tKeep1 (X : Cx) (T : List (Addr × Str)) (params : Arguments) (body : Expr) (scope : Scope) (sp : Sp) (y : Str) (i : Nat) (te : TE) : TE := fun σ H Q => te σ H fun v H1 => Tabs T H1 ∧ ∃ z : V, σ[i]? = some (some z) ∧ ∀ (f c' cc : Addr) (co : Obj) (pm ctv : Value) (H2 : Hp), ExtN H1 H2 → Tabs T H2 → H1 f = none →
  H2 f = some (FZ (lamO (lamF X params scope c') body pm ctv)) → H2 c' = some (CodeO c' (X.env.qual ++ "<lambda>")) → X.env.cells.lookup y = some cc → H2 cc = none → (∃ u, L2.RelV z u ∧ co.data = .cell (some u)) → sp [v, .ref f] (upd H2 cc (FZ co)) (fun r H3 => Q r (hidC cc H3)) E0
theorem pe_keep1 {y : Str} {i : Nat} (cl : Cal X.prog X.w X.K X.mg X.base k x ps sp) (hr : Room k X.A) (hg : Gl X x) (TB : TabB X.base X.mg c Pt) (hcode : X.env.code = .ref c) (hm : (Pt, X.env.qual ++ "<lambda>") ∈ T) (hu : ∀ p ∈ T, p.1 = Pt → p.2 = X.env.qual ++ "<lambda>")
    (hdef : defaultsOf params X.env = ([], [])) (hfn : ∀ z, X.fn z = true) (hN : X.N[i]? = some y) (hy : X.env.scope.names.lookup y = some .cell) (hfree : ∀ z ∈ scope.names, z.2 = .free → z.1 = y) (he : PE X e te) (hdb : (x == ("__debug__" : Str)) = false := by decide)
    (hst : starEach [e, .Lambda params body scope lpos] X.env = (false, eval e X.env) :: starEach [.Lambda params body scope lpos] X.env := by rfl) (hst2 : starEach [.Lambda params body scope lpos] X.env = [(false, eval (.Lambda params body scope lpos) X.env)] := by rfl) :
    PE X (.Call (.Name x p) [e, .Lambda params body scope lpos] [] pos) (tKeep1 X T params body scope sp y i te) := by
  obtain ⟨f, fd, F, hmg, hk, hb⟩ := cl.ex
  refine ⟨fun pins s σ H Q I h => wpAny_Call_Name_kw (ld_glob I hg hmg (PySem.W.callWith_K (h₀ := X.base) I.ok.mod.kin hk ?_ hst (by rw [hst2] <;> rfl)) hdb)⟩
  rw [hst, hst2]
  show wpAny _ _ (spliced ((false, eval e X.env) :: (false, eval (.Lambda params body scope lpos) X.env) :: [])) _ _ s
  refine Calls.spliced_cons (thn (he.run pins s σ H _ I h) ?_)
  rintro u s1 ⟨v, H1, I1, rv, hT, z, hz, q⟩
  obtain ⟨cc, hcc⟩ := I1.ok.has y (.inl hy)
  refine Calls.spliced_cons (lam_new I1 TB hcode hm hu hT hdef (fun w hw e => ⟨cc, by rw [hfree w hw e]; exact hcc⟩) fun f c' pm ctv H2 s2 I2 ex T2 f0 f1 c1 => ?_)
  refine Calls.spliced_nil ⟨I2.kIn, ?_⟩
  obtain ⟨m, hn, hl⟩ := I2.loc
  obtain ⟨u2, r2, l2⟩ := hl i y z hN hz (.inr (.inl hy))
  have hcell : s2.heap.IsCell cc (some u2) := by
    rcases l2 with ⟨k1, _⟩ | ⟨_, c3, e3, z3⟩
    · have k1 : X.env.scope.names.lookup y = some .local := k1
      rw [hy] at k1
      cases k1
    · rw [hcc] at e3
      cases e3
      exact z3
  obtain ⟨co, gco, dco⟩ := hcell
  have nc := I2.freeC y cc hcc
  have above := I2.ok.cab y cc (hfn y) hcc
  have nbase : X.base.get? cc = none := Heap.get?_none_of_le (Nat.le_trans I2.ok.bsz above)
  have nfr : cc ∉ frs X.stack := fun w => by
    rcases List.mem_cons.mp (I2.stkSub cc w) with w | w
    · exact I2.cne y cc hcc w
    · obtain ⟨_, o, ho, _⟩ := I2.ok.funs.mem w
      exact absurd (Nat.lt_of_lt_of_le (Heap.lt_size ho) above) (Nat.lt_irrefl _)
  have q2 := q f c' cc co pm ctv H2 ex T2 f0 f1 c1 hcc nc ⟨u2, r2, dco⟩
  have e2 := env_up I2.env0 nc gco nbase nfr
  have r : Vals [v, .ref f] [u, .ref f] := .cons rv (.cons rfl .nil)
  have hl : ([u, .ref f] ++ ([] : List Value)).length = ps.length := by
    rw [List.append_nil, ← r.length]
    exact F.len _ _ _ _ q2
  have hbind := hb s2 [u, .ref f] I2.kIn hl
  rw [List.append_nil] at hbind
  refine wpAny_call (codeAny_mono (F.run X.A X.stack s2 _ ⟨[u, .ref f], []⟩ [u, .ref f] [v, .ref f] _ E0 hr e2 hbind r q2) fun r s' hq => ?_)
  cases r with
  | error e => exact hq.elim
  | ok fl =>
    cases fl with
    | ret u => exact I2.after (ce_down nc gco nfr (fun _ _ w => w) hq)
    | next => exact hq.elim
    | brk => exact hq.elim
    | cont => exact hq.elim
end
end Fc
end
section
set_option Elab.async false
set_option linter.all false
set_option maxRecDepth 100000
set_option maxHeartbeats 2000000
/-! a written dict of defs by whole numbers, asked and called -/
namespace Fc
open PySem PySem.Spec PyProof.Rows L2
/-- the entries are whole numbers with their hashes, and at each of them stands that def -/
def tabChk (es : Array DictEntry) (fs : List Addr) : Bool :=
  es.toList.all (fun e => match e.key with | .int i _ => e.hash == hashInt i | _ => false) &&
  (List.range fs.length).all fun j => match findBy Value.isInt es (j : Int) with | some (.ref g) => fs[j]? == some g | _ => false
/-- the dict at d, written; the defs -/
def KTab (K : PySem.W.Frag) (d : Addr) (fs : List Addr) : Prop := ∃ es n, K.lookup d = some ⟨.type "dict", none, .dict es n, #[]⟩ ∧ tabChk es fs = true
section
variable {X : Cx} {d : Addr} {fs : List Addr}
theorem ktab_map {h : Heap} {es : Array DictEntry} {n : Nat} (KX : X.K.In h) (hl : X.K.lookup d = some ⟨.type "dict", none, .dict es n, #[]⟩) (hc : tabChk es fs = true) : h.MapOf (intKind X.prog X.w) d (fun k => findBy Value.isInt es k) := by
  refine ⟨_, es, n, KX _ _ hl, ⟨rfl, rfl, rfl⟩, rfl, fun e he => ?_, fun _ => rfl⟩
  unfold tabChk at hc
  rw [Bool.and_eq_true, List.all_eq_true] at hc
  have q := hc.1 e (Array.mem_toList_iff.mpr he)
  split at q
  · rename_i i t ek
    refine ⟨i, ?_, eq_of_beq q⟩
    rw [ek]
    exact intKind_is X.prog X.w i t
  · cases q
theorem ktab_at {es : Array DictEntry} (hc : tabChk es fs = true) {j : Nat} {f : Addr} (hj : fs[j]? = some f) : findBy Value.isInt es (j : Int) = some (.ref f) := by
  unfold tabChk at hc
  rw [Bool.and_eq_true, List.all_eq_true, List.all_eq_true] at hc
  have hl : j < fs.length := (List.getElem?_eq_some_iff.mp hj).1
  have q := hc.2 j (List.mem_range.mpr hl)
  split at q
  · rename_i g eg
    have e := eq_of_beq q
    rw [hj] at e
    rw [eg, Option.some.inj e]
  · cases q
/-- d[number] -/
theorem ix_ktab : IxR X (fun x y H Q => ∃ d fs j f, x = .ref d ∧ y = .int ((j : Nat) : Int) ∧ KTab X.K d fs ∧ fs[j]? = some f ∧ Q (.ref f) H) := by
  intro value slice pins s σ H x y v u Q I rx ry h hs
  obtain ⟨d, fs, j, f, rfl, rfl, ⟨es, n, hl, hc⟩, hj, q⟩ := h
  obtain rfl : v = Value.ref d := rx
  obtain ⟨t, rfl⟩ := ry
  have hm := ktab_map (X := X) I.kIn hl hc
  exact tail_any hm.typeIs slot_dict_getitem.lookup (wpAny_getItem_of (intKind_is X.prog X.w (j : Int) t) hm (ktab_at hc hj) ⟨.ref f, H, I.tok _, rfl, q⟩) hs
end
/-- a def by its address: what it promises for so many arguments -/
structure Cad (P : Program) (w : World) (K : PySem.W.Frag) (mg : Str → Option Value) (base : Heap) (k : Nat) (f : Addr) (sp : Sp) : Prop where
  ex : ∃ (fd : FuncData) (ps : List Str), FnOk P w K mg base CX0 k f fd ps sp ∧ PySem.W.keepIn K (.ref f) = true ∧ Binds K fd ps []
section
variable {X : Cx} {k : Nat} {fe e : Expr} {es : List Expr} {t : TA} {tf : TE} {pos : Pos}
/-- fe(e, ..): what fe comes to is a def that is kept -/
def tCallX (P : Program) (w : World) (K : PySem.W.Frag) (mg : Str → Option Value) (base : Heap) (k : Nat) (tf : TE) (t : TA) : TE := fun σ H Q => tf σ H fun v H1 => ∃ f sp, v = .ref f ∧ Cad P w K mg base k f sp ∧ t σ H1 fun vs H2 => sp vs H2 Q E0
theorem pe_callX (hr : Room k X.A) (hf : PE X fe tf) (ha : PA X (e :: es) t) (hev : eval (.Call fe (e :: es) [] pos) X.env = (do callWith pos (← eval fe X.env) [] (backTo pos (starEach (e :: es) X.env)) (backToKw pos (keywordEach [] X.env))) := by rfl)
    (he : starEach (e :: es) X.env = (false, eval e X.env) :: starEach es X.env := by rfl) (hpl : (backTo pos (starEach es X.env)).any (·.1) = false := by rfl) : PE X (.Call fe (e :: es) [] pos) (tCallX X.prog X.w X.K X.mg X.base k tf t) := by
  refine ⟨fun pins s σ H Q I h => Call_ (thn (hf.run pins s σ H _ I h) ?_) hev⟩
  rintro u s1 ⟨v, H1, I1, r1, f, sp, rfl, c, q⟩
  obtain rfl : u = Value.ref f := r1
  obtain ⟨fd, ps, F, hk, hb⟩ := c.ex
  refine PySem.W.callWith_K (h₀ := X.base) I1.ok.mod.kin hk (thn (ha.run pos pins s1 σ H1 _ I1 q) ?_) he hpl
  rintro us s2 ⟨vs, H2, I2, r2, q2⟩
  exact ⟨I2.kIn, run_fn (dvs := []) F hr hb .nil pass0 I2 r2 (by rw [List.append_nil]; exact q2)⟩
end
end Fc
end
section
set_option Elab.async false
set_option linter.all false
set_option maxRecDepth 100000
set_option maxHeartbeats 2000000
/-! the end of a specification's row whose defs make lambdas: the code objects' tables are tracked from the call on -/
namespace Fc
open PySem PySem.Spec PyProof.Rows L2 LamX
open PySem.W (WData Codec OpenSpec Well WellAll ReadsW ReadsAllW)
abbrev tab0 : Obj := { cls := .none, data := .fields #[] }
/-- the arguments and the tables -/
def argT (K : PySem.W.Frag) (h : Heap) (A : List Addr) (ts : List Addr) : Hp := fun b => if b ∈ ts then some (.tbl #[]) else argH K h A b
section
variable {P : Program} {w : World} {K : PySem.W.Frag} {h : Heap} {A ts : List Addr}
theorem argT_in {b : Addr} (hb : b ∈ ts) : argT K h A ts b = some (.tbl #[]) := if_pos hb
theorem argT_out {b : Addr} (hb : b ∉ ts) : argT K h A ts b = argH K h A b := if_neg hb
theorem not_ts (hT : ∀ b ∈ ts, h.get? b = some tab0) {b : Addr} {o : Obj} (e : h.get? b = some o) (n : o ≠ tab0) : b ∉ ts := fun m => by
  have := hT b m
  rw [e] at this
  exact n (Option.some.inj this)
theorem arg_obj (ar : ∀ a ∈ A, ArgOb h A a) {b : Addr} {u : HO} (q : argH K h A b = some u) : ∃ o : Obj, h.get? b = some o ∧ o ≠ tab0 ∧ ∃ vs n, o.data = .seq vs n := by
  obtain ⟨_, vs, _, _, ⟨e, _⟩ | ⟨e, _⟩⟩ := argH_is ar q
  · exact ⟨_, e, (by intro z; cases z), _, _, rfl⟩
  · exact ⟨_, e, (by intro z; cases z), _, _, rfl⟩
theorem argT_keeps (hT : ∀ b ∈ ts, h.get? b = some tab0) (ar : ∀ a ∈ A, ArgOb h A a) {b : Addr} {u : HO} (q : argH K h A b = some u) : argT K h A ts b = some u := by
  obtain ⟨o, e, n, _⟩ := arg_obj ar q
  rw [argT_out (not_ts hT e n)]
  exact q
theorem argT_ok (hT : ∀ b ∈ ts, h.get? b = some tab0) (ar : ∀ a ∈ A, ArgOb h A a) : HOk P w (argT K h A ts) h := fun b u q => by
  by_cases hb : b ∈ ts
  · rw [argT_in hb] at q
    cases q
    exact hT b hb
  · rw [argT_out hb] at q
    refine (argH_ok (P := P) (w := w) ar b u q).stay (fun _ _ _ z => z) (fun d z => ?_) fun d xs z => ?_
    · exact argT_keeps hT ar z
    · exact argT_keeps hT ar z
theorem argT_only (ar : ∀ a ∈ A, ArgOb h A a) : ∀ b, argT K h A ts b = none ∨ (∃ o u, argT K h A ts b = some (.frz o u)) ∨ b ∈ ts := fun b => by
  by_cases hb : b ∈ ts
  · exact .inr (.inr hb)
  · rcases argH_only (K := K) ar b with z | ⟨o, u, z⟩
    · exact .inl ((argT_out hb).trans z)
    · exact .inr (.inl ⟨o, u, (argT_out hb).trans z⟩)
mutual
theorem dw_T (e : ∀ b u, argH K h A b = some u → argT K h A ts b = some u) : ∀ (v : V) (d : WData), Dw K (argH K h A) v d → Dw K (argT K h A ts) v d
  | _, .none, x => by
    cases x
    exact .non
  | _, .bool b, x => by
    cases x
    exact .bl b
  | _, .int i, x => by
    cases x
    exact .int i
  | _, .str s, x => by
    cases x
    exact .str s
  | _, .bytes b, x => by
    cases x
    exact .byt _
  | _, .list ds, x => by
    cases x with
    | lst hs ha => exact .lst (Same.seq e hs) (dw_Ts e _ ds ha)
  | _, .tuple ds, x => by
    cases x with
    | tup hs ha => exact .tup (Same.sqT e hs) (dw_Ts e _ ds ha)
  | _, .float _, x => by cases x
  | _, .dict _, x => by cases x
  | _, .bytearray _, x => by cases x
  | _, .set _, x => by cases x
  | _, .frozenset _, x => by cases x
  | _, .obj _ _, x => by cases x
theorem dw_Ts (e : ∀ b u, argH K h A b = some u → argT K h A ts b = some u) : ∀ (vs : List V) (ds : List WData), DwAll K (argH K h A) vs ds → DwAll K (argT K h A ts) vs ds
  | _, [], x => by
    cases x
    exact .nil
  | _, d :: ds, x => by
    cases x with
    | cons h1 h2 => exact .cons (dw_T e _ d h1) (dw_Ts e _ ds h2)
end
end
/-- the call, the tables told: cs, the makers' code objects and their tables -/
theorem specT_call {P : Program} {w : World} {K : PySem.W.Frag} {mg mb : Str → Option Value} {k : Nat} {fa : Addr} {cs : List (Addr × Addr)} {fd : FuncData} {ps : List Str} {sp : Sp} {s₁ : Shared} {vals : List Value} {ds : List WData} {R : PySem.W.WRecords} {cl : Str → Option Addr} {d0 : WData}
    (KX : K.In s₁.heap) (hns : s₁.heap.Ns mainGlobals mg) (hb : s₁.heap.Ns builtinsNs mb) (hbb : ∀ x : Str, x ≠ "__name__" → mb x = bootBuiltins x) (hlim : s₁.heap.NoLimit) (hg : s₁.gens = #[])
    (hT : ∀ p ∈ cs, s₁.heap.get? p.2 = some tab0) (nT : ∀ p ∈ cs, K.lookup p.2 = none) (hC : ∀ p ∈ cs, PySem.W.CodeHd s₁.heap p.1 p.2)
    (hbm : ∃ (bm : Addr) (ob : Obj), mg "__builtins__" = some (.ref bm) ∧ bm ≠ builtinsNs ∧ s₁.heap.get? bm = some ob ∧ ob.cls = .type "module" ∧ ob.dict = some builtinsNs ∧ ob.data = .plain)
    (hwl : WellAll w.params s₁.heap vals ds) (hpl : plWs ds = true) (hwt : ∀ d ∈ ds, d.weight ≤ 1048576) (hr : Room k callerA)
    (F : ∀ base : Heap, K.In base → base.Ns mainGlobals mg → (∀ p ∈ cs, TabB base mg p.1 p.2) → FnOk P w K mg base CX0 k fa fd ps sp) (hbind : ∀ (s : Shared) (us : List Value), us.length = ps.length → BindsTo s fd ⟨us, []⟩ (ps.zip us)) (hlen : ds.length = ps.length)
    (hsp : ∀ (H : Hp) (xs : List V), (∀ p ∈ cs, H p.2 = some (.tbl #[])) → DwAll K H xs ds → sp xs H (fun v H' => Dw K H' v d0) E0) :
    codeAny (model P w) callerA (.call (.ref fa) ⟨vals, []⟩) (fun r s' => ∃ u as, r = .ok (.ret u) ∧ ReadsW R cl s'.heap u d0 as ∧ OldK s₁.heap s'.heap ∧ s'.os = s₁.os ∧ AllBare s'.gens) s₁ := by
  obtain ⟨A, ho, ar⟩ := area_all ds vals hwl hpl hwt
  let ts := cs.map (·.2)
  have hTs : ∀ b ∈ ts, s₁.heap.get? b = some tab0 := fun b m => by
    obtain ⟨p, hp, e⟩ := List.mem_map.mp m
    rw [← e]
    exact hT p hp
  have nK1 : ∀ b, argT K s₁.heap A ts b ≠ none → K.lookup b = none := fun b q => by
    by_cases m : b ∈ ts
    · obtain ⟨p, hp, e⟩ := List.mem_map.mp m
      rw [← e]
      exact nT p hp
    · rw [argT_out m] at q
      cases z : argH K s₁.heap A b with
      | none => exact absurd z q
      | some u => exact (argH_is ar z).1
  have only := argT_only (K := K) (ts := ts) ar
  have hok : HOk P w (argT K s₁.heap A ts) s₁.heap := argT_ok hTs ar
  have hS := dw_Ts (ts := ts) (fun b u q => argT_keeps hTs ar q) _ ds (dw_all KX ar ds vals hwl hpl ho)
  have hV := vals_toV ho
  have tT : ∀ p ∈ cs, argT K s₁.heap A ts p.2 = some (.tbl #[]) := fun p hp => argT_in (List.mem_map.mpr ⟨p, hp, rfl⟩)
  -- whatever is neither a list or tuple nor an empty table is not tracked
  have free : ∀ {b : Addr} {o : Obj}, s₁.heap.get? b = some o → (∀ vs n, o.data ≠ .seq vs n) → o ≠ tab0 → argT K s₁.heap A ts b = none := fun {b o} e h1 h2 => by
    rw [argT_out (not_ts hTs e h2)]
    cases z : argH K s₁.heap A b with
    | none => rfl
    | some u =>
      obtain ⟨o2, e2, _, vs, n, d⟩ := arg_obj ar z
      rw [e] at e2
      cases e2
      exact absurd d (h1 _ _)
  generalize argT K s₁.heap A ts = H at nK1 only hok hS tT free
  have back : ∀ {b : Addr} {o : Obj}, s₁.heap.get? b = some o → (∀ vs n, o.data ≠ .seq vs n) → o ≠ tab0 → (hidT s₁.heap H).get? b = some o := fun e h1 h2 => hidT_get e (free e h1 h2)
  have nsK : ∀ {b : Addr} {m : Str → Option Value}, s₁.heap.Ns b m → (hidT s₁.heap H).Ns b m := fun {b m} ⟨o, es, ep, e, d, r⟩ => ⟨o, es, ep, back e (fun _ _ z => by rw [d] at z; cases z) (fun z => by rw [z] at d; cases d), d, r⟩
  have hKb : K.In (hidT s₁.heap H) := fun b o e => hidT_get (KX b o e) (by
    cases z : H b with
    | none => rfl
    | some u =>
      have := nK1 b (by rw [z]; simp)
      rw [this] at e
      cases e)
  have hM : Mod K mg (hidT s₁.heap H) := ⟨hKb, nsK hns, ⟨mb, nsK hb, hbb⟩, let ⟨mc, h1, h2⟩ := hlim; ⟨mc, nsK h1, h2⟩⟩
  have TB : ∀ p ∈ cs, TabB (hidT s₁.heap H) mg p.1 p.2 := fun p hp => by
    have oT := hT p hp
    refine ⟨?_, ?_, fun z => ?_⟩
    · obtain ⟨o, us, file, tf, flags, tg, inF, text, tt, e1, r1, r2, r3⟩ := hC p hp
      refine ⟨o, us, file, tf, flags, tg, inF, text, tt, back e1 (fun _ _ z => by rw [r2] at z; cases z) (fun z => by rw [z] at r1; cases r1), r1, r2, r3⟩
    · obtain ⟨bm, ob, b1, b2, b3, b4, b5, b6⟩ := hbm
      refine ⟨bm, ob, b1, b2, fun q => ?_, fun q => ?_, back b3 (fun _ _ z => by rw [b6] at z; cases z) (fun z => by rw [z] at b6; cases b6), b4, b5, b6⟩
      · obtain ⟨o, es, ep, e, hd, _⟩ := hns
        rw [q, e] at b3
        cases b3
        rw [hd] at b6
        cases b6
      · rw [q, oT] at b3
        cases b3
        cases b6
    · obtain ⟨o, es, ep, e, hd, _⟩ := hns
      rw [z, oT] at e
      cases e
      cases hd
  have e0 : Env0 P w K mg (hidT s₁.heap H) callerA [] s₁ H := ⟨rfl, hM, fun b o e => of_hidT e, Nat.le_of_eq (hidT_size _ _), trivial, fun b hb => absurd (show b ∈ ([] : List Addr) from hb) (by simp), hok, .of_eq hg⟩
  have hl : vals.length = ps.length := by rw [wellAll_len hwl]; exact hlen
  refine codeAny_mono ((F _ hKb (nsK hns) TB).run callerA [] s₁ H ⟨vals, []⟩ vals (vals.map toV) _ _ hr e0 (hbind s₁ vals hl) hV (hsp H _ tT hS)) fun r s' x => ?_
  cases r with
  | error e => exact x.elim
  | ok fl =>
    cases fl with
    | next => exact x.elim
    | brk => exact x.elim
    | cont => exact x.elim
    | ret u =>
      obtain ⟨v, H', os, bare, un, hok', r', q⟩ := x
      have kept : ∀ b o, b ∉ ts → s₁.heap.get? b = some o → s'.heap.get? b = some o := fun b o nb e => by
        rcases only b with z | ⟨ob, u3, z⟩ | z
        · exact un.keep b o e z (fun m => absurd (show b ∈ ([] : List Addr) from m) (by simp)) (by simp)
        · obtain ⟨e1, _⟩ := hok b _ z
          obtain ⟨e2, _⟩ := hok' b _ (un.frzs b ob _ z)
          rw [e] at e1
          cases e1
          exact e2
        · exact absurd z nb
      have grown : ∀ p ∈ cs, ∃ more : Array Value, s'.heap.get? p.2 = some { cls := .none, data := .fields more } := fun p hp => by
        obtain ⟨more, z⟩ := un.tbls p.2 #[] (tT p hp)
        exact ⟨_, hok' p.2 _ z⟩
      have KX' : K.In s'.heap := fun b o e => kept b o (fun m => by
        obtain ⟨p, hp, e2⟩ := List.mem_map.mp m
        have := nT p hp
        rw [e2, e] at this
        cases this) (KX b o e)
      obtain ⟨as, hrd⟩ := Dw.reads (R := R) (cl := cl) hok' KX' d0 v u q r'
      refine ⟨u, as, rfl, hrd, ⟨fun b o e => ?_, fun b o e => ?_⟩, os, bare⟩
      · by_cases m : b ∈ ts
        · obtain ⟨p, hp, ep⟩ := List.mem_map.mp m
          obtain ⟨more, hm⟩ := grown p hp
          rw [← ep] at e ⊢
          rw [hT p hp] at e
          cases e
          exact .inr (.inl ⟨((hC p hp).tab (hT p hp)).isCodeTable, rfl, #[], more, rfl, by rw [Array.empty_append]; exact hm⟩)
        · exact .inl (kept b o m e)
      · by_cases m : b ∈ ts
        · obtain ⟨p, hp, ep⟩ := List.mem_map.mp m
          obtain ⟨more, hm⟩ := grown p hp
          rw [← ep]
          exact ⟨_, hm⟩
        · exact ⟨o, kept b o m e⟩
end Fc
namespace Fc
open PySem PySem.Spec PyProof.Rows L2 LamX
open PySem.W (WData Codec OpenSpec Well WellAll ReadsW ReadsAllW)
/-- what is known of the row's def at the head's heap -/
structure SpecAt (r : OpenSpec) (w : World) (K : PySem.W.Frag) (k : Nat) (ps : List Str) (mg : Str → Option Value) (fa : Addr) (h : Heap) : Prop where
  ex : ∃ (fd : FuncData) (cs : List (Addr × Addr)) (sp : Sp), (∀ p ∈ cs, h.get? p.2 = some tab0) ∧ (∀ p ∈ cs, K.lookup p.2 = none) ∧ (∀ p ∈ cs, PySem.W.CodeHd h p.1 p.2) ∧
    (∀ (s : Shared) (us : List Value), us.length = ps.length → BindsTo s fd ⟨us, []⟩ (ps.zip us)) ∧
    (∀ (H : Hp) (xs : List V) (a : Codec.denoteAll r.args), Codec.withinAll r.args a = true → Codec.app r.args r.asked a = true → (∀ p ∈ cs, H p.2 = some (.tbl #[])) → DwAll K H xs (Codec.encAll r.args a) → sp xs H (fun v H' => Dw K H' v (r.ret.enc (Codec.app r.args r.f a))) E0) ∧
    ∀ base : Heap, K.In base → base.Ns mainGlobals mg → (∀ p ∈ cs, TabB base mg p.1 p.2) → FnOk r.prog w K mg base CX0 k fa fd ps sp
theorem walk_specT {r : OpenSpec} {k : Nat} {q : Program} {loose : List Str} {XP : (Str → Option Value) → Heap → Prop} {YP : World → Heap → Prop} {d : DefRec} {K : Params → PySem.W.Frag} {ps : List Str}
    (hwell : r.wellSaid = true) (hlen : r.args.length = ps.length) (hr : Room k callerA) (hY : ∀ (w : World) (h : Heap), YP w h → (K w.params).In h)
    (F : ∀ (w : World) (mg mb : Str → Option Value) (mean : ExcName → Option Value) (fa : Addr) (h : Heap), Top q (PySem.W.looseW q loose) mean mg mb h → (K w.params).In h → mg d.name = some (.ref fa) → SpecAt r w (K w.params) k ps mg fa h) :
    PySem.W.WalkOS q loose XP YP r d [] (fun f vs => PySem.call f vs) := by
  intro w s0 s1 mg mb G Y fa o pm cd doc dV kV ho hd hcd hD hmg hg args vals as hpre hlay hrd hwl hlo
  obtain ⟨a, e1, e2⟩ := PySem.W.os_pre_some hpre
  obtain ⟨e3, hwi⟩ := Codec.encAll_of_decAll r.args args a e1
  subst e3
  have KX := hY w _ Y
  obtain ⟨fd, cs, sp, hT, nT, hC, hb, hsp, hF⟩ := (F w mg mb _ fa _ G.T KX hmg).ex
  refine PySem.W.enter_call (codeAny_mono (specT_call (R := []) (cl := classAt s0.heap) (d0 := r.ret.enc (Codec.app r.args r.f a)) KX G.T.g G.T.b G.T.builtins G.T.nolimit hg hT nT hC G.T.bmain hwl (pl_encAll _ _) (layable_weight hlay) hr hF hb (by rw [encAll_len]; exact hlen)
    (fun H xs t hS => hsp H xs a hwi e2 t hS)) ?_)
  rintro r' s' ⟨u, as', rfl, h1, h2, h3, h4⟩
  exact ⟨.inl ⟨u, _, as', rfl, fun _ => rfl, h1, (OpenSpec.post_iff hwell hwi _ _).mpr rfl, fun z => Bool.noConfusion (show false = true from z)⟩, h2, h3, h4⟩
end Fc
end
section
set_option Elab.async false
set_option linter.all false
set_option maxRecDepth 100000
set_option maxHeartbeats 2000000
/-! the object; what most answers use -/
namespace Fc
open PySem PySem.Spec PyProof.Rows L2
open Kqz1 (Frac)
/-! ### the object's fields -/
def dF (on : Bool) (af : Addr) (v : V) : List (Str × V) := [("started", .bl on), ("figures", .ref af), ("way", v)]
theorem lk_h {k : Str} {v : V} {r : List (Str × V)} : List.lookup k ((k, v) :: r) = some v := by
  rw [List.lookup_cons, beq_self_eq_true]
theorem lk_p {k g : Str} {v : V} {r : List (Str × V)} (h : (k == g) = false) : List.lookup k ((g, v) :: r) = List.lookup k r := by
  rw [List.lookup_cons, h]
theorem pt_h {f : Str} {v x : V} {r : List (Str × V)} : putF f v ((f, x) :: r) = (f, v) :: r := if_pos rfl
theorem pt_p {f g : Str} {v x : V} {r : List (Str × V)} (h : ¬ g = f) : putF f v ((g, x) :: r) = (g, x) :: putF f v r := if_neg h
theorem dF_on {on : Bool} {af : Addr} {v : V} : (dF on af v).lookup ("started" : Str) = some (.bl on) := lk_h
theorem dF_fig {on : Bool} {af : Addr} {v : V} : (dF on af v).lookup ("figures" : Str) = some (.ref af) := (lk_p (by decide +kernel)).trans lk_h
theorem dF_way {on : Bool} {af : Addr} {v : V} : (dF on af v).lookup ("way" : Str) = some v := (lk_p (by decide +kernel)).trans ((lk_p (by decide +kernel)).trans lk_h)
theorem dF_red {on : Bool} {af : Addr} {v : V} : (dF on af v).lookup ("redraw" : Str) = none := (lk_p (by decide +kernel)).trans ((lk_p (by decide +kernel)).trans ((lk_p (by decide +kernel)).trans rfl))
theorem dF_pon {on b : Bool} {af : Addr} {v : V} : putF "started" (.bl b) (dF on af v) = dF b af v := pt_h
theorem dF_pfig {on : Bool} {af a2 : Addr} {v : V} : putF "figures" (.ref a2) (dF on af v) = dF on a2 v := (pt_p (by decide +kernel)).trans (congrArg _ pt_h)
theorem dF_pway {on : Bool} {af : Addr} {v v2 : V} : putF "way" v2 (dF on af v) = dF on af v2 := (pt_p (by decide +kernel)).trans (congrArg _ ((pt_p (by decide +kernel)).trans (congrArg _ pt_h)))
theorem dF_new {af : Addr} : putF "way" .non (putF "figures" (.ref af) (putF "started" (.bl false) [])) = dF false af .non := by
  have e1 : putF "started" (.bl false) [] = [(("started" : Str), V.bl false)] := rfl
  have e2 : putF "figures" (.ref af) [(("started" : Str), V.bl false)] = [(("started" : Str), V.bl false), ("figures", .ref af)] := (pt_p (by decide +kernel)).trans rfl
  have e3 : putF "way" .non [(("started" : Str), V.bl false), ("figures", V.ref af)] = dF false af .non := (pt_p (by decide +kernel)).trans (congrArg _ ((pt_p (by decide +kernel)).trans rfl))
  rw [e1, e2, e3]
/-- what is known of the class -/
structure Kl (K : PySem.W.Frag) (mg : Str → Option Value) (C : Addr) : Prop where
  cl : Cls K C
  nS : NoAttr K C "started"
  nF : NoAttr K C "figures"
  nW : NoAttr K C "way"
  gC : mg "Drawing" = some (.ref C)
/-! ### the object in the heap -/
def WyAt (K : PySem.W.Frag) (H : Hp) (v : V) : Option (List Int) → Prop
  | none => v = .non
  | some w => ∃ aw, v = .ref aw ∧ SqT K H aw (inV w)
structure DrAt (K : PySem.W.Frag) (C : Addr) (H : Hp) (d : Addr) (on : Bool) (ns : List Int) (wy : Option (List Int)) (dx af : Addr) (v : V) : Prop where
  obj : H d = some (.ins C dx (dF on af v))
  fig : H af = some (.lst (inV ns))
  way : WyAt K H v wy
def Dr (K : PySem.W.Frag) (C : Addr) (H : Hp) (d : Addr) (on : Bool) (ns : List Int) (wy : Option (List Int)) : Prop := ∃ dx af v, DrAt K C H d on ns wy dx af v
section
variable {K : PySem.W.Frag} {C d dx af : Addr} {H H' : Hp} {on : Bool} {ns : List Int} {wy : Option (List Int)} {v : V}
theorem WyAt.same (s : Same H H') (h : WyAt K H v wy) : WyAt K H' v wy := by
  cases wy with
  | none => exact h
  | some w =>
    obtain ⟨aw, e, q⟩ := h
    exact ⟨aw, e, s.sqT q⟩
theorem DrAt.same (s : Same H H') (h : DrAt K C H d on ns wy dx af v) : DrAt K C H' d on ns wy dx af v := ⟨s _ _ h.obj, s _ _ h.fig, h.way.same s⟩
theorem DrAt.ne (h : DrAt K C H d on ns wy dx af v) : af ≠ d := ne_of h.fig h.obj (by intro z; cases z)
/-- all stands but d -/
def But (d : Addr) (H H' : Hp) : Prop := ∀ b o, H b = some o → b ≠ d → H' b = some o
theorem But.of (s : Same H H') : But d H H' := fun b o e _ => s b o e
theorem But.trans {H1 H2 H3 : Hp} (a : But d H1 H2) (b : But d H2 H3) : But d H1 H3 := fun c o e n => b c o (a c o e n) n
theorem But.upd {o : HO} : But d H (upd H d o) := fun b u e n => by
  rw [upd_ne n]
  exact e
theorem But.seqT {C2 : Addr} {dx2 : Addr} {fs : List (Str × V)} {a : Addr} {xs : List V} (s : But d H H') (hd : H d = some (.ins C2 dx2 fs)) (h : SqT K H a xs) : SqT K H' a xs := by
  rcases h with (h | ⟨o, h⟩) | h
  · exact .inl (.inl (s _ _ h (ne_of h hd (by intro z; cases z))))
  · exact .inl (.inr ⟨o, s _ _ h (ne_of h hd (by intro z; cases z))⟩)
  · exact .inr h
theorem But.seqL {C2 : Addr} {dx2 : Addr} {fs : List (Str × V)} {a : Addr} {xs : List V} (s : But d H H') (hd : H d = some (.ins C2 dx2 fs)) (h : SqL K H a xs) : SqL K H' a xs := by
  rcases h with (h | ⟨o, h⟩) | h
  · exact .inl (.inl (s _ _ h (ne_of h hd (by intro z; cases z))))
  · exact .inl (.inr ⟨o, s _ _ h (ne_of h hd (by intro z; cases z))⟩)
  · exact .inr h
end
section
variable {P : Program} {w : World} {K : PySem.W.Frag} {mg : Str → Option Value} {base : Heap} {C : Addr}
/-! ### __init__, redraw -/
abbrev sIni : Stmt := inClass (topS 16) 0
abbrev sRed : Stmt := inClass (topS 16) 1
theorem scIni : FnScope ["self"] ["self"] (defScope sIni) := ⟨rfl, rfl, rfl, by decide +kernel, rfl, by decide +kernel, by decide +kernel⟩
theorem scRed : FnScope ["self", "figures"] ["self", "figures"] (defScope sRed) := ⟨rfl, rfl, rfl, by decide +kernel, rfl, by decide +kernel, by decide +kernel⟩
def spIni (K : PySem.W.Frag) (C : Addr) : Sp := fun vs H Q _ => ∃ (p dx : Addr), vs = [.ref p] ∧ H p = some (.ins C dx []) ∧ ∀ H', But p H H' → Dr K C H' p false [] none → Q .non H'
theorem ok_ini {f : Addr} {fd : FuncData} (F : Fun K "__init__" "Drawing.__init__" sIni f fd) (T : Kl K mg C) : FnOk P w K mg base CX0 1 f fd ["self"] (spIni K C) := by
  refine F.ok scIni (fun vs H Q E h => ?_) (fun cdv A outer s H vs Q E hr h => ⟨_, pss_cons (ps_fld (pv 0) pe_bl rfl) (pss_cons (ps_fld (pv 0) (pe_lst pa_nil) rfl) (pss_one (ps_fld (pv 0) pe_non rfl))), ?_⟩)
  · obtain ⟨p, dx, rfl, _⟩ := h
    rfl
  · obtain ⟨p, dx, rfl, hp, k⟩ := h
    refine ⟨_, rfl, p, C, dx, _, rfl, hp, T.cl, T.nS, (by decide), ?_⟩
    refine ⟨(by decide), fun l hl => ?_⟩
    have npl : p ≠ l := ne_of_none (H := upd H p _) upd_same hl
    have e1 : upd (upd H p (.ins C dx (putF "started" (.bl false) []))) l (.lst []) p = some (.ins C dx (putF "started" (.bl false) [])) := by rw [upd_ne npl, upd_same]
    refine ⟨_, rfl, p, C, dx, _, rfl, e1, T.cl, T.nF, (by show 1 < 1000; decide), ?_⟩
    refine ⟨_, rfl, p, C, dx, _, rfl, upd_same, T.cl, T.nW, (by show 2 < 1000; decide), ?_⟩
    refine k _ (fun b o e n => ?_) ⟨dx, l, .non, ⟨?_, ?_, rfl⟩⟩
    · rw [upd_ne n, upd_ne n]
      have nl : b ≠ l := ne_of_none (H := upd H p _) (by rw [upd_ne n]; exact e) hl
      rw [upd_ne nl, upd_ne n]
      exact e
    · rw [upd_same]
      exact congrArg (fun q => some (HO.ins C dx q)) dF_new
    · rw [upd_ne (Ne.symm npl), upd_ne (Ne.symm npl), upd_same]
      rfl
def spRed (K : PySem.W.Frag) (C : Addr) : Sp := fun vs H Q _ => ∃ (d a2 dx af : Addr) (on : Bool) (v : V) (ns : List Int), vs = [.ref d, .ref a2] ∧ H d = some (.ins C dx (dF on af v)) ∧ H a2 = some (.lst (inV ns)) ∧
  ∀ H', But d H H' → DrAt K C H' d on ns none dx a2 .non → Q .non H'
theorem ok_red {f : Addr} {fd : FuncData} (F : Fun K "redraw" "Drawing.redraw" sRed f fd) (T : Kl K mg C) : FnOk P w K mg base CX0 1 f fd ["self", "figures"] (spRed K C) := by
  refine F.ok scRed (fun vs H Q E h => ?_) (fun cdv A outer s H vs Q E hr h => ⟨_, pss_cons (ps_fld (pv 0) (pv 1) rfl) (pss_one (ps_fld (pv 0) pe_non rfl)), ?_⟩)
  · obtain ⟨d, a2, dx, af, on, v, ns, rfl, _⟩ := h
    rfl
  · obtain ⟨d, a2, dx, af, on, v, ns, rfl, hd, ha, k⟩ := h
    refine ⟨_, rfl, _, rfl, d, C, dx, _, rfl, hd, T.cl, T.nF, (by show 3 < 1000; decide), ?_⟩
    refine ⟨_, rfl, d, C, dx, _, rfl, upd_same, T.cl, T.nW, (by rw [dF_pfig]; show 3 < 1000; decide), ?_⟩
    have n2 : a2 ≠ d := ne_of ha hd (by intro z; cases z)
    refine k _ (But.upd.trans But.upd) ⟨?_, ?_, rfl⟩
    · rw [upd_same, dF_pfig, dF_pway]
    · rw [upd_ne n2, upd_ne n2]
      exact ha
/-! ### told_fraction -/
abbrev toldF (f : Frac) : List Int := [0, f.p, (f.q : Int)]
theorem scTol : FnScope ["drawing"] ["drawing"] (defScope (topS 43)) := ⟨rfl, rfl, rfl, by decide +kernel, rfl, by decide +kernel, by decide +kernel⟩
def spTol (K : PySem.W.Frag) (C : Addr) : Sp := fun vs H Q _ => ∃ (d : Addr) (on : Bool) (ns : List Int) (wy : Option (List Int)), vs = [.ref d] ∧ Dr K C H d on ns wy ∧ OkNs ns ∧ RetL H (inV (toldF (fracOf ns))) Q
theorem ok_tol {f : Addr} {fd : FuncData} (F : Fun K "told_fraction" "told_fraction" (topS 43) f fd) (T : Kl K mg C) (nL : mg "list" = none) (cF : ∀ base, Cal P w K mg base 3 "fraction_of" ["figures"] (spFro K)) : FnOk P w K mg base CX0 4 f fd ["drawing"] (spTol K C) := by
  refine F.ok scTol (fun vs H Q E h => ?_) (fun cdv A outer s H vs Q E hr h => ⟨_, pss_one (ps_ret (pe_op op_cat (pe_lst (pa_cons pe_int pa_nil)) (pe_callTy call_list_of (by rfl) nL (by decide +kernel) (pa_cons (pe_k (cF _) hr rfl (pa_cons (pe_fld (pv 0) rfl) pa_nil)) pa_nil)))), ?_⟩)
  · obtain ⟨d, on, ns, wy, rfl, _⟩ := h
    rfl
  · obtain ⟨d, on, ns, wy, rfl, ⟨dx, af, v, D⟩, o, k⟩ := h
    refine ⟨sz1, fun l hl => ?_⟩
    have s1 : Same H (upd H l (.lst [.int 0])) := same_upd hl
    refine ⟨_, rfl, d, C, dx, _, _, rfl, s1 _ _ D.obj, T.cl, T.nF, dF_fig, af, ns, rfl, s1.seq (SqL.of D.fig), o.six, fun H2 t s2 ht => ⟨t, _, rfl, .inr (SqT.of ht), fun l2 hl2 => ?_⟩⟩
    have s3 : Same H2 (upd H2 l2 (.lst (frV (fracOf ns)))) := same_upd hl2
    refine ⟨l, l2, _, _, rfl, rfl, (s2.trans s3) _ _ upd_same, upd_same, sz3, fun p hp => ?_⟩
    exact k.fin ((s1.trans s2).trans s3) p hp
/-! ### one_more_figure -/
theorem scOne : FnScope ["drawing", "figure"] ["drawing", "figure"] (defScope (topS 44)) := ⟨rfl, rfl, rfl, by decide +kernel, rfl, by decide +kernel, by decide +kernel⟩
def spOne (K : PySem.W.Frag) (C : Addr) : Sp := fun vs H Q _ => ∃ (d : Addr) (on : Bool) (ns : List Int) (wy : Option (List Int)) (n : Int), vs = [.ref d, .int n] ∧ Dr K C H d on ns wy ∧ OkNs ns ∧ n.natAbs ≤ 6 ∧ (ns.length = 10 → RetL H (inV [-28]) Q) ∧
  (ns.length ≠ 10 → ∀ H' p, But d H H' → Dr K C H' d on (ns ++ [n]) none → H' p = some (.lst (inV (toldF (fracOf (ns ++ [n]))))) → Q (.ref p) H')
theorem OkNs.snoc {ns : List Int} {n : Int} (o : OkNs ns) (h : ns.length ≠ 10) (h6 : n.natAbs ≤ 6) : OkNs (ns ++ [n]) := ⟨by
  rw [List.length_append]
  have := o.len
  show ns.length + 1 ≤ 10
  omega, fun x hx => by
  rcases List.mem_append.mp hx with m | m
  · exact o.six x m
  · have e : x = n := by simpa using m
    rw [e]
    exact h6⟩
theorem ok_one {f fR : Addr} {fd fdR : FuncData} (F : Fun K "one_more_figure" "one_more_figure" (topS 44) f fd) (T : Kl K mg C) (nN : mg "len" = none) (g10 : ∃ t, mg "MOST_FIGURES" = some (.int 10 t)) (g28 : ∃ t, mg "TOO_MANY_FIGURES" = some (.int (-28) t))
    (FR : FnOk P w K mg base CX0 1 fR fdR ["self", "figures"] (spRed K C)) (bR : Binds K fdR ["self", "figures"] []) (mR : Meth K C "redraw" fR) (cT : Cal P w K mg base 4 "told_fraction" ["drawing"] (spTol K C)) : FnOk P w K mg base CX0 5 f fd ["drawing", "figure"] (spOne K C) := by
  obtain ⟨t10, g10⟩ := g10
  obtain ⟨t28, g28⟩ := g28
  refine F.ok scOne (fun vs H Q E h => ?_) (fun cdv A outer s H vs Q E hr h => ⟨_,
      pss_cons (ps_if (pt_cmpR op_eq (pe_callB call_len_seq (by rfl) nN PySem.boot_len (pa_cons (pe_fld (pv 0) rfl) pa_nil)) (pe_glob (v := .int 10) rfl g10 ⟨_, rfl⟩) (nomark _)) (pss_one (ps_ret (pe_lst (pa_cons (pe_glob (v := .int (-28)) rfl g28 ⟨_, rfl⟩) pa_nil)))) pss_nil)
      (pss_cons (ps_expr (pe_meth (pv 0) T.cl mR FR (hr.mono (by decide)) bR .nil pass0 (pa_cons (pe_op op_cat (pe_fld (pv 0) rfl) (pe_lst (pa_cons (pv 1) pa_nil))) pa_nil)))
      (pss_one (ps_ret (pe_k cT hr rfl (pa_cons (pv 0) pa_nil))))), ?_⟩)
  · obtain ⟨d, on, ns, wy, n, rfl, _⟩ := h
    rfl
  · obtain ⟨d, on, ns, wy, n, rfl, ⟨dx, af, v, D⟩, o, h6, kF, kO⟩ := h
    refine ⟨_, rfl, d, C, dx, _, _, rfl, D.obj, T.cl, T.nF, dF_fig, af, _, rfl, .inl (SqL.of D.fig), rfl, _, rfl, ?_⟩
    by_cases c : ns.length = 10
    · refine if_t (decide_eq_true (by rw [inV_len, c] <;> rfl)) ⟨sz1, (kF c).fin (Same.refl H)⟩
    · have ci : ¬ V.int ((inV ns).length : Int) = V.int 10 := by
        rw [inV_len, V.int.injEq]
        omega
      refine if_f (decide_eq_false ci) ⟨_, rfl, d, dx, _, rfl, D.obj, dF_red, ?_⟩
      refine ⟨_, rfl, d, C, dx, _, _, rfl, D.obj, T.cl, T.nF, dF_fig, _, rfl, sz1, fun l hl => ?_⟩
      have s1 : Same H (upd H l (.lst [.int n])) := same_upd hl
      refine ⟨af, l, _, _, rfl, rfl, s1 _ _ D.fig, upd_same, ?_, fun p hp => ?_⟩
      · rw [inV_len]
        have := o.len
        have : sizeLine = 16777216 := sizeLine_eq
        show ns.length + 1 ≤ sizeLine
        omega
      · have s2 : Same (upd H l (.lst [.int n])) (upd (upd H l (.lst [.int n])) p (.lst (inV ns ++ [.int n]))) := same_upd hp
        have hD := (s1.trans s2) _ _ D.obj
        refine ⟨d, p, dx, af, on, v, ns ++ [n], rfl, hD, by rw [upd_same, inV_app]; rfl, fun H3 b3 D3 => ⟨_, rfl, d, on, ns ++ [n], none, rfl, ⟨_, _, _, D3⟩, o.snoc c h6, fun H4 q s4 hq => ?_⟩⟩
        exact kO c H4 q ((But.of (s1.trans s2)).trans (b3.trans (But.of s4))) ⟨_, _, _, D3.same s4⟩ hq
end
end Fc
end
section
set_option autoImplicit false
/-! the calls' numbers -/
namespace Fc
open Kqz6Neutral (asked1 natural whole32)
/-- what a call may look like -/
theorem shape {j : Int} {zs : List Int} (h : asked1 [j :: zs] = true) : (zs = [] ∧ (j = 0 ∨ j = 2 ∨ j = 3 ∨ j = 4 ∨ j = 5 ∨ j = 6 ∨ j = 8 ∨ j = 9 ∨ j = 10 ∨ j = 16 ∨ j = 17 ∨ j = 18 ∨ j = 19 ∨ j = 20)) ∨
    (∃ a, zs = [a] ∧ ((j = 1 ∧ whole32 a = true) ∨ ((j = 13 ∨ j = 14 ∨ j = 15) ∧ natural a 32 = true))) ∨
    (∃ a b, zs = [a, b] ∧ (((j = 7 ∨ j = 12) ∧ natural a 32 = true ∧ natural b 32 = true) ∨ (j = 11 ∧ whole32 a = true ∧ natural b 32 = true))) := by
  unfold asked1 at h
  split at h
  all_goals first
    | (rename_i e; cases e; simp; done)
    | (rename_i a e; cases e; exact .inr (.inl ⟨a, rfl, by simp [h]⟩))
    | (rename_i a b e; cases e; rw [Bool.and_eq_true] at h; exact .inr (.inr ⟨a, b, rfl, by simp [h]⟩))
    | cases h
theorem nat32 {a : Int} (h : natural a 32 = true) : ∃ n : Nat, a = (n : Int) ∧ n < 4294967296 := by
  unfold natural at h
  rw [Bool.and_eq_true, decide_eq_true_iff, decide_eq_true_iff] at h
  exact ⟨a.toNat, by omega, by omega⟩
theorem sh_nil {j : Int} {zs : List Int} (h : asked1 [j :: zs] = true) (hj : j ≠ 1 ∧ j ≠ 7 ∧ (j < 11 ∨ 15 < j)) : zs = [] := by
  rcases shape h with ⟨e, _⟩ | ⟨a, e, z⟩ | ⟨a, b, e, z⟩
  · exact e
  · exfalso; omega
  · exfalso; omega
theorem sh_1 {zs : List Int} (h : asked1 [1 :: zs] = true) : ∃ a : Int, zs = [a] ∧ -2147483648 ≤ a ∧ a < 2147483648 := by
  rcases shape h with ⟨e, z⟩ | ⟨a, e, z⟩ | ⟨a, b, e, z⟩
  · exfalso; omega
  · rcases z with ⟨_, z⟩ | ⟨z, _⟩
    · unfold whole32 at z
      rw [Bool.and_eq_true, decide_eq_true_iff, decide_eq_true_iff] at z
      exact ⟨a, e, by omega, by omega⟩
    · exfalso; omega
  · exfalso; omega
theorem sh_t {j : Int} {zs : List Int} (h : asked1 [j :: zs] = true) (hj : j = 13 ∨ j = 14 ∨ j = 15) : ∃ t : Nat, zs = [(t : Int)] ∧ t < 4294967296 := by
  rcases shape h with ⟨e, z⟩ | ⟨a, e, z⟩ | ⟨a, b, e, z⟩
  · exfalso; omega
  · rcases z with ⟨z, _⟩ | ⟨_, z⟩
    · exfalso; omega
    · obtain ⟨n, rfl, hn⟩ := nat32 z
      exact ⟨n, e, hn⟩
  · exfalso; omega
theorem sh_nn {j : Int} {zs : List Int} (h : asked1 [j :: zs] = true) (hj : j = 7 ∨ j = 12) : ∃ p q : Nat, zs = [(p : Int), (q : Int)] ∧ p < 4294967296 ∧ q < 4294967296 := by
  rcases shape h with ⟨e, z⟩ | ⟨a, e, z⟩ | ⟨a, b, e, z⟩
  · exfalso; omega
  · exfalso; omega
  · rcases z with ⟨_, z1, z2⟩ | ⟨z, _⟩
    · obtain ⟨n, rfl, hn⟩ := nat32 z1
      obtain ⟨m, rfl, hm⟩ := nat32 z2
      exact ⟨n, m, e, hn, hm⟩
    · exfalso; omega
theorem sh_11 {zs : List Int} (h : asked1 [11 :: zs] = true) : ∃ (p : Int) (q : Nat), zs = [p, (q : Int)] ∧ -2147483648 ≤ p ∧ p < 2147483648 ∧ q < 4294967296 := by
  rcases shape h with ⟨e, z⟩ | ⟨a, e, z⟩ | ⟨a, b, e, z⟩
  · exfalso; omega
  · exfalso; omega
  · rcases z with ⟨z, _⟩ | ⟨_, z1, z2⟩
    · exfalso; omega
    · obtain ⟨m, rfl, hm⟩ := nat32 z2
      unfold whole32 at z1
      rw [Bool.and_eq_true, decide_eq_true_iff, decide_eq_true_iff] at z1
      exact ⟨a, m, e, by omega, by omega, hm⟩
abbrev nst := Kqz6Neutral.step
abbrev ntl := Kqz6Neutral.tell
section
variable {s : Option Kqz6.Desk}
theorem st_0 : nst s [[0]] = ((Kqz6.step s .start).1, ntl (Kqz6.step s .start).2) := rfl
theorem st_1 {a : Int} : nst s [[1, a]] = ((Kqz6.step s (.twist a)).1, ntl (Kqz6.step s (.twist a)).2) := rfl
theorem st_2 : nst s [[2]] = ((Kqz6.step s .turn).1, ntl (Kqz6.step s .turn).2) := rfl
theorem st_3 : nst s [[3]] = ((Kqz6.step s .off).1, ntl (Kqz6.step s .off).2) := rfl
theorem st_4 : nst s [[4]] = ((Kqz6.step s .comes).1, ntl (Kqz6.step s .comes).2) := rfl
theorem st_5 : nst s [[5]] = ((Kqz6.step s .ring).1, ntl (Kqz6.step s .ring).2) := rfl
theorem st_6 : nst s [[6]] = ((Kqz6.step s .crossings).1, ntl (Kqz6.step s .crossings).2) := rfl
theorem st_7 {a b : Nat} : nst s [[7, (a : Int), (b : Int)]] = ((Kqz6.step s (.change a b)).1, ntl (Kqz6.step s (.change a b)).2) := rfl
theorem st_8 : nst s [[8]] = ((Kqz6.step s .undone).1, ntl (Kqz6.step s .undone).2) := rfl
theorem st_9 : nst s [[9]] = ((Kqz6.step s .split).1, ntl (Kqz6.step s .split).2) := rfl
theorem st_10 : nst s [[10]] = ((Kqz6.step s .flat).1, ntl (Kqz6.step s .flat).2) := rfl
theorem st_11 {a : Int} {b : Nat} : nst s [[11, a, (b : Int)]] = ((Kqz6.step s (.to_ a b)).1, ntl (Kqz6.step s (.to_ a b)).2) := rfl
theorem st_12 {a b : Nat} : nst s [[12, (a : Int), (b : Int)]] = ((Kqz6.step s (.closes a b)).1, ntl (Kqz6.step s (.closes a b)).2) := rfl
theorem st_13 {a : Nat} : nst s [[13, (a : Int)]] = ((Kqz6.step s (.ways a)).1, ntl (Kqz6.step s (.ways a)).2) := rfl
theorem st_14 {a : Nat} : nst s [[14, (a : Int)]] = ((Kqz6.step s (.results a)).1, ntl (Kqz6.step s (.results a)).2) := rfl
theorem st_15 {a : Nat} : nst s [[15, (a : Int)]] = ((Kqz6.step s (.rings a)).1, ntl (Kqz6.step s (.rings a)).2) := rfl
theorem st_16 : nst s [[16]] = ((Kqz6.step s .way).1, ntl (Kqz6.step s .way).2) := rfl
theorem st_17 : nst s [[17]] = ((Kqz6.step s .do_).1, ntl (Kqz6.step s .do_).2) := rfl
theorem st_18 : nst s [[18]] = ((Kqz6.step s .bound).1, ntl (Kqz6.step s .bound).2) := rfl
theorem st_19 : nst s [[19]] = ((Kqz6.step s .figures).1, ntl (Kqz6.step s .figures).2) := rfl
theorem st_20 : nst s [[20]] = ((Kqz6.step s .state).1, ntl (Kqz6.step s .state).2) := rfl
end
end Fc
namespace Fc
open Kqz1 (Frac Figure)
open Kqz3 (Ring)
/-! ### each call's answer, by the numbers of the figures -/
abbrev dk (ns : List Int) (last : Option (List Nat)) : Kqz6.Desk := ⟨ns.map dec, last⟩
abbrev toldX (f : Frac) : List Int := [0, f.p, (f.q : Int)]
theorem OkNs.row {ns : List Int} {w : List Nat} (o : OkNs ns) (f : Fits ns w) : OkNs (changedRow ns (up w)) := ⟨Nat.le_trans (row_len ns (up w)) o.len, row_six f o.six⟩
section
variable {ns : List Int} {last : Option (List Nat)}
theorem dec_len : (ns.map dec).length = ns.length := List.length_map _
theorem p_start {s : Option Kqz6.Desk} : nst s [[0]] = (some (dk [] none), [0]) := rfl
theorem p_comes : nst (some (dk ns last)) [[4]] = (some (dk ns last), toldX (fracOf ns)) := by
  rw [st_4]
  show (some (dk ns last), [0, (Kqz1.comes (ns.map dec)).p, ((Kqz1.comes (ns.map dec)).q : Int)]) = _
  rw [comes_is]
theorem p_ring : nst (some (dk ns last)) [[5]] = (some (dk ns last), [0, ((Kqz3.name (Kqz3.ringOf (fracOf ns))).p : Int), ((Kqz3.name (Kqz3.ringOf (fracOf ns))).q : Int)]) := by
  rw [st_5, ← comes_is]
  rfl
theorem p_cross : nst (some (dk ns last)) [[6]] = (some (dk ns last), [cross ns]) := by
  rw [st_6, cross_is]
  rfl
theorem p_more {n : Int} {x : Figure} (hx : x = dec n) (o : OkNs ns) : (if Kqz6.MOVES ≤ (ns.map dec).length then ((some (dk ns last) : Option Kqz6.Desk), Kqz6.Ans.num (-28)) else (Kqz6.fresh (ns.map dec ++ [x]), Kqz6.frac (Kqz1.comes (ns.map dec ++ [x])))) =
    if ns.length = 10 then (some (dk ns last), .num (-28)) else (some (dk (ns ++ [n]) none), .ints 0 [(fracOf (ns ++ [n])).p, ((fracOf (ns ++ [n])).q : Int)]) := by
  have := o.len
  rw [dec_len]
  by_cases h : ns.length = 10
  · rw [if_pos h, if_pos (by unfold Kqz6.MOVES; omega)]
  · rw [if_neg h, if_neg (by unfold Kqz6.MOVES; omega), hx, show ns.map dec ++ [dec n] = (ns ++ [n]).map dec by rw [List.map_append]; rfl, comes_is]
    rfl
theorem p_twist {n : Int} (o : OkNs ns) : nst (some (dk ns last)) [[1, n]] = if n = 0 ∨ 6 < n.natAbs then (some (dk ns last), [-22]) else if ns.length = 10 then (some (dk ns last), [-28]) else (some (dk (ns ++ [n]) none), toldX (fracOf (ns ++ [n]))) := by
  rw [st_1]
  unfold Kqz6.step
  dsimp only
  by_cases h : n = 0 ∨ 6 < n.natAbs
  · rw [if_pos h, if_pos (by unfold Kqz6.MOST; omega)]
    rfl
  · rw [if_neg h, if_neg (by unfold Kqz6.MOST; omega), p_more (n := n) (dec_ne (by omega)).symm o]
    split <;> rfl
theorem p_turn (o : OkNs ns) : nst (some (dk ns last)) [[2]] = if ns.length = 10 then (some (dk ns last), [-28]) else (some (dk (ns ++ [0]) none), toldX (fracOf (ns ++ [0]))) := by
  rw [st_2]
  unfold Kqz6.step
  dsimp only
  rw [p_more (n := 0) (x := .turn) dec_zero.symm o]
  split <;> rfl
theorem p_off : nst (some (dk ns last)) [[3]] = if ns.length = 0 then (some (dk ns last), [-6]) else (some (dk ns.dropLast none), [(ns.dropLast.length : Int)]) := by
  rw [st_3]
  unfold Kqz6.step
  dsimp only
  cases ns with
  | nil => rfl
  | cons n r =>
    rw [if_neg (by simp), if_neg (by simp), ← List.map_dropLast, List.length_map]
    rfl
theorem p_change {i k : Nat} : nst (some (dk ns last)) [[7, (i : Int), (k : Int)]] = match ns[i]? with
    | none => (some (dk ns last), [-2])
    | some n => if n.natAbs < k then (some (dk ns last), [-22]) else (some (dk (changedRow ns (up (oneWay ns.length i k))) none), toldX (fracOf (changedRow ns (up (oneWay ns.length i k))))) := by
  have key : Kqz6.step (some (dk ns last)) (.change i k) = match ns[i]? with
      | none => (some (dk ns last), .num (-2))
      | some n => if n.natAbs < k then (some (dk ns last), .num (-22)) else (some (dk (changedRow ns (up (oneWay ns.length i k))) none), .ints 0 [(fracOf (changedRow ns (up (oneWay ns.length i k)))).p, ((fracOf (changedRow ns (up (oneWay ns.length i k)))).q : Int)]) := by
    unfold Kqz6.step
    dsimp only
    rw [List.getElem?_map]
    cases e : ns[i]? with
    | none => rfl
    | some n =>
      show (if Kqz6.room (dec n) < k then _ else _ : Option Kqz6.Desk × Kqz6.Ans) = _
      rw [room_dec]
      dsimp only
      have em : (ns.map dec).set i (Kqz6.changed (dec n) k) = Kqz6.made (ns.map dec) (oneWay ns.length i k) := by
        rw [← made_one (ns.map dec) i k (dec n) (by rw [List.getElem?_map, e]; rfl), dec_len]
      by_cases h : n.natAbs < k
      · rw [if_pos h, if_pos h]
      · rw [if_neg h, if_neg h, em, ← comes_settle, ← row_is, comes_is]
        rfl
  rw [st_7, key]
  split
  · rfl
  · split <;> rfl
theorem p_way : nst (some (dk ns last)) [[16]] = (some (dk ns last), match last with | none => [-6] | some w => (w.length : Int) :: up w) := by
  rw [st_16]
  cases last <;> rfl
theorem p_do : nst (some (dk ns last)) [[17]] = match last with | none => (some (dk ns none), [-6]) | some w => (some (dk (changedRow ns (up w)) none), toldX (fracOf (changedRow ns (up w)))) := by
  rw [st_17]
  cases last with
  | none => rfl
  | some w =>
    show (some (⟨Kqz6.settle (Kqz6.made (ns.map dec) w), none⟩ : Kqz6.Desk), [0, (Kqz1.comes (Kqz6.made (ns.map dec) w)).p, ((Kqz1.comes (Kqz6.made (ns.map dec) w)).q : Int)]) = _
    rw [← comes_settle, ← row_is, comes_is]
theorem p_bound : nst (some (dk ns last)) [[18]] = (some (dk ns last), [if (Kqz3.ringOf (fracOf ns)).p = 1 then 0 else if onceX (Kqz3.ringOf (fracOf ns)) = true then 1 else 2]) := by
  rw [st_18, ← once_is (ringOf_ok (fracOf_good ns)), ← comes_is]
  rfl
theorem p_figs : nst (some (dk ns last)) [[19]] = (some (dk ns last), (ns.length : Int) :: ns) := by
  rw [st_19]
  show (some (dk ns last), ((ns.map dec).length : Int) :: (ns.map dec).map Kqz6.code) = _
  rw [dec_len, List.map_map]
  have e : (ns.map (Kqz6.code ∘ dec)) = ns := by
    conv => rhs; rw [← List.map_id ns]
    exact List.map_congr_left fun n _ => code_dec n
  rw [e]
theorem p_state : nst (some (dk ns last)) [[20]] = (some (dk ns last), [(ns.length : Int), cross ns, if last = none then 0 else 1]) := by
  rw [st_20, cross_is]
  show (some (dk ns last), [((ns.map dec).length : Int), (Kqz1.twists (ns.map dec) : Int), (((if last.isSome then 1 else 0 : Nat)) : Int)]) = _
  rw [dec_len]
  cases last <;> rfl
theorem p_ways {t : Nat} : nst (some (dk ns last)) [[13, (t : Int)]] = (some (dk ns last), if 4 < t then [-22] else [((waysX ns (t : Int)).length : Int)]) := by
  rw [st_13, waysX_is, List.length_map]
  show (some (dk ns last), ntl (if 4 < t then _ else _)) = _
  split <;> rfl
theorem after_is {t : Nat} : Kqz6.after (ns.map dec) t = dedup ((waysX ns (t : Int)).map fun b => b.2) := by
  rw [waysX_is, List.map_map]
  rfl
theorem p_res {t : Nat} : nst (some (dk ns last)) [[14, (t : Int)]] = (some (dk ns last), if 4 < t then [-22] else [((dedup ((waysX ns (t : Int)).map fun b => b.2)).length : Int)]) := by
  rw [st_14, ← after_is]
  show (some (dk ns last), ntl (if 4 < t then _ else _)) = _
  split <;> rfl
def flatR (rs : List Ring) : List Int := rs.flatMap fun r => [(r.p : Int), (r.q : Int)]
theorem p_rings {t : Nat} : nst (some (dk ns last)) [[15, (t : Int)]] = (some (dk ns last), if 4 < t then [-22] else ((dedup (((waysX ns (t : Int)).map fun b => b.2).map fun f => Kqz3.name (Kqz3.ringOf f))).length : Int) :: flatR (dedup (((waysX ns (t : Int)).map fun b => b.2).map fun f => Kqz3.name (Kqz3.ringOf f)))) := by
  have e : Kqz6.rings (ns.map dec) t = dedup (((waysX ns (t : Int)).map fun b => b.2).map fun f => Kqz3.name (Kqz3.ringOf f)) := by
    rw [← dedup_map, ← after_is]
    rfl
  rw [st_15]
  show (some (dk ns last), ntl (if 4 < t then _ else _)) = _
  rw [e]
  split
  · rfl
  · show (some (dk ns last), ((dedup _).length : Int) :: ((dedup _).flatMap fun (r : Ring) => [r.p, r.q]).map fun (x : Nat) => (x : Int)) = _
    rw [List.map_flatMap]
    rfl
/-- what a wish finds -/
theorem p_found {pr : Frac → Bool} : (Kqz6.fewest (ns.map dec) pr = none ∧ fewestX ns pr five = none ∧ Kqz6.found (dk ns last) pr = (some (dk ns none), .num (-33))) ∨
    ∃ w : List Nat, Fits ns w ∧ fewestX ns pr five = some (up w) ∧ ((Kqz6.found (dk ns last) pr).1, ntl (Kqz6.found (dk ns last) pr).2) = (some (dk ns (some w)), [(up w).sum]) := by
  cases e : Kqz6.fewest (ns.map dec) pr with
  | none =>
    refine .inl ⟨rfl, by rw [fewest_is, e]; rfl, ?_⟩
    unfold Kqz6.found
    dsimp only
    rw [e]
    rfl
  | some z =>
    obtain ⟨f, hs⟩ := fewest_fits e
    refine .inr ⟨z.2, f, by rw [fewest_is, e]; rfl, ?_⟩
    unfold Kqz6.found
    dsimp only
    rw [e, up_sum, hs]
    rfl
end
end Fc
end
section
set_option Elab.async false
set_option linter.all false
set_option maxRecDepth 100000
set_option maxHeartbeats 2000000
/-! what a call answers -/
namespace Fc
open PySem PySem.Spec PyProof.Rows L2 LamX
open Kqz1 (Frac)
open Kqz3 (Ring)
theorem ixn {n k : Nat} (h : k < n) : ixN n ((k : Nat) : Int) = some k := by
  unfold ixN
  rw [if_pos (Int.natCast_nonneg k), if_pos (Int.ofNat_lt.mpr h), Int.toNat_natCast]
theorem atn {xs : List V} {k : Nat} {x : V} (h : xs[k]? = some x) : atI xs ((k : Nat) : Int) = some x := by
  unfold atI
  rw [ixn (List.getElem?_eq_some_iff.mp h).1]
  exact h
theorem ix0 {x : V} {r : List V} : atI (x :: r) 0 = some x := by
  exact atn (k := 0) rfl
theorem ix1 {x y : V} {r : List V} : atI (x :: y :: r) 1 = some y := by
  exact atn (k := 1) rfl
/-- the desk in the heap -/
def DkAt (K : PySem.W.Frag) (C : Addr) (H : Hp) (d : Addr) : Option Kqz6.Desk → Prop
  | none => Dr K C H d false [] none
  | some D => ∃ ns, D.l = ns.map dec ∧ OkNs ns ∧ (∀ w, D.last = some w → Fits ns w) ∧ Dr K C H d true ns (D.last.map up)
/-- all stands but d and the tables -/
def Bx (d : Addr) (H H' : Hp) : Prop := ∀ b o, H b = some o → b ≠ d → (∀ ps, o ≠ .tbl ps) → H' b = some o
theorem But.bx {d : Addr} {H H' : Hp} (h : But d H H') : Bx d H H' := fun b o e n _ => h b o e n
theorem Bx.trans {d : Addr} {H1 H2 H3 : Hp} (a : Bx d H1 H2) (b : Bx d H2 H3) : Bx d H1 H3 := fun c o e n t => b c o (a c o e n t) n t
theorem Bx.of {d : Addr} {H H' : Hp} (h : ExtN H H') : Bx d H H' := fun b o e _ t => h b o e t
theorem tabs_but {T : List (Addr × Str)} {d C dx : Addr} {fs : List (Str × V)} {H H' : Hp} (s : But d H H') (hd : H d = some (.ins C dx fs)) (t : Tabs T H) : Tabs T H' := fun p hp => by
  obtain ⟨ps, h1, h2, h3⟩ := t p hp
  refine ⟨ps, s _ _ h1 (ne_of h1 hd (by intro z; cases z)), h2, fun pos cv hc => ?_⟩
  obtain ⟨c, e1, e2⟩ := h3 pos cv hc
  exact ⟨c, e1, s _ _ e2 (ne_of e2 hd (by intro z; cases z))⟩
abbrev AnK (T : List (Addr × Str)) (K : PySem.W.Frag) (C d : Addr) (H : Hp) (r : Option Kqz6.Desk × List Int) (Q : VK) : Prop :=
  ∀ (H' : Hp) (p : Addr), Bx d H H' → Tabs T H' → DkAt K C H' d r.1 → H' p = some (.lst (inV r.2)) → Q (.ref p) H'
/-- the promise of the call of number j -/
def spAn (T : List (Addr × Str)) (K : PySem.W.Frag) (C : Addr) (j : Int) : Sp := fun vs H Q _ => ∃ (d nl : Addr) (s : Option Kqz6.Desk) (zs : List Int), vs = [.ref d, .ref nl] ∧ DkAt K C H d s ∧ (j ≠ 0 → s ≠ none) ∧ SqL K H nl (inV zs) ∧ Tabs T H ∧ Kqz6Neutral.asked1 [j :: zs] = true ∧ AnK T K C d H (nst s [j :: zs]) Q
section
variable {P : Program} {w : World} {K : PySem.W.Frag} {mg : Str → Option Value} {base : Heap} {C : Addr} {T : List (Addr × Str)} {j : Int} {vs : List V} {H : Hp} {Q : VK} {E : XK}
theorem an_len (h : spAn T K C j vs H Q E) : vs.length = 2 := by
  obtain ⟨d, nl, s, zs, rfl, _⟩ := h
  rfl
/-- what stands at the beginning -/
structure AnO (T : List (Addr × Str)) (K : PySem.W.Frag) (C : Addr) (j : Int) (vs : List V) (H : Hp) (Q : VK) (d nl dx af : Addr) (v : V) (ns : List Int) (last : Option (List Nat)) (zs : List Int) : Prop where
  args : vs = [.ref d, .ref nl]
  dr : DrAt K C H d true ns (last.map up) dx af v
  ok : OkNs ns
  fit : ∀ w, last = some w → Fits ns w
  num : SqL K H nl (inV zs)
  tabs : Tabs T H
  ask : Kqz6Neutral.asked1 [j :: zs] = true
  k : AnK T K C d H (nst (some (dk ns last)) [j :: zs]) Q
theorem an_open (hj : j ≠ 0) (h : spAn T K C j vs H Q E) : ∃ d nl dx af v ns last zs, AnO T K C j vs H Q d nl dx af v ns last zs := by
  obtain ⟨d, nl, s, zs, e, hD, hs, hn, ht, ha, k⟩ := h
  cases s with
  | none => exact absurd rfl (hs hj)
  | some D =>
    obtain ⟨l, last⟩ := D
    obtain ⟨ns, e1, o, f, dx, af, v, hd⟩ := hD
    have e1 : l = ns.map dec := e1
    subst e1
    exact ⟨d, nl, dx, af, v, ns, last, zs, e, hd, o, f, hn, ht, ha, k⟩
section
variable {d nl dx af : Addr} {v : V} {ns zs : List Int} {last : Option (List Nat)}
/-- the desk stays -/
theorem AnO.stay (a : AnO T K C j vs H Q d nl dx af v ns last zs) {H' : Hp} {p : Addr} {out : List Int} (e : nst (some (dk ns last)) [j :: zs] = (some (dk ns last), out)) (s : Same H H') (hp : H' p = some (.lst (inV out))) : Q (.ref p) H' := by
  refine a.k H' p (But.of s).bx (a.tabs.ext s) ?_ ?_
  · rw [e]
    exact ⟨ns, rfl, a.ok, a.fit, dx, af, v, a.dr.same s⟩
  · rw [e]
    exact hp
theorem AnO.stayL (a : AnO T K C j vs H Q d nl dx af v ns last zs) {out : List Int} (e : nst (some (dk ns last)) [j :: zs] = (some (dk ns last), out)) : RetL H (inV out) Q := fun H' p s hp => a.stay e s hp
/-- other figures -/
theorem AnO.turn (a : AnO T K C j vs H Q d nl dx af v ns last zs) {H' : Hp} {p : Addr} {ms out : List Int} (e : nst (some (dk ns last)) [j :: zs] = (some (dk ms none), out)) (s : But d H H') (o : OkNs ms) (hD : Dr K C H' d true ms none) (hp : H' p = some (.lst (inV out))) : Q (.ref p) H' := by
  refine a.k H' p s.bx (tabs_but s a.dr.obj a.tabs) ?_ ?_
  · rw [e]
    exact ⟨ms, rfl, o, (fun w h => nomatch h), hD⟩
  · rw [e]
    exact hp
end
/-! ### start -/
theorem scSta : FnScope ["drawing", "numbers"] ["drawing", "numbers"] (defScope (topS 45)) := ⟨rfl, rfl, rfl, by decide +kernel, rfl, by decide +kernel, by decide +kernel⟩
theorem ok_sta {f fR : Addr} {fd fdR : FuncData} (F : Fun K "answer_start" "answer_start" (topS 45) f fd) (L : Kl K mg C) (FR : FnOk P w K mg base CX0 1 fR fdR ["self", "figures"] (spRed K C)) (bR : Binds K fdR ["self", "figures"] []) (mR : Meth K C "redraw" fR) :
    FnOk P w K mg base CX0 2 f fd ["drawing", "numbers"] (spAn T K C 0) := by
  refine F.ok scSta (fun vs H Q E h => an_len h) (fun cdv A outer s H vs Q E hr h => ⟨_,
      pss_cons (ps_fld (pv 0) pe_bl rfl)
      (pss_cons (ps_expr (pe_meth (pv 0) L.cl mR FR hr bR .nil pass0 (pa_cons (pe_lst pa_nil) pa_nil)))
      (pss_one (ps_ret (pe_lst (pa_cons pe_int pa_nil))))), ?_⟩)
  obtain ⟨d, nl, s0, zs, rfl, hD, _, hn, ht, ha, k⟩ := h
  have ez := sh_nil ha (by decide)
  subst ez
  rw [p_start] at k
  have hDr : ∃ on ns wy, Dr K C H d on ns wy := by
    cases s0 with
    | none => exact ⟨_, _, _, hD⟩
    | some D =>
      obtain ⟨ns, _, _, _, h⟩ := hD
      exact ⟨_, _, _, h⟩
  obtain ⟨on, ns, wy, dx, af, v, D⟩ := hDr
  refine ⟨_, rfl, d, C, dx, _, rfl, D.obj, L.cl, L.nS, (by show 3 < 1000; decide), ?_⟩
  have hd1 : upd H d (.ins C dx (putF "started" (.bl true) (dF on af v))) d = some (.ins C dx (dF true af v)) := by rw [upd_same, dF_pon]
  refine ⟨_, rfl, d, dx, _, rfl, hd1, dF_red, ?_⟩
  refine ⟨(by decide), fun l hl => ?_⟩
  have s2 : Same _ (upd (upd H d (.ins C dx (putF "started" (.bl true) (dF on af v)))) l (.lst [])) := same_upd hl
  refine ⟨d, l, dx, af, true, v, [], rfl, s2 _ _ hd1, upd_same, fun H3 b3 D3 => ⟨sz1, fun p hp => ?_⟩⟩
  have s4 : Same H3 (upd H3 p (.lst [.int 0])) := same_upd hp
  have b : But d H (upd H3 p (.lst [.int 0])) := But.upd.trans ((But.of s2).trans (b3.trans (But.of s4)))
  refine k _ p b.bx (tabs_but b D.obj ht) ⟨[], rfl, ⟨Nat.zero_le _, fun n hn => nomatch hn⟩, (fun w h => nomatch h), _, _, _, D3.same s4⟩ upd_same
/-! ### turn -/
theorem scTrn : FnScope ["drawing", "numbers"] ["drawing", "numbers"] (defScope (topS 47)) := ⟨rfl, rfl, rfl, by decide +kernel, rfl, by decide +kernel, by decide +kernel⟩
theorem ok_trn {f : Addr} {fd : FuncData} (F : Fun K "answer_turn" "answer_turn" (topS 47) f fd) (gT : ∃ t, mg "TURN" = some (.int 0 t)) (cO : Cal P w K mg base 5 "one_more_figure" ["drawing", "figure"] (spOne K C)) : FnOk P w K mg base CX0 6 f fd ["drawing", "numbers"] (spAn T K C 2) := by
  obtain ⟨t0, gT⟩ := gT
  refine F.ok scTrn (fun vs H Q E h => an_len h) (fun cdv A outer s H vs Q E hr h => ⟨_, pss_one (ps_ret (pe_k cO hr rfl (pa_cons (pv 0) (pa_cons (pe_glob (v := .int 0) rfl gT ⟨_, rfl⟩) pa_nil)))), ?_⟩)
  obtain ⟨d, nl, dx, af, v, ns, last, zs, a⟩ := an_open (by decide) h
  have ez := sh_nil a.ask (by decide)
  subst ez
  obtain rfl := a.args
  have e := p_turn (last := last) a.ok
  refine ⟨_, rfl, d, true, ns, _, 0, rfl, ⟨_, _, _, a.dr⟩, a.ok, (by decide), fun hc => ?_, fun hc H' p b D hp => ?_⟩
  · rw [if_pos hc] at e
    exact a.stayL e
  · rw [if_neg hc] at e
    exact a.turn e b (a.ok.snoc hc (by decide)) D hp
/-! ### twist -/
theorem scTwo : FnScope ["drawing", "numbers", "n"] ["drawing", "numbers"] (defScope (topS 46)) := ⟨rfl, rfl, rfl, by decide +kernel, rfl, by decide +kernel, by decide +kernel⟩
theorem ok_two {f : Addr} {fd : FuncData} (F : Fun K "answer_twist" "answer_twist" (topS 46) f fd) (nA : mg "abs" = none) (g6 : ∃ t, mg "MOST_HALF_TWISTS" = some (.int 6 t)) (g22 : ∃ t, mg "NOT_AS_TOLD" = some (.int (-22) t)) (cO : Cal P w K mg base 5 "one_more_figure" ["drawing", "figure"] (spOne K C)) :
    FnOk P w K mg base CX0 6 f fd ["drawing", "numbers"] (spAn T K C 1) := by
  obtain ⟨t6, g6⟩ := g6
  obtain ⟨t22, g22⟩ := g22
  refine F.ok scTwo (fun vs H Q E h => an_len h) (fun cdv A outer s H vs Q E hr h => ⟨_,
      pss_cons (ps_set (i := 2) scTwo.nd rfl (Or.inl rfl) (pe_ix ix_list (pv 1) pe_int (fun _ _ => rfl)))
      (pss_cons (ps_if (PW.pt (pw_or (pt_cmpR op_eq (pv 2) pe_int (nomark _)) (pw_or1 (pt_cmpR op_gt (pe_callB call_abs (by rfl) nA (by decide +kernel) (pa_cons (pv 2) pa_nil)) (pe_glob (v := .int 6) rfl g6 ⟨_, rfl⟩) (nomark _)))))
        (pss_one (ps_ret (pe_lst (pa_cons (pe_glob (v := .int (-22)) rfl g22 ⟨_, rfl⟩) pa_nil)))) pss_nil)
      (pss_one (ps_ret (pe_k cO hr rfl (pa_cons (pv 0) (pa_cons (pv 2) pa_nil)))))), ?_⟩)
  obtain ⟨d, nl, dx, af, v, ns, last, zs, a⟩ := an_open (by decide) h
  obtain ⟨n, ez, _, _⟩ := sh_1 a.ask
  subst ez
  obtain rfl := a.args
  have e := p_twist (last := last) (n := n) a.ok
  have ea := iabs_nat n
  have six (h : ¬ (n = 0 ∨ 6 < n.natAbs)) : ∀ H', Same H H' → spOne K C [.ref d, .int n] H' Q E0 := fun H' s1 => by
    rw [if_neg h] at e
    refine ⟨d, true, ns, _, n, rfl, ⟨_, _, _, a.dr.same s1⟩, a.ok, by omega, fun hc => ?_, fun hc H2 p b D hp => ?_⟩
    · rw [if_pos hc] at e
      exact (a.stayL e).same s1
    · rw [if_neg hc] at e
      exact a.turn e ((But.of s1).trans b) (a.ok.snoc hc (by omega)) D hp
  refine ⟨_, rfl, _, _, _, _, rfl, rfl, a.num, ix0, _, rfl, rfl, _, rfl, ?_⟩
  by_cases c0 : n = 0
  · rw [if_pos (.inl c0)] at e
    exact if_t (decide_eq_true (by rw [c0])) ⟨sz1, (a.stayL e).fin (Same.refl H)⟩
  · refine if_f (decide_eq_false (by simpa using c0)) ⟨_, rfl, _, rfl, _, _, rfl, rfl, _, rfl, ?_⟩
    by_cases c6 : 6 < n.natAbs
    · rw [if_pos (.inr c6)] at e
      refine if_t (decide_eq_true ?_) ⟨sz1, (a.stayL e).fin (Same.refl H)⟩
      show (6 : Int) < iabs n
      omega
    · refine if_f (decide_eq_false ?_) ⟨_, rfl, _, rfl, six (by omega) H (Same.refl H)⟩
      show ¬ (6 : Int) < iabs n
      omega
end
end Fc
end
section
set_option Elab.async false
set_option linter.all false
set_option maxRecDepth 100000
set_option maxHeartbeats 2000000
/-! off, comes, ring, crossings, figures, state, way, do, bound -/
namespace Fc
open PySem PySem.Spec PyProof.Rows L2 LamX
open Kqz1 (Frac)
open Kqz3 (Ring)
section
variable {P : Program} {w : World} {K : PySem.W.Frag} {mg : Str → Option Value} {base : Heap} {C : Addr} {T : List (Addr × Str)}
section
variable {j : Int} {vs : List V} {H : Hp} {Q : VK} {d nl dx af : Addr} {v : V} {ns zs : List Int} {last : Option (List Nat)}
theorem AnO.d_ (a : AnO T K C j vs H Q d nl dx af v ns last zs) {H' : Hp} (s : Same H H') : H' d = some (.ins C dx (dF true af v)) := s _ _ a.dr.obj
theorem AnO.f_ (a : AnO T K C j vs H Q d nl dx af v ns last zs) {H' : Hp} (s : Same H H') : H' af = some (.lst (inV ns)) := s _ _ a.dr.fig
theorem AnO.l_ (a : AnO T K C j vs H Q d nl dx af v ns last zs) {H' : Hp} (s : Same H H') : SqL K H' af (inV ns) := SqL.of (a.f_ s)
end
theorem cut_last (xs : List V) : cutV xs none (some (-1)) = xs.dropLast := by
  unfold cutV
  rw [HT.sIx_none]
  have e : HT.sIx xs.length xs.length (some (-1)) = xs.length - 1 := by
    show (if (-1 : Int) < 0 then ((-1 : Int) + (xs.length : Int)).toNat else min (-1 : Int).toNat xs.length) = _
    rw [if_pos (by omega)]
    omega
  rw [e, List.drop_zero, Nat.sub_zero, List.dropLast_eq_take]
theorem drop_inV (ns : List Int) : (inV ns).dropLast = inV ns.dropLast := by
  unfold inV
  rw [List.map_dropLast]
/-! ### comes -/
theorem scCom : FnScope ["drawing", "numbers"] ["drawing", "numbers"] (defScope (topS 49)) := ⟨rfl, rfl, rfl, by decide +kernel, rfl, by decide +kernel, by decide +kernel⟩
theorem ok_com {f : Addr} {fd : FuncData} (F : Fun K "answer_comes" "answer_comes" (topS 49) f fd) (cT : Cal P w K mg base 4 "told_fraction" ["drawing"] (spTol K C)) : FnOk P w K mg base CX0 5 f fd ["drawing", "numbers"] (spAn T K C 4) := by
  refine F.ok scCom (fun vs H Q E h => an_len h) (fun cdv A outer s H vs Q E hr h => ⟨_, pss_one (ps_ret (pe_k cT hr rfl (pa_cons (pv 0) pa_nil))), ?_⟩)
  obtain ⟨d, nl, dx, af, v, ns, last, zs, a⟩ := an_open (by decide) h
  have ez := sh_nil a.ask (by decide)
  subst ez
  obtain rfl := a.args
  exact ⟨_, rfl, d, true, ns, _, rfl, ⟨_, _, _, a.dr⟩, a.ok, a.stayL p_comes⟩
/-! ### ring -/
theorem scRng : FnScope ["drawing", "numbers"] ["drawing", "numbers"] (defScope (topS 50)) := ⟨rfl, rfl, rfl, by decide +kernel, rfl, by decide +kernel, by decide +kernel⟩
theorem wt_frac {ns : List Int} (o : OkNs ns) : wt (fracOf ns) < 1000000 := Nat.lt_of_le_of_lt (fracOf_wt o) (by decide)
theorem ok_rng {f : Addr} {fd : FuncData} (F : Fun K "answer_ring" "answer_ring" (topS 50) f fd) (L : Kl K mg C) (nL : mg "list" = none) (cF : ∀ base, Cal P w K mg base 3 "fraction_of" ["figures"] (spFro K)) (cR : ∀ base, Cal P w K mg base 2 "ring_of" ["fraction"] (spRin K)) (cN : ∀ base, Cal P w K mg base 2 "name_of" ["ring"] (spNam K)) :
    FnOk P w K mg base CX0 4 f fd ["drawing", "numbers"] (spAn T K C 5) := by
  refine F.ok scRng (fun vs H Q E h => an_len h) (fun cdv A outer s H vs Q E hr h => ⟨_, pss_one (ps_ret (pe_op op_cat (pe_lst (pa_cons pe_int pa_nil)) (pe_callTy call_list_of (by rfl) nL (by decide +kernel)
      (pa_cons (pe_k (cN _) (hr.mono (by decide)) rfl (pa_cons (pe_k (cR _) (hr.mono (by decide)) rfl (pa_cons (pe_k (cF _) hr rfl (pa_cons (pe_fld (pv 0) rfl) pa_nil)) pa_nil)) pa_nil)) pa_nil)))), ?_⟩)
  obtain ⟨d, nl, dx, af, v, ns, last, zs, a⟩ := an_open (by decide) h
  have ez := sh_nil a.ask (by decide)
  subst ez
  obtain rfl := a.args
  refine ⟨sz1, fun l hl => ?_⟩
  have s1 : Same H (upd H l (.lst [.int 0])) := same_upd hl
  refine ⟨_, rfl, d, C, dx, _, _, rfl, a.d_ s1, L.cl, L.nF, dF_fig, af, ns, rfl, a.l_ s1, a.ok.six, fun H2 t s2 ht => ?_⟩
  refine ⟨t, _, rfl, SqT.of ht, fun H3 r s3 hrr => ?_⟩
  have hrr' : H3 r = some (.tup (rV (Kqz3.ringOf (fracOf ns)))) := by rw [← ringV_is]; exact hrr
  refine ⟨r, _, rfl, SqT.of hrr', ringOf_ok (fracOf_good ns), ringP_small (wt_frac a.ok), fun H4 n s4 hn => ?_⟩
  refine ⟨n, _, rfl, .inr (SqT.of hn), fun l2 hl2 => ?_⟩
  have s5 : Same H4 (upd H4 l2 (.lst (rV (Kqz3.name (Kqz3.ringOf (fracOf ns)))))) := same_upd hl2
  have sA := (s2.trans (s3.trans (s4.trans s5)))
  exact ⟨l, l2, _, _, rfl, rfl, sA _ _ upd_same, upd_same, sz3, fun p hp => (a.stayL p_ring).fin (s1.trans sA) p hp⟩
/-! ### crossings -/
theorem scCrs : FnScope ["drawing", "numbers"] ["drawing", "numbers"] (defScope (topS 51)) := ⟨rfl, rfl, rfl, by decide +kernel, rfl, by decide +kernel, by decide +kernel⟩
theorem ok_crs {f : Addr} {fd : FuncData} (F : Fun K "answer_crossings" "answer_crossings" (topS 51) f fd) (L : Kl K mg C) (cC : ∀ base, Cal P w K mg base 1 "crossings_of" ["figures"] (spCro K)) : FnOk P w K mg base CX0 2 f fd ["drawing", "numbers"] (spAn T K C 6) := by
  refine F.ok scCrs (fun vs H Q E h => an_len h) (fun cdv A outer s H vs Q E hr h => ⟨_, pss_one (ps_ret (pe_lst (pa_cons (pe_k (cC _) hr rfl (pa_cons (pe_fld (pv 0) rfl) pa_nil)) pa_nil))), ?_⟩)
  obtain ⟨d, nl, dx, af, v, ns, last, zs, a⟩ := an_open (by decide) h
  have ez := sh_nil a.ask (by decide)
  subst ez
  obtain rfl := a.args
  have s0 := Same.refl H
  exact ⟨_, rfl, d, C, dx, _, _, rfl, a.d_ s0, L.cl, L.nF, dF_fig, af, ns, rfl, a.l_ s0, a.ok.len, fun H2 s2 => ⟨sz1, (a.stayL p_cross).fin s2⟩⟩
/-! ### off -/
theorem scOff : FnScope ["drawing", "numbers"] ["drawing", "numbers"] (defScope (topS 48)) := ⟨rfl, rfl, rfl, by decide +kernel, rfl, by decide +kernel, by decide +kernel⟩
theorem ok_off {f fR : Addr} {fd fdR : FuncData} (F : Fun K "answer_off" "answer_off" (topS 48) f fd) (L : Kl K mg C) (nN : mg "len" = none) (g6 : ∃ t, mg "NOTHING_THERE" = some (.int (-6) t)) (FR : FnOk P w K mg base CX0 1 fR fdR ["self", "figures"] (spRed K C)) (bR : Binds K fdR ["self", "figures"] []) (mR : Meth K C "redraw" fR) :
    FnOk P w K mg base CX0 2 f fd ["drawing", "numbers"] (spAn T K C 3) := by
  obtain ⟨t6, g6⟩ := g6
  refine F.ok scOff (fun vs H Q E h => an_len h) (fun cdv A outer s H vs Q E hr h => ⟨_,
      pss_cons (ps_if (pt_cmpR op_eq (pe_callB call_len_seq (by rfl) nN PySem.boot_len (pa_cons (pe_fld (pv 0) rfl) pa_nil)) pe_int (nomark _)) (pss_one (ps_ret (pe_lst (pa_cons (pe_glob (v := .int (-6)) rfl g6 ⟨_, rfl⟩) pa_nil)))) pss_nil)
      (pss_cons (ps_expr (pe_meth (pv 0) L.cl mR FR hr bR .nil pass0 (pa_cons (pe_slice sl_list (pe_fld (pv 0) rfl) po_none (po_some (pe_un un_neg pe_int))) pa_nil)))
      (pss_one (ps_ret (pe_lst (pa_cons (pe_callB call_len_seq (by rfl) nN PySem.boot_len (pa_cons (pe_fld (pv 0) rfl) pa_nil)) pa_nil))))), ?_⟩)
  obtain ⟨d, nl, dx, af, v, ns, last, zs, a⟩ := an_open (by decide) h
  have ez := sh_nil a.ask (by decide)
  subst ez
  obtain rfl := a.args
  have s0 := Same.refl H
  have e := p_off (ns := ns) (last := last)
  refine ⟨_, rfl, d, C, dx, _, _, rfl, a.d_ s0, L.cl, L.nF, dF_fig, af, _, rfl, .inl (a.l_ s0), rfl, _, rfl, ?_⟩
  by_cases c : ns.length = 0
  · rw [if_pos c] at e
    exact if_t (decide_eq_true (by rw [inV_len, c] <;> rfl)) ⟨sz1, (a.stayL e).fin s0⟩
  · rw [if_neg c] at e
    have ci : ¬ V.int ((inV ns).length : Int) = V.int 0 := by
      rw [inV_len, V.int.injEq]
      omega
    refine if_f (decide_eq_false ci) ⟨_, rfl, d, dx, _, rfl, a.d_ s0, dF_red, ?_⟩
    refine ⟨_, rfl, d, C, dx, _, _, rfl, a.d_ s0, L.cl, L.nF, dF_fig, _, rfl, _, rfl, af, _, rfl, a.l_ s0, fun p hp => ?_⟩
    rw [cut_last, drop_inV]
    have s1 : Same H (upd H p (.lst (inV ns.dropLast))) := same_upd hp
    refine ⟨d, p, dx, af, true, v, ns.dropLast, rfl, a.d_ s1, upd_same, fun H3 b3 D3 => ?_⟩
    refine ⟨_, rfl, d, C, dx, _, _, rfl, D3.obj, L.cl, L.nF, dF_fig, p, _, rfl, .inl (SqL.of D3.fig), sz1, fun q hq => ?_⟩
    have s4 : Same H3 (upd H3 q (.lst [.int ((inV ns.dropLast).length : Int)])) := same_upd hq
    refine a.turn e ((But.of s1).trans (b3.trans (But.of s4))) ⟨?_, fun n hn => a.ok.six n (List.mem_of_mem_take (by rw [List.dropLast_eq_take] at hn; exact hn))⟩ ⟨_, _, _, D3.same s4⟩ ?_
    · have := a.ok.len
      rw [List.length_dropLast]
      omega
    · rw [upd_same, inV_len]
      rfl
/-! ### figures -/
theorem scFig : FnScope ["drawing", "numbers"] ["drawing", "numbers"] (defScope (topS 65)) := ⟨rfl, rfl, rfl, by decide +kernel, rfl, by decide +kernel, by decide +kernel⟩
theorem ok_fig {f : Addr} {fd : FuncData} (F : Fun K "answer_figures" "answer_figures" (topS 65) f fd) (L : Kl K mg C) (nN : mg "len" = none) : FnOk P w K mg base CX0 1 f fd ["drawing", "numbers"] (spAn T K C 19) := by
  refine F.ok scFig (fun vs H Q E h => an_len h) (fun cdv A outer s H vs Q E hr h => ⟨_, pss_one (ps_ret (pe_op op_cat (pe_lst (pa_cons (pe_callB call_len_seq (by rfl) nN PySem.boot_len (pa_cons (pe_fld (pv 0) rfl) pa_nil)) pa_nil)) (pe_fld (pv 0) rfl))), ?_⟩)
  obtain ⟨d, nl, dx, af, v, ns, last, zs, a⟩ := an_open (by decide) h
  have ez := sh_nil a.ask (by decide)
  subst ez
  obtain rfl := a.args
  have s0 := Same.refl H
  refine ⟨_, rfl, d, C, dx, _, _, rfl, a.d_ s0, L.cl, L.nF, dF_fig, af, _, rfl, .inl (a.l_ s0), sz1, fun l hl => ?_⟩
  rw [inV_len]
  have s1 : Same H (upd H l (.lst [.int (ns.length : Int)])) := same_upd hl
  refine ⟨_, rfl, d, C, dx, _, _, rfl, a.d_ s1, L.cl, L.nF, dF_fig, l, af, _, _, rfl, rfl, upd_same, a.f_ s1, ?_, fun p hp => (a.stayL p_figs).fin s1 p hp⟩
  have := a.ok.len
  have : sizeLine = 16777216 := sizeLine_eq
  rw [inV_len]
  show 1 + ns.length ≤ _
  omega
/-! ### state -/
theorem wy_non {H : Hp} {v : V} {o : Option (List Nat)} (h : WyAt K H v (o.map up)) : decide (v = V.non) = decide (o = none) := by
  cases o with
  | none =>
    have e : v = .non := h
    rw [e]
    rfl
  | some w =>
    obtain ⟨aw, e, _⟩ := h
    rw [e]
    rfl
theorem scSte : FnScope ["drawing", "numbers", "kept"] ["drawing", "numbers"] (defScope (topS 66)) := ⟨rfl, rfl, rfl, by decide +kernel, rfl, by decide +kernel, by decide +kernel⟩
theorem ok_ste {f : Addr} {fd : FuncData} (F : Fun K "answer_state" "answer_state" (topS 66) f fd) (L : Kl K mg C) (nN : mg "len" = none) (cC : ∀ base, Cal P w K mg base 1 "crossings_of" ["figures"] (spCro K)) : FnOk P w K mg base CX0 2 f fd ["drawing", "numbers"] (spAn T K C 20) := by
  refine F.ok scSte (fun vs H Q E h => an_len h) (fun cdv A outer s H vs Q E hr h => ⟨_,
      pss_cons (ps_set (i := 2) scSte.nd rfl (Or.inl rfl) (pe_ifExp (pt_cmpR op_isN (pe_fld (pv 0) rfl) pe_non (nomark _)) pe_int pe_int))
      (pss_one (ps_ret (pe_lst (pa_cons (pe_callB call_len_seq (by rfl) nN PySem.boot_len (pa_cons (pe_fld (pv 0) rfl) pa_nil)) (pa_cons (pe_k (cC _) hr rfl (pa_cons (pe_fld (pv 0) rfl) pa_nil)) (pa_cons (pv 2) pa_nil)))))), ?_⟩)
  obtain ⟨d, nl, dx, af, v, ns, last, zs, a⟩ := an_open (by decide) h
  have ez := sh_nil a.ask (by decide)
  subst ez
  obtain rfl := a.args
  have s0 := Same.refl H
  have e := p_state (ns := ns) (last := last)
  refine ⟨_, rfl, d, C, dx, _, _, rfl, a.d_ s0, L.cl, L.nW, dF_way, rfl, _, rfl, ?_⟩
  have hv := wy_non a.dr.way
  rw [hv]
  have fin : ∀ z : Int, (z = if last = none then 0 else 1) → tRet (tLst (tCons (tCB (fun xs H Q => ∃ p ys, xs = [.ref p] ∧ (SqL K H p ys ∨ SqT K H p ys) ∧ Q (.int ys.length) H) (tCons (tFld K (tVar 0) "figures") tNil)) (tCons (tK (spCro K) (tCons (tFld K (tVar 0) "figures") tNil)) (tCons (tVar 2) tNil)))) { nx := fun _ H' => Q .non H', rt := Q } [some (.ref d), some (.ref nl), some (.int z)] H := by
    intro z hz
    refine ⟨_, rfl, d, C, dx, _, _, rfl, a.d_ s0, L.cl, L.nF, dF_fig, af, _, rfl, .inl (a.l_ s0), ?_⟩
    rw [inV_len]
    refine ⟨_, rfl, d, C, dx, _, _, rfl, a.d_ s0, L.cl, L.nF, dF_fig, af, ns, rfl, a.l_ s0, a.ok.len, fun H2 s2 => ⟨_, rfl, sz3, ?_⟩⟩
    rw [← hz] at e
    exact (a.stayL e).fin s2
  by_cases c : last = none
  · refine if_t (decide_eq_true c) (fin 0 ?_)
    rw [if_pos c]
  · refine if_f (decide_eq_false c) (fin 1 ?_)
    rw [if_neg c]
end
end Fc
end
section
set_option Elab.async false
set_option linter.all false
set_option maxRecDepth 100000
set_option maxHeartbeats 2000000
/-! change, way, do, bound, ways, rings -/
namespace Fc
open PySem PySem.Spec PyProof.Rows L2 LamX
open Kqz1 (Frac)
open Kqz3 (Ring)
theorem comes_made (ns : List Int) (w : List Nat) : Kqz1.comes (Kqz6.made (ns.map dec) w) = fracOf (changedRow ns (up w)) := by rw [← comes_settle, ← row_is, comes_is]
theorem frac_mem {ns : List Int} (o : OkNs ns) {t : Nat} : ∀ f ∈ fracsX ns (t : Int), Good f ∧ wt f < 1000000 := by
  intro f hf
  unfold fracsX at hf
  rw [waysX_is, List.map_map] at hf
  obtain ⟨w, hw, e⟩ := List.mem_map.mp hf
  have e : Kqz1.comes (Kqz6.made (ns.map dec) w) = f := e
  rw [comes_made] at e
  obtain ⟨ft, _⟩ := mem_which ns t w hw
  rw [← e]
  exact ⟨fracOf_good _, wt_frac (o.row ft)⟩
theorem flatR_len : ∀ rs : List Ring, (flatR rs).length = 2 * rs.length
  | [] => rfl
  | r :: l => by
    have ih := flatR_len l
    have e : flatR (r :: l) = (r.p : Int) :: (r.q : Int) :: flatR l := rfl
    rw [e, List.length_cons, List.length_cons, List.length_cons, ih]
    omega
theorem flatR_snoc (rs : List Ring) (r : Ring) : flatR (rs ++ [r]) = flatR rs ++ [(r.p : Int), (r.q : Int)] := by
  unfold flatR
  rw [List.flatMap_append]
  rfl
section
variable {P : Program} {w : World} {K : PySem.W.Frag} {mg : Str → Option Value} {base : Heap} {C : Addr} {T : List (Addr × Str)}
/-! ### ways -/
theorem scWys : FnScope ["drawing", "numbers", "t"] ["drawing", "numbers"] (defScope (topS 59)) := ⟨rfl, rfl, rfl, by decide +kernel, rfl, by decide +kernel, by decide +kernel⟩
theorem ok_wys {f : Addr} {fd : FuncData} (F : Fun K "answer_ways" "answer_ways" (topS 59) f fd) (L : Kl K mg C) (nN : mg "len" = none) (g4 : ∃ t, mg "MOST_CHANGES" = some (.int 4 t)) (g22 : ∃ t, mg "NOT_AS_TOLD" = some (.int (-22) t)) (cB : ∀ base, Cal P w K mg base 5 "fractions_by_ways" ["figures", "t"] (spFbw K)) :
    FnOk P w K mg base CX0 6 f fd ["drawing", "numbers"] (spAn T K C 13) := by
  obtain ⟨t4, g4⟩ := g4
  obtain ⟨t22, g22⟩ := g22
  refine F.ok scWys (fun vs H Q E h => an_len h) (fun cdv A outer s H vs Q E hr h => ⟨_,
      pss_cons (ps_set (i := 2) scWys.nd rfl (Or.inl rfl) (pe_ix ix_list (pv 1) pe_int (fun _ _ => rfl)))
      (pss_cons (ps_if (pt_cmpR op_gt (pv 2) (pe_glob (v := .int 4) rfl g4 ⟨_, rfl⟩) (nomark _)) (pss_one (ps_ret (pe_lst (pa_cons (pe_glob (v := .int (-22)) rfl g22 ⟨_, rfl⟩) pa_nil)))) pss_nil)
      (pss_one (ps_ret (pe_lst (pa_cons (pe_callB call_len_seq (by rfl) nN PySem.boot_len (pa_cons (pe_k (cB _) hr rfl (pa_cons (pe_fld (pv 0) rfl) (pa_cons (pv 2) pa_nil))) pa_nil)) pa_nil))))), ?_⟩)
  obtain ⟨d, nl, dx, af, v, ns, last, zs, a⟩ := an_open (by decide) h
  obtain ⟨t, ez, _⟩ := sh_t a.ask (.inl rfl)
  subst ez
  obtain rfl := a.args
  have s0 := Same.refl H
  have e := p_ways (ns := ns) (last := last) (t := t)
  refine ⟨_, rfl, _, _, _, _, rfl, rfl, a.num, ix0, _, rfl, _, _, rfl, rfl, _, rfl, ?_⟩
  by_cases c : 4 < t
  · rw [if_pos c] at e
    exact if_t (decide_eq_true (by omega)) ⟨sz1, (a.stayL e).fin s0⟩
  · rw [if_neg c] at e
    refine if_f (decide_eq_false (by omega)) ⟨_, rfl, d, C, dx, _, _, rfl, a.d_ s0, L.cl, L.nF, dF_fig, _, rfl, af, ns, t, rfl, a.l_ s0, a.ok, by omega, fun H1 B s1 hB => ?_⟩
    obtain ⟨as, hA, hP⟩ := hB
    have lab : as.length = (waysX ns (t : Int)).length := by
      rw [Paired.length hP]
      exact List.length_map _
    refine ⟨B, _, rfl, .inl hA, sz1, fun p hp => ?_⟩
    rw [List.length_map, lab]
    exact (a.stayL e).fin s1 p hp
/-! ### rings -/
theorem scRgs : FnScope ["drawing", "numbers", "t", "names", "told", "name"] ["drawing", "numbers"] (defScope (topS 61)) := ⟨rfl, rfl, rfl, by decide +kernel, rfl, by decide +kernel, by decide +kernel⟩
theorem ok_rgs {f : Addr} {fd : FuncData} (F : Fun K "answer_rings" "answer_rings" (topS 61) f fd) (L : Kl K mg C) (nN : mg "len" = none) (nL : mg "list" = none) (g4 : ∃ t, mg "MOST_CHANGES" = some (.int 4 t)) (g22 : ∃ t, mg "NOT_AS_TOLD" = some (.int (-22) t)) (cB : ∀ base, Cal P w K mg base 5 "fractions_by_ways" ["figures", "t"] (spFbw K))
    (cN : ∀ base, Cal P w K mg base 3 "names_of" ["fractions"] (spNms K)) : FnOk P w K mg base CX0 6 f fd ["drawing", "numbers"] (spAn T K C 15) := by
  obtain ⟨t4, g4⟩ := g4
  obtain ⟨t22, g22⟩ := g22
  refine F.ok scRgs (fun vs H Q E h => an_len h) (fun cdv A outer s H vs Q E hr h => ⟨_,
      pss_cons (ps_set (i := 2) scRgs.nd rfl (Or.inl rfl) (pe_ix ix_list (pv 1) pe_int (fun _ _ => rfl)))
      (pss_cons (ps_if (pt_cmpR op_gt (pv 2) (pe_glob (v := .int 4) rfl g4 ⟨_, rfl⟩) (nomark _)) (pss_one (ps_ret (pe_lst (pa_cons (pe_glob (v := .int (-22)) rfl g22 ⟨_, rfl⟩) pa_nil)))) pss_nil)
      (pss_cons (ps_set (i := 3) scRgs.nd rfl (Or.inl rfl) (pe_k (cN _) (hr.mono (by decide)) rfl (pa_cons (pe_k (cB _) hr rfl (pa_cons (pe_fld (pv 0) rfl) (pa_cons (pv 2) pa_nil))) pa_nil)))
      (pss_cons (ps_set (i := 4) scRgs.nd rfl (Or.inl rfl) (pe_lst (pa_cons (pe_callB call_len_seq (by rfl) nN PySem.boot_len (pa_cons (pv 3) pa_nil)) pa_nil)))
      (pss_cons (ps_for PassesOwn.never rfl (pi_list (pv 3)) (pg_name (i := 5) scRgs.nd rfl (Or.inl rfl))
        (pss_one (ps_expr (pe_bm PySem.F.plainAttrs_list PySem.F.slot_list_extend PySem.F.type_list_extend mt_extend (pv 4) (pa_cons (pe_callTy call_list_of (by rfl) nL (by decide +kernel) (pa_cons (pv 5) pa_nil)) pa_nil)))))
      (pss_one (ps_ret (pv 4))))))), ?_⟩)
  obtain ⟨d, nl, dx, af, v, ns, last, zs, a⟩ := an_open (by decide) h
  obtain ⟨t, ez, _⟩ := sh_t a.ask (.inr (.inr rfl))
  subst ez
  obtain rfl := a.args
  have s0 := Same.refl H
  have e := p_rings (ns := ns) (last := last) (t := t)
  refine ⟨_, rfl, _, _, _, _, rfl, rfl, a.num, ix0, _, rfl, _, _, rfl, rfl, _, rfl, ?_⟩
  by_cases c : 4 < t
  · rw [if_pos c] at e
    exact if_t (decide_eq_true (by omega)) ⟨sz1, (a.stayL e).fin s0⟩
  · rw [if_neg c] at e
    have l715 := waysX_715 a.ok (t := t) (by omega)
    refine if_f (decide_eq_false (by omega)) ⟨_, rfl, d, C, dx, _, _, rfl, a.d_ s0, L.cl, L.nF, dF_fig, _, rfl, af, ns, t, rfl, a.l_ s0, a.ok, by omega, fun H1 B s1 hB => ?_⟩
    refine ⟨B, fracsX ns (t : Int), rfl, hB, frac_mem a.ok, ?_, fun H2 N s2 hN => ?_⟩
    · unfold fracsX
      rw [List.length_map]
      omega
    · obtain ⟨as, hA, hP⟩ := hN
      have lab := Paired.length hP
      have e0 : dedup ((fracsX ns (t : Int)).map nameF) = dedup (((waysX ns (t : Int)).map fun b => b.2).map fun f => Kqz3.name (Kqz3.ringOf f)) := rfl
      rw [← e0] at e
      have l2 : (dedup ((fracsX ns (t : Int)).map nameF)).length ≤ 715 := by
        refine Nat.le_trans (dedup_len _) ?_
        rw [List.length_map]
        unfold fracsX
        rw [List.length_map]
        exact l715
      generalize dedup ((fracsX ns (t : Int)).map nameF) = rs at e hP lab l2
      refine ⟨_, rfl, N, _, rfl, .inl hA, sz1, fun D hD => ?_⟩
      have s3 : Same H2 (upd H2 D (.lst [.int ((as.map V.ref).length : Int)])) := same_upd hD
      rw [List.length_map, lab] at s3 ⊢
      refine ⟨_, rfl, N, rfl, ⟨_, s3.seq hA⟩, for_list (K := K) (a := N) (xs := as.map V.ref) (fun i σ H' => ∃ v5 : Option V, σ = [some (.ref d), some (.ref nl), some (.int (t : Int)), some (.ref N), some (.ref D), v5] ∧ Same H2 H' ∧ H' D = some (.lst (inV ((rs.length : Int) :: flatR (rs.take i)))))
        ⟨none, rfl, s3, upd_same⟩ (fun i σ H' _ ⟨_, _, s4, _⟩ => s4.seq hA) ?_ ?_⟩
      · rintro i x σ H' hx ⟨v5, rfl, s4, hD1⟩
        obtain ⟨b, hb, rfl⟩ := ref_at hx
        obtain ⟨r, hr2, hR⟩ := paired_at hP hb
        refine ⟨_, rfl, .inl ⟨rfl, _, SqL.of hD1⟩, _, rfl, b, _, rfl, .inr (s4.sqT hR), fun l hl => ?_⟩
        have s5 : Same H' (upd H' l (.lst (rV r))) := same_upd hl
        refine ⟨D, l, _, _, rfl, rfl, s5 _ _ hD1, upd_same, ?_, some (.ref b), rfl, Same.grow (s4.trans s5) hD, ?_⟩
        · rw [inV_len, List.length_cons, flatR_len, List.length_take]
          have : sizeLine = 16777216 := sizeLine_eq
          show _ + 1 + 2 ≤ _
          omega
        · rw [upd_same, take_snoc hr2, flatR_snoc]
          unfold inV
          rw [← List.cons_append, List.map_append]
          rfl
      · rintro σ H' ⟨v5, rfl, s4, hD1⟩
        rw [List.length_map, lab, List.take_length] at hD1
        exact ⟨_, rfl, a.stayL e H' D (s1.trans (s2.trans s4)) hD1⟩
/-! ### way -/
theorem scWay : FnScope ["drawing", "numbers"] ["drawing", "numbers"] (defScope (topS 62)) := ⟨rfl, rfl, rfl, by decide +kernel, rfl, by decide +kernel, by decide +kernel⟩
theorem ok_way {f : Addr} {fd : FuncData} (F : Fun K "answer_way" "answer_way" (topS 62) f fd) (L : Kl K mg C) (nN : mg "len" = none) (nL : mg "list" = none) (g6 : ∃ t, mg "NOTHING_THERE" = some (.int (-6) t)) : FnOk P w K mg base CX0 1 f fd ["drawing", "numbers"] (spAn T K C 16) := by
  obtain ⟨t6, g6⟩ := g6
  refine F.ok scWay (fun vs H Q E h => an_len h) (fun cdv A outer s H vs Q E hr h => ⟨_,
      pss_cons (ps_if (pt_cmpR op_isN (pe_fld (pv 0) rfl) pe_non (nomark _)) (pss_one (ps_ret (pe_lst (pa_cons (pe_glob (v := .int (-6)) rfl g6 ⟨_, rfl⟩) pa_nil)))) pss_nil)
      (pss_one (ps_ret (pe_op op_cat (pe_lst (pa_cons (pe_callB call_len_seq (by rfl) nN PySem.boot_len (pa_cons (pe_fld (pv 0) rfl) pa_nil)) pa_nil)) (pe_callTy call_list_of (by rfl) nL (by decide +kernel) (pa_cons (pe_fld (pv 0) rfl) pa_nil))))), ?_⟩)
  obtain ⟨d, nl, dx, af, v, ns, last, zs, a⟩ := an_open (by decide) h
  have ez := sh_nil a.ask (by decide)
  subst ez
  obtain rfl := a.args
  have s0 := Same.refl H
  have e := p_way (ns := ns) (last := last)
  refine ⟨_, rfl, d, C, dx, _, _, rfl, a.d_ s0, L.cl, L.nW, dF_way, rfl, _, rfl, ?_⟩
  rw [wy_non a.dr.way]
  cases last with
  | none => exact if_t rfl ⟨sz1, (a.stayL e).fin s0⟩
  | some wy =>
    obtain ⟨aw, ev, hw⟩ := a.dr.way
    subst ev
    refine if_f rfl ⟨_, rfl, d, C, dx, _, _, rfl, a.d_ s0, L.cl, L.nW, dF_way, aw, _, rfl, .inr hw, sz1, fun l hl => ?_⟩
    have s1 : Same H (upd H l (.lst [.int ((inV (up wy)).length : Int)])) := same_upd hl
    refine ⟨_, rfl, d, C, dx, _, _, rfl, a.d_ s1, L.cl, L.nW, dF_way, aw, _, rfl, .inr (s1.sqT hw), fun l2 hl2 => ?_⟩
    have s2 : Same _ (upd (upd H l (.lst [.int ((inV (up wy)).length : Int)])) l2 (.lst (inV (up wy)))) := same_upd hl2
    refine ⟨l, l2, _, _, rfl, rfl, s2 _ _ upd_same, upd_same, ?_, fun p hp => ?_⟩
    · have := a.ok.len
      have := (a.fit wy rfl).len
      have : sizeLine = 16777216 := sizeLine_eq
      rw [inV_len, List.length_map]
      show 1 + wy.length ≤ _
      omega
    · have := (a.stayL e).fin (s1.trans s2) p hp
      rw [inV_len, List.length_map] at this ⊢
      exact this
/-! ### do -/
theorem scDo : FnScope ["drawing", "numbers"] ["drawing", "numbers"] (defScope (topS 63)) := ⟨rfl, rfl, rfl, by decide +kernel, rfl, by decide +kernel, by decide +kernel⟩
theorem ok_do {f fR : Addr} {fd fdR : FuncData} (F : Fun K "answer_do" "answer_do" (topS 63) f fd) (L : Kl K mg C) (g6 : ∃ t, mg "NOTHING_THERE" = some (.int (-6) t)) (FR : FnOk P w K mg base CX0 1 fR fdR ["self", "figures"] (spRed K C)) (bR : Binds K fdR ["self", "figures"] []) (mR : Meth K C "redraw" fR)
    (cW : ∀ base, Cal P w K mg base 2 "changed_row" ["figures", "way"] (spCrw K)) (cT : Cal P w K mg base 4 "told_fraction" ["drawing"] (spTol K C)) : FnOk P w K mg base CX0 5 f fd ["drawing", "numbers"] (spAn T K C 17) := by
  obtain ⟨t6, g6⟩ := g6
  refine F.ok scDo (fun vs H Q E h => an_len h) (fun cdv A outer s H vs Q E hr h => ⟨_,
      pss_cons (ps_if (pt_cmpR op_isN (pe_fld (pv 0) rfl) pe_non (nomark _)) (pss_one (ps_ret (pe_lst (pa_cons (pe_glob (v := .int (-6)) rfl g6 ⟨_, rfl⟩) pa_nil)))) pss_nil)
      (pss_cons (ps_expr (pe_meth (pv 0) L.cl mR FR (hr.mono (by decide)) bR .nil pass0 (pa_cons (pe_k (cW _) (hr.mono (by decide)) rfl (pa_cons (pe_fld (pv 0) rfl) (pa_cons (pe_fld (pv 0) rfl) pa_nil))) pa_nil)))
      (pss_one (ps_ret (pe_k cT hr rfl (pa_cons (pv 0) pa_nil))))), ?_⟩)
  obtain ⟨d, nl, dx, af, v, ns, last, zs, a⟩ := an_open (by decide) h
  have ez := sh_nil a.ask (by decide)
  subst ez
  obtain rfl := a.args
  have s0 := Same.refl H
  have e := p_do (ns := ns) (last := last)
  refine ⟨_, rfl, d, C, dx, _, _, rfl, a.d_ s0, L.cl, L.nW, dF_way, rfl, _, rfl, ?_⟩
  rw [wy_non a.dr.way]
  cases last with
  | none => exact if_t rfl ⟨sz1, (a.stayL e).fin s0⟩
  | some wy =>
    obtain ⟨aw, ev, hw⟩ := a.dr.way
    subst ev
    have ft := a.fit wy rfl
    refine if_f rfl ⟨_, rfl, d, dx, _, rfl, a.d_ s0, dF_red, ?_⟩
    refine ⟨_, rfl, d, C, dx, _, _, rfl, a.d_ s0, L.cl, L.nF, dF_fig, _, rfl, d, C, dx, _, _, rfl, a.d_ s0, L.cl, L.nW, dF_way, af, aw, ns, up wy, rfl, a.l_ s0, .inr hw, ?_, a.ok.len, fun H1 p s1 hp => ?_⟩
    · rw [ft.len, List.length_map]
    · refine ⟨d, p, dx, af, true, _, _, rfl, a.d_ s1, hp, fun H3 b3 D3 => ?_⟩
      refine ⟨_, rfl, d, true, _, none, rfl, ⟨_, _, _, D3⟩, a.ok.row ft, fun H4 q s4 hq => ?_⟩
      exact a.turn e ((But.of s1).trans (b3.trans (But.of s4))) (a.ok.row ft) ⟨_, _, _, D3.same s4⟩ hq
/-! ### bound -/
theorem scBnd : FnScope ["drawing", "numbers", "ring"] ["drawing", "numbers"] (defScope (topS 64)) := ⟨rfl, rfl, rfl, by decide +kernel, rfl, by decide +kernel, by decide +kernel⟩
theorem ok_bnd {f : Addr} {fd : FuncData} (F : Fun K "answer_bound" "answer_bound" (topS 64) f fd) (L : Kl K mg C) (cF : ∀ base, Cal P w K mg base 3 "fraction_of" ["figures"] (spFro K)) (cR : ∀ base, Cal P w K mg base 2 "ring_of" ["fraction"] (spRin K)) (cU : ∀ base, Cal P w K mg base 3 "is_undone_by_one" ["ring"] (spUnd K)) :
    FnOk P w K mg base CX0 4 f fd ["drawing", "numbers"] (spAn T K C 18) := by
  refine F.ok scBnd (fun vs H Q E h => an_len h) (fun cdv A outer s H vs Q E hr h => ⟨_,
      pss_cons (ps_set (i := 2) scBnd.nd rfl (Or.inl rfl) (pe_k (cR _) (hr.mono (by decide)) rfl (pa_cons (pe_k (cF _) hr rfl (pa_cons (pe_fld (pv 0) rfl) pa_nil)) pa_nil)))
      (pss_cons (ps_if (pt_cmpR op_eq (pe_ix ix_tup (pv 2) pe_int (fun _ _ => rfl)) pe_int (nomark _)) (pss_one (ps_ret (pe_lst (pa_cons pe_int pa_nil)))) pss_nil)
      (pss_cons (ps_if (pt_val (pe_k (cU _) hr rfl (pa_cons (pv 2) pa_nil))) (pss_one (ps_ret (pe_lst (pa_cons pe_int pa_nil)))) pss_nil)
      (pss_one (ps_ret (pe_lst (pa_cons pe_int pa_nil)))))), ?_⟩)
  obtain ⟨d, nl, dx, af, v, ns, last, zs, a⟩ := an_open (by decide) h
  have ez := sh_nil a.ask (by decide)
  subst ez
  obtain rfl := a.args
  have s0 := Same.refl H
  have e := p_bound (ns := ns) (last := last)
  refine ⟨_, rfl, d, C, dx, _, _, rfl, a.d_ s0, L.cl, L.nF, dF_fig, af, ns, rfl, a.l_ s0, a.ok.six, fun H1 t s1 ht => ?_⟩
  refine ⟨t, _, rfl, SqT.of ht, fun H2 r s2 hr2 => ?_⟩
  have hr3 : H2 r = some (.tup (rV (Kqz3.ringOf (fracOf ns)))) := by rw [← ringV_is]; exact hr2
  refine ⟨_, rfl, _, _, _, _, rfl, rfl, SqT.of hr3, rat0, rfl, _, rfl, ?_⟩
  have s12 := s1.trans s2
  by_cases c : (Kqz3.ringOf (fracOf ns)).p = 1
  · rw [if_pos c] at e
    exact if_t (decide_eq_true (by rw [c] <;> rfl)) ⟨sz1, (a.stayL e).fin s12⟩
  · rw [if_neg c] at e
    have ci : ¬ V.int ((Kqz3.ringOf (fracOf ns)).p : Int) = V.int 1 := by
      rw [V.int.injEq]
      omega
    refine if_f (decide_eq_false ci) ⟨_, rfl, r, _, rfl, SqT.of hr3, ringOf_ok (fracOf_good ns), ringP_small (wt_frac a.ok), fun H3 s3 => ⟨_, rfl, ?_⟩⟩
    by_cases c2 : onceX (Kqz3.ringOf (fracOf ns)) = true
    · rw [if_pos c2] at e
      exact if_t c2 ⟨sz1, (a.stayL e).fin (s12.trans s3)⟩
    · rw [if_neg c2] at e
      exact if_f (by simpa using c2) ⟨sz1, (a.stayL e).fin (s12.trans s3)⟩
end
end Fc
end
section
set_option Elab.async false
set_option linter.all false
set_option maxRecDepth 100000
set_option maxHeartbeats 2000000
/-! change -/
namespace Fc
open PySem PySem.Spec PyProof.Rows L2 LamX
open Kqz1 (Frac)
open Kqz3 (Ring)
theorem zeros (n : Nat) : (List.replicate n [V.int 0]).flatten = inV (up (List.replicate n 0)) := by
  induction n with
  | zero => rfl
  | succ n ih =>
    rw [List.replicate_succ, List.flatten_cons, ih]
    rfl
theorem zeros_set (n i k : Nat) : (inV (up (List.replicate n 0))).set i (V.int (k : Int)) = inV (up (oneWay n i k)) := by
  unfold oneWay up inV
  rw [List.map_set, List.map_set]
section
variable {P : Program} {w : World} {K : PySem.W.Frag} {mg : Str → Option Value} {base : Heap} {C : Addr} {T : List (Addr × Str)}
theorem scChn : FnScope ["drawing", "numbers", "i", "k", "way"] ["drawing", "numbers"] (defScope (topS 52)) := ⟨rfl, rfl, rfl, by decide +kernel, rfl, by decide +kernel, by decide +kernel⟩
theorem ok_chn {f fR : Addr} {fd fdR : FuncData} (F : Fun K "answer_change" "answer_change" (topS 52) f fd) (L : Kl K mg C) (nN : mg "len" = none) (nA : mg "abs" = none) (g2 : ∃ t, mg "NO_SUCH_FIGURE" = some (.int (-2) t)) (g22 : ∃ t, mg "NOT_AS_TOLD" = some (.int (-22) t)) (FR : FnOk P w K mg base CX0 1 fR fdR ["self", "figures"] (spRed K C)) (bR : Binds K fdR ["self", "figures"] []) (mR : Meth K C "redraw" fR)
    (cW : ∀ base, Cal P w K mg base 2 "changed_row" ["figures", "way"] (spCrw K)) (cT : Cal P w K mg base 4 "told_fraction" ["drawing"] (spTol K C)) : FnOk P w K mg base CX0 5 f fd ["drawing", "numbers"] (spAn T K C 7) := by
  obtain ⟨t2, g2⟩ := g2
  obtain ⟨t22, g22⟩ := g22
  refine F.ok scChn (fun vs H Q E h => an_len h) (fun cdv A outer s H vs Q E hr h => ⟨_,
      pss_cons (ps_set (i := 2) scChn.nd rfl (Or.inl rfl) (pe_ix ix_list (pv 1) pe_int (fun _ _ => rfl)))
      (pss_cons (ps_set (i := 3) scChn.nd rfl (Or.inl rfl) (pe_ix ix_list (pv 1) pe_int (fun _ _ => rfl)))
      (pss_cons (ps_if (pt_cmpR op_ge (pv 2) (pe_callB call_len_seq (by rfl) nN PySem.boot_len (pa_cons (pe_fld (pv 0) rfl) pa_nil)) (nomark _)) (pss_one (ps_ret (pe_lst (pa_cons (pe_glob (v := .int (-2)) rfl g2 ⟨_, rfl⟩) pa_nil)))) pss_nil)
      (pss_cons (ps_if (pt_cmpR op_gt (pv 3) (pe_callB call_abs (by rfl) nA (by decide +kernel) (pa_cons (pe_ix ix_list (pe_fld (pv 0) rfl) (pv 2) (fun _ _ => rfl)) pa_nil)) (nomark _)) (pss_one (ps_ret (pe_lst (pa_cons (pe_glob (v := .int (-22)) rfl g22 ⟨_, rfl⟩) pa_nil)))) pss_nil)
      (pss_cons (ps_set (i := 4) scChn.nd rfl (Or.inl rfl) (pe_op op_rep (pe_lst (pa_cons pe_int pa_nil)) (pe_callB call_len_seq (by rfl) nN PySem.boot_len (pa_cons (pe_fld (pv 0) rfl) pa_nil))))
      (pss_cons (ps_asg (pv 3) (pg_sub (pv 4) (pv 2) set_list))
      (pss_cons (ps_expr (pe_meth (pv 0) L.cl mR FR (hr.mono (by decide)) bR .nil pass0 (pa_cons (pe_k (cW _) (hr.mono (by decide)) rfl (pa_cons (pe_fld (pv 0) rfl) (pa_cons (pv 4) pa_nil))) pa_nil)))
      (pss_one (ps_ret (pe_k cT hr rfl (pa_cons (pv 0) pa_nil)))))))))), ?_⟩)
  obtain ⟨d, nl, dx, af, v, ns, last, zs, a⟩ := an_open (by decide) h
  obtain ⟨i, k, ez, _, _⟩ := sh_nn a.ask (.inl rfl)
  subst ez
  obtain rfl := a.args
  have s0 := Same.refl H
  have e := p_change (ns := ns) (last := last) (i := i) (k := k)
  refine ⟨_, rfl, _, _, _, _, rfl, rfl, a.num, ix0, ?_⟩
  refine ⟨_, rfl, _, _, _, _, rfl, rfl, a.num, ix1, ?_⟩
  refine ⟨_, rfl, _, rfl, d, C, dx, _, _, rfl, a.d_ s0, L.cl, L.nF, dF_fig, af, _, rfl, .inl (a.l_ s0), _, _, rfl, rfl, _, rfl, ?_⟩
  rw [inV_len]
  cases hi : ns[i]? with
  | none =>
    rw [hi] at e
    have q := List.getElem?_eq_none_iff.mp hi
    exact if_t (decide_eq_true (by omega)) ⟨sz1, (a.stayL e).fin s0⟩
  | some n =>
    rw [hi] at e
    dsimp only at e
    have q := (List.getElem?_eq_some_iff.mp hi).1
    refine if_f (decide_eq_false (by omega)) ⟨_, rfl, _, rfl, d, C, dx, _, _, rfl, a.d_ s0, L.cl, L.nF, dF_fig, _, rfl, _, _, _, V.int n, rfl, rfl, a.l_ s0, ?_, _, rfl, _, _, rfl, rfl, _, rfl, ?_⟩
    · refine atn ?_
      unfold inV
      rw [List.getElem?_map, hi]
      rfl
    · have en := iabs_nat n
      by_cases c : n.natAbs < k
      · rw [if_pos c] at e
        refine if_t (decide_eq_true ?_) ⟨sz1, (a.stayL e).fin s0⟩
        show iabs n < (k : Int)
        omega
      · rw [if_neg c] at e
        have l10 := a.ok.len
        have ft := fits_one ns i k n hi (by omega)
        refine if_f (decide_eq_false ?_) ⟨sz1, fun l hl => ?_⟩
        · show ¬ iabs n < (k : Int)
          omega
        · have s1 : Same H (upd H l (.lst [.int 0])) := same_upd hl
          refine ⟨_, rfl, d, C, dx, _, _, rfl, a.d_ s1, L.cl, L.nF, dF_fig, af, _, rfl, .inl (a.l_ s1), l, _, _, rfl, rfl, upd_same, ?_, ?_, ?_, fun W hW => ?_⟩
          · rw [inV_len]
            omega
          · rw [inV_len]
            omega
          · rw [inV_len, Int.toNat_natCast]
            have : sizeLine = 16777216 := sizeLine_eq
            show 1 * ns.length ≤ _
            omega
          · rw [inV_len, Int.toNat_natCast, zeros] at *
            have s2 : Same _ (upd (upd H l (.lst [.int 0])) W (.lst (inV (up (List.replicate ns.length 0))))) := same_upd hW
            have lz : (inV (up (List.replicate ns.length 0))).length = ns.length := by
              rw [inV_len, List.length_map, List.length_replicate]
            refine ⟨_, rfl, _, rfl, _, rfl, W, _, _, i, rfl, rfl, upd_same, ixn (by rw [lz]; exact q), ?_⟩
            rw [zeros_set]
            have g : Same H (upd (upd (upd H l (.lst [.int 0])) W (.lst (inV (up (List.replicate ns.length 0))))) W (.lst (inV (up (oneWay ns.length i k))))) := Same.grow (s1.trans s2) (upd_no hW)
            refine ⟨_, rfl, d, dx, _, rfl, a.d_ g, dF_red, ?_⟩
            refine ⟨_, rfl, d, C, dx, _, _, rfl, a.d_ g, L.cl, L.nF, dF_fig, _, rfl, af, W, ns, _, rfl, a.l_ g, .inl (SqL.of upd_same), ?_, l10, fun H1 p s3 hp => ?_⟩
            · rw [List.length_map]
              exact ft.len
            · have s4 := g.trans s3
              refine ⟨d, p, dx, af, true, _, _, rfl, a.d_ s4, hp, fun H3 b3 D3 => ?_⟩
              refine ⟨_, rfl, d, true, _, none, rfl, ⟨_, _, _, D3⟩, a.ok.row ft, fun H4 r s5 hr2 => ?_⟩
              exact a.turn e ((But.of s4).trans (b3.trans (But.of s5))) (a.ok.row ft) ⟨_, _, _, D3.same s5⟩ hr2
end
end Fc
end
section
set_option Elab.async false
set_option linter.all false
set_option maxRecDepth 100000
set_option maxHeartbeats 2000000
/-! the first of the fewest -/
namespace Fc
open PySem PySem.Spec PyProof.Rows L2 LamX
open Kqz1 (Frac)
open Kqz3 (Ring)
theorem five_drop {i : Nat} (h : i < 5) : five.drop i = (i : Int) :: five.drop (i + 1) := by
  rcases i with _ | _ | _ | _ | _ | i
  · rfl
  · rfl
  · rfl
  · rfl
  · rfl
  · omega
theorem firstX_at {pr : Frac → Bool} {l : List (List Int × Frac)} {j : Nat} {b : List Int × Frac} (h : l[j]? = some b) : firstX pr (l.drop j) = if pr b.2 = true then some b.1 else firstX pr (l.drop (j + 1)) := by
  obtain ⟨hj, e⟩ := List.getElem?_eq_some_iff.mp h
  rw [List.drop_eq_getElem_cons hj, e]
  rfl
section
variable {P : Program} {w : World} {K : PySem.W.Frag} {mg : Str → Option Value} {base : Heap}
theorem scFof : FnScope ["figures", "is_wished", "t", "way", "fraction"] ["figures", "is_wished"] (defScope (topS 29)) := ⟨rfl, rfl, rfl, by decide +kernel, rfl, by decide +kernel, by decide +kernel⟩
def spFof (P : Program) (w : World) (K : PySem.W.Frag) (mg : Str → Option Value) (base : Heap) : Sp := fun vs H Q _ => ∃ (a fw : Addr) (ns : List Int) (pr : Frac → Bool), vs = [.ref a, .ref fw] ∧ SqL K H a (inV ns) ∧ OkNs ns ∧ Wish P w K mg base 3 H fw pr ∧
  (fewestX ns pr five = none → RetV H .non Q) ∧ ∀ wy, fewestX ns pr five = some wy → ∀ H' p, Same H H' → SqT K H' p (inV wy) → Q (.ref p) H'
theorem ok_fof {f : Addr} {fd : FuncData} (F : Fun K "first_of_fewest" "first_of_fewest" (topS 29) f fd) (nR : mg "range" = none) (g4 : ∃ t, mg "MOST_CHANGES" = some (.int 4 t)) (cW : ∀ base, Cal P w K mg base 4 "ways_with_fractions" ["figures", "t"] (spWwf K)) : FnOk P w K mg base CX0 5 f fd ["figures", "is_wished"] (spFof P w K mg base) := by
  obtain ⟨t4, g4⟩ := g4
  refine F.ok scFof (fun vs H Q E h => ?_) (fun cdv A outer s H vs Q E hr h => ⟨_,
      pss_cons (ps_for PassesOwn.never rfl (pi_range1 rfl nR (pa_cons (pe_op op_add (pe_glob (v := .int 4) rfl g4 ⟨_, rfl⟩) pe_int) pa_nil)) (pg_name (i := 2) scFof.nd rfl (Or.inl rfl))
        (pss_one (ps_for PassesOwn.never rfl (pi_list (pe_k (cW _) hr rfl (pa_cons (pv 0) (pa_cons (pv 2) pa_nil)))) (pg_tup rfl (pgs_cons (pg_name (i := 3) scFof.nd rfl (Or.inl rfl)) (pgs_cons (pg_name (i := 4) scFof.nd rfl (Or.inl rfl)) pgs_nil)))
          (pss_one (ps_if (pt_val (pe_wish (i := 1) (hr.mono (by decide : 3 ≤ 4)) rfl (Or.inl rfl) (pa_cons (pv 4) pa_nil))) (pss_one (ps_ret (pv 3))) pss_nil)))))
      (pss_one (ps_ret pe_non)), ?_⟩)
  · obtain ⟨a, fw, ns, pr, rfl, _⟩ := h
    rfl
  · obtain ⟨a, fw, ns, pr, rfl, hS, o, W, kN, kS⟩ := h
    refine ⟨_, _, rfl, rfl, 5, rfl, by omega, by omega, ?_⟩
    refine for_range (lo := 0) (n := 5) (fun i σ H' => ∃ v2 v3 v4 : Option V, σ = [some (.ref a), some (.ref fw), v2, v3, v4] ∧ Same H H' ∧ fewestX ns pr (five.drop i) = fewestX ns pr five) ⟨none, none, none, rfl, Same.refl H, rfl⟩ ?_ ?_
    · rintro i σ H' hi ⟨v2, v3, v4, rfl, s1, he⟩
      rw [Int.zero_add]
      refine ⟨_, rfl, _, rfl, a, ns, i, rfl, s1.seq hS, o, by omega, fun H2 B s2 hB => ?_⟩
      obtain ⟨as, hA, hP⟩ := hB
      have lab := Paired.length hP
      rw [five_drop hi] at he
      have he : (match firstX pr (waysX ns (i : Int)) with | some w => some w | none => fewestX ns pr (five.drop (i + 1))) = fewestX ns pr five := he
      refine ⟨B, rfl, ⟨_, hA⟩, for_list (K := K) (a := B) (xs := as.map V.ref) (fun j σ H3 => ∃ v3 v4 : Option V, σ = [some (.ref a), some (.ref fw), some (.int (i : Int)), v3, v4] ∧ Same H2 H3 ∧ firstX pr ((waysX ns (i : Int)).drop j) = firstX pr (waysX ns (i : Int))) ⟨v3, v4, rfl, Same.refl H2, rfl⟩ (fun j σ H3 _ ⟨_, _, _, s3, _⟩ => s3.seq hA) ?_ ?_⟩
      · rintro j x σ H3 hx ⟨v3, v4, rfl, s3, hf⟩
        obtain ⟨b, hb, rfl⟩ := ref_at hx
        obtain ⟨y, hy, wa, fa, q1, q2, q3⟩ := paired_at hP hb
        have hm : y.2 ∈ fracsX ns (i : Int) := List.mem_map.mpr ⟨y, List.mem_of_getElem? hy, rfl⟩
        obtain ⟨gg, gw⟩ := frac_mem o (t := i) _ hm
        have s23 := s2.trans s3
        have s13 := s1.trans s23
        refine ⟨b, _, rfl, s3.sqT q1, rfl, _, _, rfl, _, _, rfl, rfl, ?_⟩
        refine ⟨fw, pr, rfl, W.same s13, _, rfl, Same.refl _, fa, y.2, rfl, s3.sqT q3, gg, gw, fun H4 s4 => ⟨_, rfl, ?_⟩⟩
        rw [firstX_at hy] at hf
        by_cases c : pr y.2 = true
        · rw [if_pos c] at hf
          rw [← hf] at he
          exact if_t c ⟨_, rfl, kS _ he.symm H4 wa (s13.trans s4) ((s3.trans s4).sqT q2)⟩
        · rw [if_neg c] at hf
          exact if_f (by simpa using c) ⟨_, _, rfl, s3.trans s4, hf⟩
      · rintro σ H3 ⟨v3, v4, rfl, s3, hf⟩
        rw [List.length_map, lab, List.drop_length] at hf
        have hf : none = firstX pr (waysX ns (i : Int)) := hf
        rw [← hf] at he
        exact ⟨_, _, _, rfl, s1.trans (s2.trans s3), he⟩
    · rintro σ H' ⟨v2, v3, v4, rfl, s1, he⟩
      exact kN he.symm H' s1
end
end Fc
end
section
set_option Elab.async false
set_option linter.all false
set_option maxRecDepth 100000
set_option maxHeartbeats 2000000
/-! keep_fewest -/
namespace Fc
open PySem PySem.Spec PyProof.Rows L2 LamX
open Kqz1 (Frac)
open Kqz3 (Ring)
section
variable {P : Program} {w : World} {K : PySem.W.Frag} {mg : Str → Option Value} {base : Heap} {C : Addr}
theorem scKf : FnScope ["drawing", "is_wished"] ["drawing", "is_wished"] (defScope (topS 53)) := ⟨rfl, rfl, rfl, by decide +kernel, rfl, by decide +kernel, by decide +kernel⟩
def spKf (P : Program) (w : World) (K : PySem.W.Frag) (mg : Str → Option Value) (base : Heap) (C : Addr) : Sp := fun vs H Q _ => ∃ (d fw dx af : Addr) (v : V) (ns : List Int) (wy : Option (List Int)) (pr : Frac → Bool), vs = [.ref d, .ref fw] ∧ DrAt K C H d true ns wy dx af v ∧ OkNs ns ∧ Wish P w K mg base 3 H fw pr ∧
  (fewestX ns pr five = none → ∀ H' p, But d H H' → Dr K C H' d true ns none → H' p = some (.lst (inV [-33])) → Q (.ref p) H') ∧
  ∀ w, fewestX ns pr five = some w → ∀ H' p, But d H H' → Dr K C H' d true ns (some w) → H' p = some (.lst (inV [w.sum])) → Q (.ref p) H'
theorem ok_kf {f : Addr} {fd : FuncData} (F : Fun K "keep_fewest" "keep_fewest" (topS 53) f fd) (L : Kl K mg C) (nS : mg "sum" = none) (g33 : ∃ t, mg "NOT_BY_SO_FEW" = some (.int (-33) t)) (cF : Cal P w K mg base 5 "first_of_fewest" ["figures", "is_wished"] (spFof P w K mg base)) :
    FnOk P w K mg base CX0 6 f fd ["drawing", "is_wished"] (spKf P w K mg base C) := by
  obtain ⟨t33, g33⟩ := g33
  refine F.ok scKf (fun vs H Q E h => ?_) (fun cdv A outer s H vs Q E hr h => ⟨_,
      pss_cons (ps_fld (pv 0) (pe_k cF hr rfl (pa_cons (pe_fld (pv 0) rfl) (pa_cons (pv 1) pa_nil))) rfl)
      (pss_cons (ps_if (pt_cmpR op_isN (pe_fld (pv 0) rfl) pe_non (nomark _)) (pss_one (ps_ret (pe_lst (pa_cons (pe_glob (v := .int (-33)) rfl g33 ⟨_, rfl⟩) pa_nil)))) pss_nil)
      (pss_one (ps_ret (pe_lst (pa_cons (pe_callB (cr_sumT rfl) (by rfl) nS (by decide +kernel) (pa_cons (pe_fld (pv 0) rfl) pa_nil)) pa_nil))))), ?_⟩)
  · obtain ⟨d, fw, dx, af, v, ns, wy, pr, rfl, _⟩ := h
    rfl
  · obtain ⟨d, fw, dx, af, v, ns, wy, pr, rfl, D, o, W, kN, kS⟩ := h
    refine ⟨_, rfl, d, C, dx, _, _, rfl, D.obj, L.cl, L.nF, dF_fig, _, rfl, af, fw, ns, pr, rfl, SqL.of D.fig, o, W, fun hn H1 s1 => ?_, fun wt hw H1 p s1 hp => ?_⟩
    · have hd := s1 _ _ D.obj
      refine ⟨_, rfl, d, C, dx, _, rfl, hd, L.cl, L.nW, (by show 3 < 1000; decide), ?_⟩
      rw [dF_pway]
      have hd2 : upd H1 d (.ins C dx (dF true af .non)) d = some (.ins C dx (dF true af .non)) := upd_same
      have b1 : But d H (upd H1 d (.ins C dx (dF true af .non))) := (But.of s1).trans But.upd
      refine ⟨_, rfl, d, C, dx, _, _, rfl, hd2, L.cl, L.nW, dF_way, rfl, _, rfl, if_t rfl ⟨sz1, fun q hq => ?_⟩⟩
      have s2 : Same (upd H1 d (.ins C dx (dF true af .non))) (upd (upd H1 d (.ins C dx (dF true af .non))) q (.lst [.int (-33)])) := same_upd hq
      have hf : upd H1 d (.ins C dx (dF true af .non)) af = some (.lst (inV ns)) := b1 _ _ D.fig D.ne
      exact kN hn _ q (b1.trans (But.of s2)) ⟨dx, af, .non, s2 _ _ hd2, s2 _ _ hf, rfl⟩ upd_same
    · have hd := s1 _ _ D.obj
      refine ⟨_, rfl, d, C, dx, _, rfl, hd, L.cl, L.nW, (by show 3 < 1000; decide), ?_⟩
      rw [dF_pway]
      have hd2 : upd H1 d (.ins C dx (dF true af (.ref p))) d = some (.ins C dx (dF true af (.ref p))) := upd_same
      have b1 : But d H (upd H1 d (.ins C dx (dF true af (.ref p)))) := (But.of s1).trans But.upd
      have hp2 : SqT K (upd H1 d (.ins C dx (dF true af (.ref p)))) p (inV wt) := But.seqT But.upd hd hp
      refine ⟨_, rfl, d, C, dx, _, _, rfl, hd2, L.cl, L.nW, dF_way, rfl, _, rfl, if_f rfl ?_⟩
      refine ⟨_, rfl, d, C, dx, _, _, rfl, hd2, L.cl, L.nW, dF_way, p, wt, rfl, hp2, sz1, fun q hq => ?_⟩
      have s2 : Same (upd H1 d (.ins C dx (dF true af (.ref p)))) (upd (upd H1 d (.ins C dx (dF true af (.ref p)))) q (.lst [.int wt.sum])) := same_upd hq
      have hf : upd H1 d (.ins C dx (dF true af (.ref p))) af = some (.lst (inV ns)) := b1 _ _ D.fig D.ne
      exact kS wt hw _ q (b1.trans (But.of s2)) ⟨dx, af, .ref p, s2 _ _ hd2, s2 _ _ hf, p, rfl, s2.sqT hp2⟩ upd_same
end
end Fc
end
section
set_option Elab.async false
set_option linter.all false
set_option maxRecDepth 100000
set_option maxHeartbeats 2000000
/-! undone, split -/
namespace Fc
open PySem PySem.Spec PyProof.Rows L2 LamX NdefX
open Kqz1 (Frac)
open Kqz3 (Ring)
abbrev lq (x : Str) : Str := (x ++ ".<locals>.") ++ "<lambda>"
/-- a def of the text whose code object stands at c -/
structure FunC (K : PySem.W.Frag) (x : Str) (st : Stmt) (c f : Addr) (fd : FuncData) : Prop where
  ex : ∃ (oc : Value) (od : Option Addr) (kV doc pm : Value) (an : Option Addr) (ct : Value) (osl : Array (Option Value)),
    fd = PySem.W.fnOf x x (defArgs st) (defBody st) (defScope st) .none kV doc pm an (.ref c) ct ∧ K.lookup f = some ⟨oc, od, .func fd, osl⟩ ∧ PySem.W.codeIn K (.ref c) x = true
  kp : PySem.W.keepIn K (.ref f) = true
/-- its lambda's table -/
structure LamT (T : List (Addr × Str)) (base : Heap) (mg : Str → Option Value) (x : Str) (c Pt : Addr) : Prop where
  tb : TabB base mg c Pt
  mem : (Pt, lq x) ∈ T
  one : ∀ p ∈ T, p.1 = Pt → p.2 = lq x
section
variable {P : Program} {w : World} {K : PySem.W.Frag} {mg : Str → Option Value} {base : Heap} {C : Addr} {T : List (Addr × Str)}
theorem FunC.ok {x : Str} {st : Stmt} {c f : Addr} {fd : FuncData} {N ps : List Str} {k : Nat} {sp : Sp} (F : FunC K x st c f fd) (S : FnScope N ps (defScope st)) (len : ∀ vs H Q E, sp vs H Q E → vs.length = ps.length)
    (hbody : ∀ (A : Around) (outer : List Env) (s : Shared) (H : Hp) (vs : List V) (Q : VK) (E : XK), Room k (A.deeper (envOfC x (defScope st) s.heap.objs.size f (.ref c))) → sp vs H Q E →
      ∃ t, PSs (cxOf CX0 P w K mg base N x (defScope st) f (.ref c) A outer s H E).nox (defBody st) t ∧ t { nx := fun _ H' => Q .non H', rt := Q } (start N vs) H) : FnOk P w K mg base CX0 (k + 1) f fd ps sp := by
  obtain ⟨oc, od, kV, doc, pm, an, ct, osl, rfl, lk, hcd⟩ := F.ex
  refine fn_of lk hcd S len fun A outer s H vs Q E hr hsp => ?_
  obtain ⟨t, h, q⟩ := hbody A outer s H vs Q E hr hsp
  exact ⟨t, h.nox, q⟩
theorem FunC.binds {x : Str} {st : Stmt} {c f : Addr} {fd : FuncData} {ps : List Str} (F : FunC K x st c f fd)
    (h : ∀ (kV doc pm : Value) (an : Option Addr) (cdv ct : Value) (us : List Value), us.length = ps.length → bindArgs (PySem.W.fnOf x x (defArgs st) (defBody st) (defScope st) .none kV doc pm an cdv ct) ⟨us, []⟩ = pure (ps.zip us)) : Binds K fd ps [] := by
  obtain ⟨oc, od, kV, doc, pm, an, ct, osl, rfl, lk, hcd⟩ := F.ex
  exact .all (h kV doc pm an (.ref c) ct)
/-! ### behind the search -/
theorem extN_sqT {H H' : Hp} {a : Addr} {xs : List V} (e : ExtN H H') (h : SqT K H a xs) : SqT K H' a xs := by
  rcases h with (h | ⟨o, h⟩) | h
  · exact .inl (.inl (e _ _ h (fun _ z => by cases z)))
  · exact .inl (.inr ⟨o, e _ _ h (fun _ z => by cases z)⟩)
  · exact .inr h
theorem DrAt.extN {H H' : Hp} {d dx af : Addr} {on : Bool} {ns : List Int} {wy : Option (List Int)} {v : V} (e : ExtN H H') (h : DrAt K C H d on ns wy dx af v) : DrAt K C H' d on ns wy dx af v := by
  refine ⟨e _ _ h.obj (fun _ z => by cases z), e _ _ h.fig (fun _ z => by cases z), ?_⟩
  have hw := h.way
  cases wy with
  | none => exact hw
  | some w =>
    obtain ⟨aw, e1, q⟩ := hw
    exact ⟨aw, e1, extN_sqT e q⟩
section
variable {j : Int} {vs : List V} {H H2 : Hp} {Q : VK} {d nl dx af : Addr} {v : V} {ns zs : List Int} {last : Option (List Nat)} {pr : Frac → Bool}
/-- what is found is told, and kept -/
theorem AnO.found (a : AnO T K C j vs H Q d nl dx af v ns last zs) (e : nst (some (dk ns last)) [j :: zs] = ((Kqz6.found (dk ns last) pr).1, ntl (Kqz6.found (dk ns last) pr).2)) (ex : ExtN H H2) (T2 : Tabs T H2) :
    (fewestX ns pr five = none → ∀ H' p, But d H2 H' → Dr K C H' d true ns none → H' p = some (.lst (inV [-33])) → Q (.ref p) H') ∧
    ∀ w, fewestX ns pr five = some w → ∀ H' p, But d H2 H' → Dr K C H' d true ns (some w) → H' p = some (.lst (inV [w.sum])) → Q (.ref p) H' := by
  have D2 := a.dr.extN ex
  have fin : ∀ (H' : Hp) (p : Addr) (o : Option (List Nat)) (out : List Int), nst (some (dk ns last)) [j :: zs] = (some (dk ns o), out) → (∀ w, o = some w → Fits ns w) → But d H2 H' → Dr K C H' d true ns (o.map up) → H' p = some (.lst (inV out)) → Q (.ref p) H' := fun H' p o out e1 ft b D hp => by
    refine a.k H' p ((Bx.of ex).trans b.bx) (tabs_but b D2.obj T2) ?_ ?_
    · rw [e1]
      exact ⟨ns, rfl, a.ok, ft, D⟩
    · rw [e1]
      exact hp
  rcases p_found (ns := ns) (last := last) (pr := pr) with ⟨_, h2, h3⟩ | ⟨w0, ft, h2, h3⟩
  · rw [h3] at e
    refine ⟨fun _ H' p b D hp => fin H' p none [-33] e (fun w h => nomatch h) b D hp, fun w hw => ?_⟩
    rw [h2] at hw
    cases hw
  · rw [h3] at e
    refine ⟨fun hn => ?_, fun w hw H' p b D hp => ?_⟩
    · rw [h2] at hn
      cases hn
    · rw [h2] at hw
      have ew : up w0 = w := Option.some.inj hw
      subst ew
      exact fin H' p (some w0) _ e (fun w h => by cases h; exact ft) b D hp
end
theorem nsc {X : Cx} {params : Arguments} {sc : Scope} {c' : Addr} {N ps fr : List Str} (h : nscB N ps fr sc = true) : NScope N ps fr (lamF X params sc c').scope := nscope_by h
/-! ### undone, split -/
theorem scUdo : FnScope ["drawing", "numbers"] ["drawing", "numbers"] (defScope (topS 54)) := ⟨rfl, rfl, rfl, by decide +kernel, rfl, by decide +kernel, by decide +kernel⟩
theorem scSpl : FnScope ["drawing", "numbers"] ["drawing", "numbers"] (defScope (topS 55)) := ⟨rfl, rfl, rfl, by decide +kernel, rfl, by decide +kernel, by decide +kernel⟩
theorem ringP_beq (g : Frac) (n : Nat) : decide (V.int (ringP g) = V.int (n : Int)) = ((Kqz3.ringOf g).p == n) := by
  rw [ringP_is, Bool.eq_iff_iff, decide_eq_true_iff, beq_iff_eq, V.int.injEq]
  omega
theorem ok_udo {c Pt f : Addr} {fd : FuncData} (F : FunC K "answer_undone" (topS 54) c f fd) (LT : LamT T base mg "answer_undone" c Pt) (cS : ∀ base, Cal P w K mg base 1 "size_of" ["fraction"] (spSiz K)) (cK : Cal P w K mg base 6 "keep_fewest" ["drawing", "is_wished"] (spKf P w K mg base C)) :
    FnOk P w K mg base CX0 7 f fd ["drawing", "numbers"] (spAn T K C 8) := by
  refine F.ok scUdo (fun vs H Q E h => an_len h) (fun A outer s H vs Q E hr h => ⟨_, pss_one (ps_ret (pe_keep0 (T := T) (c := c) (Pt := Pt) cK hr rfl LT.tb rfl LT.mem LT.one rfl (by decide +kernel) (pv 0))), ?_⟩)
  obtain ⟨d, nl, dx, af, v, ns, last, zs, a⟩ := an_open (by decide) h
  have ez := sh_nil a.ask (by decide)
  subst ez
  obtain rfl := a.args
  refine ⟨_, rfl, a.tabs, fun fl c' pm ctv H2 ex T2 f0 f1 c1 => ?_⟩
  obtain ⟨k1, k2⟩ := a.found (pr := Kqz6.round) st_8 ex T2
  refine ⟨d, fl, dx, af, v, ns, _, Kqz6.round, rfl, a.dr.extN ex, a.ok, ?_, k1, k2⟩
  refine wish0 (x := "fraction") (N := ["fraction"]) (nsc (by decide +kernel)) rfl (fun _ _ _ => rfl) f1 c1 fun A2 outer2 s2 H0 hr2 => ⟨_, pe_cmpR op_eq (pe_k (cS _) (hr2.mono (by decide)) rfl (pa_cons (pv 0) pa_nil)) pe_int (nomark _), fun b g Q2 hb gg gw k => ?_⟩
  refine ⟨_, rfl, b, g, rfl, hb, fun H3 s3 => ⟨rfl, ?_⟩⟩
  have e : (decide (V.int (ringP g) = V.int 1)) = Kqz6.round g := ringP_beq g 1
  rw [e]
  exact k H3 s3
theorem ok_spl {c Pt f : Addr} {fd : FuncData} (F : FunC K "answer_split" (topS 55) c f fd) (LT : LamT T base mg "answer_split" c Pt) (cS : ∀ base, Cal P w K mg base 1 "size_of" ["fraction"] (spSiz K)) (cK : Cal P w K mg base 6 "keep_fewest" ["drawing", "is_wished"] (spKf P w K mg base C)) :
    FnOk P w K mg base CX0 7 f fd ["drawing", "numbers"] (spAn T K C 9) := by
  refine F.ok scSpl (fun vs H Q E h => an_len h) (fun A outer s H vs Q E hr h => ⟨_, pss_one (ps_ret (pe_keep0 (T := T) (c := c) (Pt := Pt) cK hr rfl LT.tb rfl LT.mem LT.one rfl (by decide +kernel) (pv 0))), ?_⟩)
  obtain ⟨d, nl, dx, af, v, ns, last, zs, a⟩ := an_open (by decide) h
  have ez := sh_nil a.ask (by decide)
  subst ez
  obtain rfl := a.args
  refine ⟨_, rfl, a.tabs, fun fl c' pm ctv H2 ex T2 f0 f1 c1 => ?_⟩
  obtain ⟨k1, k2⟩ := a.found (pr := Kqz6.apart) st_9 ex T2
  refine ⟨d, fl, dx, af, v, ns, _, Kqz6.apart, rfl, a.dr.extN ex, a.ok, ?_, k1, k2⟩
  refine wish0 (x := "fraction") (N := ["fraction"]) (nsc (by decide +kernel)) rfl (fun _ _ _ => rfl) f1 c1 fun A2 outer2 s2 H0 hr2 => ⟨_, pe_cmpR op_eq (pe_k (cS _) (hr2.mono (by decide)) rfl (pa_cons (pv 0) pa_nil)) pe_int (nomark _), fun b g Q2 hb gg gw k => ?_⟩
  refine ⟨_, rfl, b, g, rfl, hb, fun H3 s3 => ⟨rfl, ?_⟩⟩
  have e : (decide (V.int (ringP g) = V.int 0)) = Kqz6.apart g := ringP_beq g 0
  rw [e]
  exact k H3 s3
end
end Fc
end
section
set_option Elab.async false
set_option linter.all false
set_option maxRecDepth 100000
set_option maxHeartbeats 2000000
/-! flat -/
namespace Fc
open PySem PySem.Spec PyProof.Rows L2 LamX NdefX
open Kqz1 (Frac)
open Kqz3 (Ring)
section
variable {P : Program} {w : World} {K : PySem.W.Frag} {mg : Str → Option Value} {base : Heap} {C : Addr} {T : List (Addr × Str)}
section
variable {H H' : Hp} {cc d : Addr} {co : Obj} {ns : List Int} {wy : Option (List Int)} {on : Bool}
theorem hid_get {b : Addr} {o : HO} (n : H cc = some (FZ co)) (e : H b = some o) (h : o ≠ FZ co) : hidC cc H b = some o := by
  rw [hidC_ne (fun z => by
    rw [z, n] at e
    exact h (Option.some.inj e).symm)]
  exact e
theorem dr_hid (n : H cc = some (FZ co)) (D : Dr K C H d on ns wy) : Dr K C (hidC cc H) d on ns wy := by
  obtain ⟨dx, af, v, h1, h2, h3⟩ := D
  refine ⟨dx, af, v, hid_get n h1 (fun z => by cases z), hid_get n h2 (fun z => by cases z), ?_⟩
  cases wy with
  | none => exact h3
  | some w =>
    obtain ⟨aw, e, q⟩ := h3
    refine ⟨aw, e, ?_⟩
    rcases q with (q | ⟨o, q⟩) | q
    · exact .inl (.inl (hid_get n q (fun z => by cases z)))
    · exact .inl (.inr ⟨o, hid_get n q (fun z => by cases z)⟩)
    · exact .inr q
theorem but_hid (n : H cc = none) (hd : cc ≠ d) (b : But d (upd H cc (FZ co)) H') : But d H (hidC cc H') := fun x o e h => by
  have hx : x ≠ cc := ne_of_none e n
  rw [hidC_ne hx]
  exact b x o (by rw [upd_ne hx]; exact e) h
end
section
variable {j : Int} {vs : List V} {H H2 : Hp} {Q : VK} {d nl dx af cc : Addr} {v : V} {ns zs : List Int} {last : Option (List Nat)} {pr : Frac → Bool} {co : Obj}
/-- .., a cell told to the search and hidden behind it -/
theorem AnO.foundC (a : AnO T K C j vs H Q d nl dx af v ns last zs) (e : nst (some (dk ns last)) [j :: zs] = ((Kqz6.found (dk ns last) pr).1, ntl (Kqz6.found (dk ns last) pr).2)) (ex : ExtN H H2) (T2 : Tabs T H2) (n : H2 cc = none) :
    (fewestX ns pr five = none → ∀ H' p, But d (upd H2 cc (FZ co)) H' → Dr K C H' d true ns none → H' p = some (.lst (inV [-33])) → Q (.ref p) (hidC cc H')) ∧
    ∀ w, fewestX ns pr five = some w → ∀ H' p, But d (upd H2 cc (FZ co)) H' → Dr K C H' d true ns (some w) → H' p = some (.lst (inV [w.sum])) → Q (.ref p) (hidC cc H') := by
  obtain ⟨k1, k2⟩ := a.found (pr := pr) e ex T2
  have hd2 : H2 d = some (.ins C dx (dF true af v)) := ex _ _ a.dr.obj (fun _ z => by cases z)
  have hcd : cc ≠ d := fun z => by
    rw [← z, n] at hd2
    cases hd2
  have fz : ∀ H', But d (upd H2 cc (FZ co)) H' → H' cc = some (FZ co) := fun H' b => b cc _ upd_same hcd
  refine ⟨fun hn H' p b D hp => k1 hn _ p (but_hid n hcd b) (dr_hid (fz H' b) D) (hid_get (fz H' b) hp (fun z => by cases z)), fun w hw H' p b D hp => k2 w hw _ p (but_hid n hcd b) (dr_hid (fz H' b) D) (hid_get (fz H' b) hp (fun z => by cases z))⟩
end
theorem hid_upd {H : Hp} {cc : Addr} {o : HO} (n : H cc = none) : Same H (hidC cc (upd H cc o)) := fun b u e => by
  have h : b ≠ cc := ne_of_none e n
  rw [hidC_ne h, upd_ne h]
  exact e
theorem eqv_frac {K : PySem.W.Frag} {H : Hp} {a b : Addr} {f g : Frac} {Q : VK} (ha : SqT K H a (frV f)) (hb : SqT K H b (frV g)) (k : Q (.bl (f == g)) H) : rEqD K (.ref a) (.ref b) H Q := by
  refine ⟨.tuple [.int f.p, .int (f.q : Int)], .tuple [.int g.p, .int (g.q : Int)], .tup ha (.cons (.int _) (.cons (.int _) .nil)), .tup hb (.cons (.int _) (.cons (.int _) .nil)), rfl, rfl, ?_⟩
  have e : PyData.eqv (.tuple [.int f.p, .int (f.q : Int)]) (.tuple [.int g.p, .int (g.q : Int)]) = (f == g) := by
    rw [frac_beq]
    show ((f.p == g.p) && (((f.q : Int) == (g.q : Int)) && true)) = _
    rw [Bool.and_true, Bool.eq_iff_iff, Bool.and_eq_true, beq_iff_eq, beq_iff_eq, decide_eq_true_iff]
    obtain ⟨p1, q1⟩ := f
    obtain ⟨p2, q2⟩ := g
    rw [Frac.mk.injEq]
    show (p1 = p2 ∧ (q1 : Int) = (q2 : Int)) ↔ _
    omega
  rw [e]
  exact k
theorem eqv_ring {K : PySem.W.Frag} {H : Hp} {a b : Addr} {f g : Ring} {Q : VK} (ha : SqT K H a (rV f)) (hb : SqT K H b (rV g)) (k : Q (.bl (f == g)) H) : rEqD K (.ref a) (.ref b) H Q := by
  refine ⟨.tuple [.int (f.p : Int), .int (f.q : Int)], .tuple [.int (g.p : Int), .int (g.q : Int)], .tup ha (.cons (.int _) (.cons (.int _) .nil)), .tup hb (.cons (.int _) (.cons (.int _) .nil)), rfl, rfl, ?_⟩
  have e : PyData.eqv (.tuple [.int (f.p : Int), .int (f.q : Int)]) (.tuple [.int (g.p : Int), .int (g.q : Int)]) = (f == g) := by
    rw [ring_beq]
    show (((f.p : Int) == (g.p : Int)) && (((f.q : Int) == (g.q : Int)) && true)) = _
    rw [Bool.and_true, Bool.eq_iff_iff, Bool.and_eq_true, beq_iff_eq, beq_iff_eq, decide_eq_true_iff]
    obtain ⟨p1, q1⟩ := f
    obtain ⟨p2, q2⟩ := g
    rw [Ring.mk.injEq]
    show ((p1 : Int) = (p2 : Int) ∧ (q1 : Int) = (q2 : Int)) ↔ _
    omega
  rw [e]
  exact k
theorem clo1 {cells : List (Str × Addr)} {names : List (Str × NameKind)} {y : Str} {cc : Addr} (h : cloFrom cells names [] = [(y, (cells.lookup y).getD 0)]) (hc : cells.lookup y = some cc) : cloFrom cells names [] = [(y, cc)] := by
  rw [h, hc]
  rfl
/-! ### flat -/
theorem scFla : FnScope ["drawing", "numbers", "flat"] ["drawing", "numbers"] (defScope (topS 56)) := ⟨rfl, rfl, rfl, by decide +kernel, rfl, by decide +kernel, by decide +kernel⟩
theorem ok_fla {c Pt f : Addr} {fd : FuncData} (F : FunC K "answer_flat" (topS 56) c f fd) (LT : LamT T base mg "answer_flat" c Pt) (cF : ∀ base, Cal P w K mg base 1 "flat_fraction" [] spFlat) (cK : Cal P w K mg base 6 "keep_fewest" ["drawing", "is_wished"] (spKf P w K mg base C)) :
    FnOk P w K mg base CX0 7 f fd ["drawing", "numbers"] (spAn T K C 10) := by
  refine F.ok scFla (fun vs H Q E h => an_len h) (fun A outer s H vs Q E hr h => ⟨_,
      pss_cons (ps_set (i := 2) scFla.nd rfl (Or.inr rfl) (pe_k0 (cF _) (hr.mono (by decide)) rfl))
      (pss_one (ps_ret (pe_keep1 (T := T) (c := c) (Pt := Pt) (y := "flat") (i := 2) cK hr rfl LT.tb rfl LT.mem LT.one rfl (fun _ => rfl) rfl rfl (by decide +kernel) (pv 0)))), ?_⟩)
  obtain ⟨d, nl, dx, af, v, ns, last, zs, a⟩ := an_open (by decide) h
  have ez := sh_nil a.ask (by decide)
  subst ez
  obtain rfl := a.args
  refine ⟨rfl, fun H1 t s1 ht => ?_⟩
  refine ⟨_, rfl, a.tabs.ext s1, .ref t, rfl, fun fl c' cc co pm ctv H2 ex T2 f0 f1 c1 hcc nc hco => ?_⟩
  have exH : ExtN H H2 := (ExtN.of s1).trans ex
  obtain ⟨k1, k2⟩ := a.foundC (pr := Kqz6.same Kqz1.flat) (co := co) st_10 exH T2 nc
  have sc2 : Same H2 (upd H2 cc (FZ co)) := same_upd nc
  refine ⟨d, fl, dx, af, v, ns, _, Kqz6.same Kqz1.flat, rfl, (a.dr.extN exH).same sc2, a.ok, ?_, k1, k2⟩
  refine wish1 (x := "fraction") (y := "flat") (v := .ref t) (N := ["fraction", "flat"]) (nsc (by decide +kernel)) (clo1 rfl hcc) (fun _ _ _ => rfl) (sc2 _ _ f1) (sc2 _ _ c1) upd_same hco fun A2 outer2 s2 H0 hr2 sm => ⟨_, pe_cmpR (op_eqD hr2.units) (pv 0) (pv 1) (nomark _), fun b g Q2 hb gg gw k => ?_⟩
  exact ⟨_, rfl, _, rfl, eqv_frac hb (sm.sqT ((hid_upd nc).sqT (extN_sqT ex (SqT.of ht)))) (k _ (Same.refl _))⟩
/-! ### to -/
theorem p_to {ns : List Int} {last : Option (List Nat)} {p : Int} {q : Nat} : nst (some (dk ns last)) [[11, p, (q : Int)]] = if Kqz1.okFrac p q = false then (some (dk ns last), [-22]) else ((Kqz6.found (dk ns last) (Kqz6.same ⟨p, q⟩)).1, ntl (Kqz6.found (dk ns last) (Kqz6.same ⟨p, q⟩)).2) := by
  rw [st_11]
  show (((if Kqz1.okFrac p q = false then _ else _ : Option Kqz6.Desk × Kqz6.Ans)).1, ntl (if Kqz1.okFrac p q = false then _ else _ : Option Kqz6.Desk × Kqz6.Ans).2) = _
  split <;> rfl
theorem isFr_is (p : Int) (q : Nat) : Kqz1.okFrac p q = (decide (p.natAbs ≤ 9999) && decide (q ≤ 9999) && isFr p (q : Int)) := by
  rw [okFrac_is]
  unfold isFr
  congr 1
  by_cases h : q = 0
  · rw [if_pos h, if_pos (by omega)]
  · rw [if_neg h, if_neg (by omega), iabs_nat]
    rfl
theorem scTo : FnScope ["drawing", "numbers", "p", "q", "wished"] ["drawing", "numbers"] (defScope (topS 57)) := ⟨rfl, rfl, rfl, by decide +kernel, rfl, by decide +kernel, by decide +kernel⟩
theorem ok_to {c Pt f : Addr} {fd : FuncData} (F : FunC K "answer_to" (topS 57) c f fd) (LT : LamT T base mg "answer_to" c Pt) (nA : mg "abs" = none) (g99 : ∃ t, mg "MOST_OF_A_FRACTION" = some (.int 9999 t)) (g22 : ∃ t, mg "NOT_AS_TOLD" = some (.int (-22) t)) (cI : ∀ base, Cal P w K mg base 2 "is_fraction" ["upper", "lower"] spIsf)
    (cK : Cal P w K mg base 6 "keep_fewest" ["drawing", "is_wished"] (spKf P w K mg base C)) : FnOk P w K mg base CX0 7 f fd ["drawing", "numbers"] (spAn T K C 11) := by
  obtain ⟨t99, g99⟩ := g99
  obtain ⟨t22, g22⟩ := g22
  refine F.ok scTo (fun vs H Q E h => an_len h) (fun A outer s H vs Q E hr h => ⟨_,
      pss_cons (ps_set (i := 2) scTo.nd rfl (Or.inl rfl) (pe_ix ix_list (pv 1) pe_int (fun _ _ => rfl)))
      (pss_cons (ps_set (i := 3) scTo.nd rfl (Or.inl rfl) (pe_ix ix_list (pv 1) pe_int (fun _ _ => rfl)))
      (pss_cons (ps_if (PW.pt (pw_or (pt_cmpR op_gt (pe_callB call_abs (by rfl) nA (by decide +kernel) (pa_cons (pv 2) pa_nil)) (pe_glob (v := .int 9999) rfl g99 ⟨_, rfl⟩) (nomark _))
          (pw_or (pt_cmpR op_gt (pv 3) (pe_glob (v := .int 9999) rfl g99 ⟨_, rfl⟩) (nomark _)) (pw_or1 (pt_not (pt_val (pe_k (cI _) (hr.mono (by decide)) rfl (pa_cons (pv 2) (pa_cons (pv 3) pa_nil)))))))))
        (pss_one (ps_ret (pe_lst (pa_cons (pe_glob (v := .int (-22)) rfl g22 ⟨_, rfl⟩) pa_nil)))) pss_nil)
      (pss_cons (ps_set (i := 4) scTo.nd rfl (Or.inr rfl) (pe_tup (pa_cons (pv 2) (pa_cons (pv 3) pa_nil))))
      (pss_one (ps_ret (pe_keep1 (T := T) (c := c) (Pt := Pt) (y := "wished") (i := 4) cK hr rfl LT.tb rfl LT.mem LT.one rfl (fun _ => rfl) rfl rfl (by decide +kernel) (pv 0)))))))  , ?_⟩)
  obtain ⟨d, nl, dx, af, v, ns, last, zs, a⟩ := an_open (by decide) h
  obtain ⟨p, q, ez, p1, p2, q1⟩ := sh_11 a.ask
  subst ez
  obtain rfl := a.args
  have s0 := Same.refl H
  have e := p_to (ns := ns) (last := last) (p := p) (q := q)
  rw [isFr_is] at e
  have ea := iabs_nat p
  refine ⟨_, rfl, _, _, _, _, rfl, rfl, a.num, ix0, ?_⟩
  refine ⟨_, rfl, _, _, _, _, rfl, rfl, a.num, ix1, ?_⟩
  refine ⟨_, rfl, _, rfl, _, _, rfl, rfl, _, rfl, ?_⟩
  by_cases cp : 9999 < p.natAbs
  · rw [if_pos (by rw [decide_eq_false (by omega : ¬ p.natAbs ≤ 9999)]; rfl)] at e
    exact if_t (decide_eq_true (by show (9999 : Int) < iabs p; omega)) ⟨sz1, (a.stayL e).fin s0⟩
  · refine if_f (decide_eq_false (by show ¬ (9999 : Int) < iabs p; omega)) ⟨_, rfl, _, _, rfl, rfl, _, rfl, ?_⟩
    by_cases cq : 9999 < q
    · rw [if_pos (by rw [decide_eq_false (by omega : ¬ q ≤ 9999), Bool.and_false]; rfl)] at e
      exact if_t (decide_eq_true (by omega)) ⟨sz1, (a.stayL e).fin s0⟩
    · refine if_f (decide_eq_false (by omega)) ⟨_, rfl, _, rfl, p, (q : Int), rfl, by omega, fun H1 s1 => ⟨_, rfl, ?_⟩⟩
      rw [decide_eq_true (by omega : p.natAbs ≤ 9999), decide_eq_true (by omega : q ≤ 9999), Bool.and_self, Bool.true_and] at e
      by_cases ci : isFr p (q : Int) = true
      · rw [ci, if_neg (by simp)] at e
        rw [ci]
        refine if_f rfl ⟨_, rfl, _, rfl, sz2, fun t ht => ?_⟩
        have st : Same H1 (upd H1 t (.tup [.int p, .int (q : Int)])) := same_upd ht
        have s2 := s1.trans st
        refine ⟨_, rfl, a.tabs.ext s2, .ref t, rfl, fun fl c' cc co pm ctv H2 ex T2 f0 f1 c1 hcc nc hco => ?_⟩
        have exH : ExtN H H2 := (ExtN.of s2).trans ex
        obtain ⟨k1, k2⟩ := a.foundC (pr := Kqz6.same ⟨p, q⟩) (co := co) e exH T2 nc
        have sc2 : Same H2 (upd H2 cc (FZ co)) := same_upd nc
        refine ⟨d, fl, dx, af, v, ns, _, Kqz6.same ⟨p, q⟩, rfl, (a.dr.extN exH).same sc2, a.ok, ?_, k1, k2⟩
        refine wish1 (x := "fraction") (y := "wished") (v := .ref t) (N := ["fraction", "wished"]) (nsc (by decide +kernel)) (clo1 rfl hcc) (fun _ _ _ => rfl) (sc2 _ _ f1) (sc2 _ _ c1) upd_same hco fun A2 outer2 s2 H0 hr2 sm => ⟨_, pe_cmpR (op_eqD hr2.units) (pv 0) (pv 1) (nomark _), fun b g Q2 hb gg gw k => ?_⟩
        exact ⟨_, rfl, _, rfl, eqv_frac (g := ⟨p, q⟩) hb (sm.sqT ((hid_upd nc).sqT (extN_sqT ex (SqT.of upd_same)))) (k _ (Same.refl _))⟩
      · have cf : isFr p (q : Int) = false := by simpa using ci
        rw [cf, if_pos rfl] at e
        rw [cf]
        exact if_t rfl ⟨sz1, (a.stayL e).fin s1⟩
/-! ### closes -/
theorem p_clo {ns : List Int} {last : Option (List Nat)} {p q : Nat} : nst (some (dk ns last)) [[12, (p : Int), (q : Int)]] = if Kqz3.okRing p q = false then (some (dk ns last), [-22]) else ((Kqz6.found (dk ns last) (Kqz6.closes ⟨p, q⟩)).1, ntl (Kqz6.found (dk ns last) (Kqz6.closes ⟨p, q⟩)).2) := by
  rw [st_12]
  show (((if Kqz3.okRing p q = false then _ else _ : Option Kqz6.Desk × Kqz6.Ans)).1, ntl (if Kqz3.okRing p q = false then _ else _ : Option Kqz6.Desk × Kqz6.Ans).2) = _
  split <;> rfl
theorem scClo : FnScope ["drawing", "numbers", "size", "share", "wished"] ["drawing", "numbers"] (defScope (topS 58)) := ⟨rfl, rfl, rfl, by decide +kernel, rfl, by decide +kernel, by decide +kernel⟩
theorem ok_clo {c Pt f : Addr} {fd : FuncData} (F : FunC K "answer_closes" (topS 58) c f fd) (LT : LamT T base mg "answer_closes" c Pt) (g400 : ∃ t, mg "MOST_SIZE" = some (.int 400 t)) (g22 : ∃ t, mg "NOT_AS_TOLD" = some (.int (-22) t)) (cI : ∀ base, Cal P w K mg base 2 "is_ring" ["size", "share"] spIsr)
    (cR : ∀ base, Cal P w K mg base 2 "ring_of" ["fraction"] (spRin K)) (cN : ∀ base, Cal P w K mg base 2 "name_of" ["ring"] (spNam K)) (cK : Cal P w K mg base 6 "keep_fewest" ["drawing", "is_wished"] (spKf P w K mg base C)) : FnOk P w K mg base CX0 7 f fd ["drawing", "numbers"] (spAn T K C 12) := by
  obtain ⟨t400, g400⟩ := g400
  obtain ⟨t22, g22⟩ := g22
  refine F.ok scClo (fun vs H Q E h => an_len h) (fun A outer s H vs Q E hr h => ⟨_,
      pss_cons (ps_set (i := 2) scClo.nd rfl (Or.inl rfl) (pe_ix ix_list (pv 1) pe_int (fun _ _ => rfl)))
      (pss_cons (ps_set (i := 3) scClo.nd rfl (Or.inl rfl) (pe_ix ix_list (pv 1) pe_int (fun _ _ => rfl)))
      (pss_cons (ps_if (PW.pt (pw_or (pt_cmpR op_gt (pv 2) (pe_glob (v := .int 400) rfl g400 ⟨_, rfl⟩) (nomark _)) (pw_or1 (pt_not (pt_val (pe_k (cI _) (hr.mono (by decide)) rfl (pa_cons (pv 2) (pa_cons (pv 3) pa_nil))))))))
        (pss_one (ps_ret (pe_lst (pa_cons (pe_glob (v := .int (-22)) rfl g22 ⟨_, rfl⟩) pa_nil)))) pss_nil)
      (pss_cons (ps_set (i := 4) scClo.nd rfl (Or.inr rfl) (pe_k (cN _) (hr.mono (by decide)) rfl (pa_cons (pe_tup (pa_cons (pv 2) (pa_cons (pv 3) pa_nil))) pa_nil)))
      (pss_one (ps_ret (pe_keep1 (T := T) (c := c) (Pt := Pt) (y := "wished") (i := 4) cK hr rfl LT.tb rfl LT.mem LT.one rfl (fun _ => rfl) rfl rfl (by decide +kernel) (pv 0)))))))  , ?_⟩)
  obtain ⟨d, nl, dx, af, v, ns, last, zs, a⟩ := an_open (by decide) h
  obtain ⟨p, q, ez, p1, q1⟩ := sh_nn a.ask (.inr rfl)
  subst ez
  obtain rfl := a.args
  have s0 := Same.refl H
  have e := p_clo (ns := ns) (last := last) (p := p) (q := q)
  have eR : Kqz3.okRing p q = (decide (p ≤ 400) && isRi p q) := okRing_is p q
  refine ⟨_, rfl, _, _, _, _, rfl, rfl, a.num, ix0, ?_⟩
  refine ⟨_, rfl, _, _, _, _, rfl, rfl, a.num, ix1, ?_⟩
  refine ⟨_, rfl, _, _, rfl, rfl, _, rfl, ?_⟩
  by_cases cp : 400 < p
  · rw [if_pos (by rw [eR, decide_eq_false (by omega : ¬ p ≤ 400)]; rfl)] at e
    exact if_t (decide_eq_true (by omega)) ⟨sz1, (a.stayL e).fin s0⟩
  · refine if_f (decide_eq_false (by omega)) ⟨_, rfl, _, rfl, p, q, rfl, fun H1 s1 => ⟨_, rfl, ?_⟩⟩
    rw [decide_eq_true (by omega : p ≤ 400), Bool.true_and] at eR
    by_cases ci : isRi p q = true
    · have okr : Kqz3.okRing p q = true := by rw [eR, ci]
      obtain ⟨ro, rl⟩ := okRing_ok okr
      rw [okr, if_neg (by simp)] at e
      rw [ci]
      refine if_f rfl ⟨_, rfl, _, rfl, sz2, fun t ht => ?_⟩
      have st : Same H1 (upd H1 t (.tup [.int (p : Int), .int (q : Int)])) := same_upd ht
      refine ⟨t, ⟨p, q⟩, rfl, SqT.of upd_same, ro, (by show p < 1000000; omega), fun H3 n s3 hn => ?_⟩
      have s2 := (s1.trans st).trans s3
      refine ⟨_, rfl, a.tabs.ext s2, .ref n, rfl, fun fl c' cc co pm ctv H2 ex T2 f0 f1 c1 hcc nc hco => ?_⟩
      have exH : ExtN H H2 := (ExtN.of s2).trans ex
      obtain ⟨k1, k2⟩ := a.foundC (pr := Kqz6.closes ⟨p, q⟩) (co := co) e exH T2 nc
      have sc2 : Same H2 (upd H2 cc (FZ co)) := same_upd nc
      refine ⟨d, fl, dx, af, v, ns, _, Kqz6.closes ⟨p, q⟩, rfl, (a.dr.extN exH).same sc2, a.ok, ?_, k1, k2⟩
      refine wish1 (x := "fraction") (y := "wished") (v := .ref n) (N := ["fraction", "wished"]) (nsc (by decide +kernel)) (clo1 rfl hcc) (fun _ _ _ => rfl) (sc2 _ _ f1) (sc2 _ _ c1) upd_same hco fun A2 outer2 s2 H0 hr2 sm =>
        ⟨_, pe_cmpR (op_eqD hr2.units) (pe_k (cN _) hr2 rfl (pa_cons (pe_k (cR _) hr2 rfl (pa_cons (pv 0) pa_nil)) pa_nil)) (pv 1) (nomark _), fun b g Q2 hb gg gw k => ?_⟩
      refine ⟨_, rfl, b, g, rfl, hb, fun H4 r s4 hr4 => ?_⟩
      have hr5 : H4 r = some (.tup (rV (Kqz3.ringOf g))) := by rw [← ringV_is]; exact hr4
      refine ⟨r, _, rfl, SqT.of hr5, ringOf_ok gg, ringP_small gw, fun H5 m s5 hm => ⟨_, rfl, ?_⟩⟩
      exact eqv_ring (SqT.of hm) ((s4.trans s5).sqT (sm.sqT ((hid_upd nc).sqT (extN_sqT ex (SqT.of hn))))) (k _ (s4.trans s5))
    · have cf : isRi p q = false := by simpa using ci
      rw [eR, cf, if_pos rfl] at e
      rw [cf]
      exact if_t rfl ⟨sz1, (a.stayL e).fin s1⟩
end
end Fc
end
section
set_option autoImplicit false
/-! a list of calls -/
namespace Fc
theorem whole_id (c : List (List Int)) : PyKqz6.whole c = c := by
  unfold PyKqz6.whole
  split <;> rfl
def handedX : List Int := [0, 1, 0, 0, 0, 0, 0, 2, 0, 0, 0, 2, 2, 1, 1, 1, 0, 0, 0, 0, 0]
theorem shape_in : ∀ j : Nat, j < 21 → PyKqz6.shape (j : Int) = some ((handedX.getD j 0).toNat, 0) ∧ handedX[j]? = some (((handedX.getD j 0).toNat : Nat) : Int) := by decide +kernel
theorem shape_out {p : Int} (h : ¬ (0 ≤ p ∧ p < 21)) : PyKqz6.shape p = none := by
  unfold PyKqz6.shape
  iterate 21 rw [if_neg (by omega)]
theorem shape_at {p : Int} {n k : Nat} (h : PyKqz6.shape p = some (n, k)) : k = 0 ∧ ∃ j : Nat, p = (j : Int) ∧ j < 21 ∧ handedX[j]? = some (n : Int) := by
  by_cases hp : 0 ≤ p ∧ p < 21
  · obtain ⟨j, rfl⟩ := Int.eq_ofNat_of_zero_le hp.1
    obtain ⟨h1, h2⟩ := shape_in j (by omega)
    rw [h1] at h
    obtain ⟨e1, e2⟩ := Prod.mk.inj (Option.some.inj h)
    rw [e1] at h2
    exact ⟨e2.symm, j, rfl, by omega, h2⟩
  · rw [shape_out hp] at h
    cases h
theorem calls_cons {f : Nat} {p : Int} {r : List Int} {cs : List (List (List Int))} (h : PyFlat.calls PyKqz6.shape f (p :: r) = some cs) :
    ∃ (f' n j : Nat) (cs' : List (List (List Int))), cs = [p :: r.take n] :: cs' ∧ n ≤ r.length ∧ PyFlat.calls PyKqz6.shape f' (r.drop n) = some cs' ∧ p = (j : Int) ∧ j < 21 ∧ handedX[j]? = some (n : Int) := by
  cases f with
  | zero => cases h
  | succ f' =>
    unfold PyFlat.calls at h
    cases e : PyFlat.call PyKqz6.shape (p :: r) with
    | none =>
      rw [e] at h
      cases h
    | some ct =>
      obtain ⟨c, t⟩ := ct
      rw [e] at h
      dsimp only at h
      unfold PyFlat.call at e
      dsimp only at e
      cases es : PyKqz6.shape p with
      | none =>
        rw [es] at e
        cases e
      | some nk =>
        obtain ⟨n, k⟩ := nk
        rw [es] at e
        dsimp only at e
        obtain ⟨rfl, j, hj1, hj2, hj3⟩ := shape_at es
        split at e
        · cases e
        · rename_i hl
          have e : some ((p :: r.take n) :: [], r.drop n) = some (c, t) := e
          have e' := Prod.mk.inj (Option.some.inj e)
          obtain ⟨e1, e2⟩ := e'
          subst e1
          subst e2
          cases ec : PyFlat.calls PyKqz6.shape f' (r.drop n) with
          | none =>
            rw [ec] at h
            cases h
          | some cs' =>
            rw [ec] at h
            have h : some ([p :: r.take n] :: cs') = some cs := h
            exact ⟨f', n, j, cs', (Option.some.inj h).symm, by omega, ec, hj1, hj2, hj3⟩
theorem calls_nil {f : Nat} {cs : List (List (List Int))} (h : PyFlat.calls PyKqz6.shape f [] = some cs) : cs = [] := by
  cases f <;> exact (Option.some.inj h).symm
abbrev tolds (s : Option Kqz6.Desk) (cs : List (List (List Int))) : List Int := PyFlat.told (PyFlat.played Kqz6Neutral.step s cs)
theorem tolds_cons (s : Option Kqz6.Desk) (c : List (List Int)) (cs : List (List (List Int))) : tolds s (c :: cs) = (((nst s c).2.length : Nat) : Int) :: (nst s c).2 ++ tolds (nst s c).1 cs := rfl
theorem asked_is {l : List Int} (h : PyKqz6.answers_asked l = true) : ∃ cs, PyFlat.calls PyKqz6.shape l.length l = some cs ∧ (∀ c ∈ cs, Kqz6Neutral.asked1 c = true) ∧ PyKqz6.answers l = tolds none cs ∧ (PyKqz6.answers l).length ≤ 10000000 := by
  unfold PyKqz6.answers_asked at h
  cases e : PyFlat.calls PyKqz6.shape l.length l with
  | none =>
    rw [e] at h
    cases h
  | some cs =>
    rw [e] at h
    dsimp only at h
    rw [Bool.and_eq_true, Bool.and_eq_true, Bool.and_eq_true, Bool.and_eq_true] at h
    obtain ⟨⟨⟨⟨_, _⟩, _⟩, h4⟩, h5⟩ := h
    have em : cs.map PyKqz6.whole = cs := by
      have : PyKqz6.whole = id := funext whole_id
      rw [this, List.map_id]
    rw [em] at h4
    unfold Kqz6Neutral.asked at h4
    rw [Bool.and_eq_true, Bool.and_eq_true, Bool.and_eq_true, List.all_eq_true] at h4
    refine ⟨cs, rfl, h4.1.2.1, ?_, of_decide_eq_true h5⟩
    unfold PyKqz6.answers PyKqz6.calls
    rw [e]
    dsimp only
    rw [em]
    rfl
/-- ahead of a start -/
theorem p_none {j : Int} {zs : List Int} (h : Kqz6Neutral.asked1 [j :: zs] = true) (hj : j ≠ 0) : nst none [j :: zs] = (none, [-11]) := by
  rcases shape h with ⟨e, z⟩ | ⟨a, e, z⟩ | ⟨a, b, e, z⟩
  · subst e
    rcases z with rfl | rfl | rfl | rfl | rfl | rfl | rfl | rfl | rfl | rfl | rfl | rfl | rfl | rfl
    · exact absurd rfl hj
    all_goals rfl
  · subst e
    rcases z with ⟨rfl, _⟩ | ⟨rfl | rfl | rfl, _⟩ <;> rfl
  · subst e
    rcases z with ⟨rfl | rfl, _⟩ | ⟨rfl, _⟩ <;> rfl
theorem j_small {j : Int} {zs : List Int} (h : Kqz6Neutral.asked1 [j :: zs] = true) : ∃ n : Nat, j = (n : Int) ∧ n < 21 := by
  rcases shape h with ⟨e, z⟩ | ⟨a, e, z⟩ | ⟨a, b, e, z⟩ <;> exact ⟨j.toNat, by omega, by omega⟩
end Fc
end
section
set_option Elab.async false
set_option linter.all false
set_option maxRecDepth 100000
set_option maxHeartbeats 2000000
/-! answer, answers -/
namespace Fc
open PySem PySem.Spec PyProof.Rows L2 LamX
section
variable {P : Program} {w : World} {K : PySem.W.Frag} {mg : Str → Option Value} {base : Heap} {C : Addr} {T : List (Addr × Str)}
theorem scAns : FnScope ["drawing", "number", "numbers"] ["drawing", "number", "numbers"] (defScope (topS 68)) := ⟨rfl, rfl, rfl, by decide +kernel, rfl, by decide +kernel, by decide +kernel⟩
def spAns (T : List (Addr × Str)) (K : PySem.W.Frag) (C : Addr) : Sp := fun vs H Q _ => ∃ (d nl : Addr) (s : Option Kqz6.Desk) (j : Int) (zs : List Int), vs = [.ref d, .int j, .ref nl] ∧ DkAt K C H d s ∧ SqL K H nl (inV zs) ∧ Tabs T H ∧ Kqz6Neutral.asked1 [j :: zs] = true ∧ AnK T K C d H (nst s [j :: zs]) Q
theorem dk_dr {H : Hp} {d : Addr} {s : Option Kqz6.Desk} (h : DkAt K C H d s) : ∃ ns wy dx af v, DrAt K C H d s.isSome ns wy dx af v := by
  cases s with
  | none =>
    obtain ⟨dx, af, v, D⟩ := h
    exact ⟨_, _, _, _, _, D⟩
  | some D =>
    obtain ⟨ns, _, _, _, dx, af, v, D⟩ := h
    exact ⟨_, _, _, _, _, D⟩
theorem dk_same {H H' : Hp} {d : Addr} {s : Option Kqz6.Desk} (h : DkAt K C H d s) (e : Same H H') : DkAt K C H' d s := by
  cases s with
  | none =>
    obtain ⟨dx, af, v, D⟩ := h
    exact ⟨_, _, _, D.same e⟩
  | some D =>
    obtain ⟨ns, h1, h2, h3, dx, af, v, D⟩ := h
    exact ⟨ns, h1, h2, h3, _, _, _, D.same e⟩
theorem ok_ans {f da : Addr} {fs : List Addr} {fd : FuncData} (F : Fun K "answer" "answer" (topS 68) f fd) (L : Kl K mg C) (g0 : ∃ t, mg "START" = some (.int 0 t)) (g11 : ∃ t, mg "NOT_STARTED" = some (.int (-11) t)) (gA : mg "ANSWERED_BY" = some (.ref da)) (kA : KTab K da fs)
    (cA : ∀ j : Nat, j < 21 → ∃ f, fs[j]? = some f ∧ Cad P w K mg base 7 f (spAn T K C (j : Int))) : FnOk P w K mg base CX0 8 f fd ["drawing", "number", "numbers"] (spAns T K C) := by
  obtain ⟨t0, g0⟩ := g0
  obtain ⟨t11, g11⟩ := g11
  refine F.ok scAns (fun vs H Q E h => ?_) (fun cdv A outer s H vs Q E hr h => ⟨_,
      pss_cons (ps_if (PW.pt (pw_and (pt_cmpR op_ne (pv 1) (pe_glob (v := .int 0) rfl g0 ⟨_, rfl⟩) (nomark _)) (pw_and1 (pt_not (pt_val (pe_fld (pv 0) rfl))))))
        (pss_one (ps_ret (pe_lst (pa_cons (pe_glob (v := .int (-11)) rfl g11 ⟨_, rfl⟩) pa_nil)))) pss_nil)
      (pss_one (ps_ret (pe_callX hr (pe_ix ix_ktab (pe_glob (v := .ref da) rfl gA rfl) (pv 1) (fun _ _ => rfl)) (pa_cons (pv 0) (pa_cons (pv 2) pa_nil))))), ?_⟩)
  · obtain ⟨d, nl, s, j, zs, rfl, _⟩ := h
    rfl
  · obtain ⟨d, nl, s, j, zs, rfl, hD, hn, ht, ha, k⟩ := h
    obtain ⟨n, rfl, hn21⟩ := j_small ha
    obtain ⟨f, hf, cf⟩ := cA n hn21
    obtain ⟨ns, wy, dx, af, v, D⟩ := dk_dr hD
    have go : (n ≠ 0 → s ≠ none) → tRet (tCallX P w K mg base 7 (tOp (fun x y H Q => ∃ d fs j f, x = .ref d ∧ y = .int ((j : Nat) : Int) ∧ KTab K d fs ∧ fs[j]? = some f ∧ Q (.ref f) H) (tC (.ref da)) (tVar 1)) (tCons (tVar 0) (tCons (tVar 2) tNil))) { nx := fun _ H' => Q .non H', rt := Q } (L2.start ["drawing", "number", "numbers"] [.ref d, .int (n : Int), .ref nl]) H := fun hs => by
      refine ⟨_, rfl, da, fs, n, f, rfl, rfl, kA, hf, f, _, rfl, cf, _, rfl, _, rfl, ?_⟩
      exact ⟨d, nl, s, zs, rfl, hD, fun z => hs (fun e => z (by rw [e] <;> rfl)), hn, ht, ha, k⟩
    refine ⟨_, rfl, rfl, _, rfl, ?_⟩
    by_cases c : n = 0
    · have e : (!decide (V.int (n : Int) = V.int 0)) = false := by rw [c]; rfl
      refine if_f e ?_
      exact if_f rfl (go fun z => absurd c z)
    · have e : (!decide (V.int (n : Int) = V.int 0)) = true := by
        rw [decide_eq_false (by rw [V.int.injEq]; omega)]
        rfl
      refine if_t e ⟨_, rfl, d, C, dx, _, _, rfl, D.obj, L.cl, L.nS, dF_on, _, rfl, ?_⟩
      cases s with
      | none =>
        refine if_t rfl ⟨sz1, fun p hp => ?_⟩
        rw [p_none ha (by omega)] at k
        have s1 : Same H (upd H p (.lst [.int (-11)])) := same_upd hp
        exact k _ p (But.of s1).bx (ht.ext s1) (dk_same hD s1) upd_same
      | some D0 => exact if_f rfl (go fun _ z => nomatch z)
end
end Fc
end
section
set_option Elab.async false
set_option linter.all false
set_option maxRecDepth 100000
set_option maxHeartbeats 2000000
/-! a list kept from a call: what it holds stays as it is -/
namespace Fc
open PySem PySem.Spec PyProof.Rows L2
section
variable {P : Program} {w : World} {K : PySem.W.Frag} {mg : Str → Option Value} {base : Heap} {A : Around} {outer : List Env} {s s' : Shared} {H : Hp} {c : Addr} {xs : List V}
theorem hok_downL {H : Hp} {h : Heap} (hok : HOk P w H h) (n : H c = some (.lst xs)) : HOk P w (hidC c H) h := fun b u q => by
  by_cases hb : b = c
  · rw [hb, hidC_same] at q
    cases q
  · rw [hidC_ne hb] at q
    refine (hok b u q).stay (fun _ _ _ z => z) (fun d z => ?_) fun d xs z => ?_
    · rw [hidC_ne (ne_of z n (by intro y; cases y))]
      exact z
    · rw [hidC_ne (ne_of z n (by intro y; cases y))]
      exact z
theorem hok_upL {H : Hp} {h : Heap} (hok : HOk P w H h) (n : H c = none) (e : ObjOk P w (upd H c (.lst xs)) h c (.lst xs)) : HOk P w (upd H c (.lst xs)) h := fun b u q => by
  by_cases hb : b = c
  · rw [hb, upd_same] at q
    cases q
    rw [hb]
    exact e
  · rw [upd_ne hb] at q
    refine (hok b u q).stay (fun _ _ _ z => z) (fun d z => ?_) fun d xs z => ?_
    · rw [upd_ne (ne_of_none z n)]
      exact z
    · rw [upd_ne (ne_of_none z n)]
      exact z
theorem env_downL (e0 : Env0 P w K mg base A outer s H) (n : H c = some (.lst xs)) : Env0 P w K mg base A outer s (hidC c H) :=
  ⟨e0.frames, e0.mod, fun b ob q => ⟨(e0.bs b ob q).1, by
    have hb : b ≠ c := fun z => by
      have := (e0.bs b ob q).2
      rw [z, n] at this
      cases this
    rw [hidC_ne hb]
    exact (e0.bs b ob q).2⟩, e0.bsz, e0.funs, fun b hb => by
    by_cases hne : b = c
    · rw [hne]
      exact hidC_same
    · rw [hidC_ne hne]
      exact e0.frf b hb, hok_downL e0.hok n, e0.bare⟩
theorem ce_upL {Q Q' : VK} {u : Value} (e0 : Env0 P w K mg base A outer s H) (n : H c = some (.lst xs)) (hQ : ∀ v H3, H3 c = none → Q' v H3 → Q v (upd H3 c (.lst xs))) (h : CE outer P w (hidC c H) s Q' u s') : CE outer P w H s Q u s' := by
  obtain ⟨v, H3, os, bare, un, hok, r, q⟩ := h
  obtain ⟨zl, its, m, rv, e⟩ := e0.hok c _ n
  have nf : c ∉ frs outer := fun z => by
    have := e0.frf c z
    rw [n] at this
    cases this
  have n3 : H3 c = none := un.free c _ e hidC_same (by simp)
  have e3 := un.keep c _ e hidC_same nf (by simp)
  refine ⟨v, upd H3 c (.lst xs), os, bare, ⟨fun b ob q1 q2 q3 q4 => ?_, fun b ob q1 q2 q3 q4 => ?_, fun b ob q1 q2 q4 => ?_, un.there, fun b ys q1 => ?_, fun b ob u1 q1 => ?_, fun b ps q1 => ?_⟩, hok_upL hok n3 ⟨zl, its, m, rv, e3⟩, r, hQ v H3 n3 q⟩
  · have hb : b ≠ c := fun z => by rw [z, n] at q2; cases q2
    exact un.keep b ob q1 (by rw [hidC_ne hb]; exact q2) q3 q4
  · have hb : b ≠ c := fun z => by rw [z, n] at q2; cases q2
    exact un.slot b ob q1 (by rw [hidC_ne hb]; exact q2) q3 q4
  · have hb : b ≠ c := fun z => by rw [z, n] at q2; cases q2
    rw [upd_ne hb]
    exact un.free b ob q1 (by rw [hidC_ne hb]; exact q2) q4
  · have hb : b ≠ c := fun z => by rw [z, n] at q1; cases q1
    rw [upd_ne hb]
    exact un.tups b ys (by rw [hidC_ne hb]; exact q1)
  · have hb : b ≠ c := fun z => by rw [z, n] at q1; cases q1
    rw [upd_ne hb]
    exact un.frzs b ob u1 (by rw [hidC_ne hb]; exact q1)
  · have hb : b ≠ c := fun z => by rw [z, n] at q1; cases q1
    rw [upd_ne hb]
    exact un.tbls b ps (by rw [hidC_ne hb]; exact q1)
end
/-- f(e, ..), a list kept from it -/
def tKH (sp : Sp) (t : TA) : TE := fun σ H Q => t σ H fun vs H1 => ∃ D xs, H1 D = some (.lst xs) ∧ sp vs (hidC D H1) (fun v H3 => H3 D = none → Q v (upd H3 D (.lst xs))) E0
section
variable {X : Cx} {k : Nat} {x : Str} {ps : List Str} {sp : Sp} {p pos : Pos} {e : Expr} {es : List Expr} {t : TA}
theorem pe_kH (c : Cal X.prog X.w X.K X.mg X.base k x ps sp) (hr : Room k X.A) (hg : Gl X x) (ha : PA X (e :: es) t)
    (hdb : (x == ("__debug__" : Str)) = false := by decide) (he : starEach (e :: es) X.env = (false, eval e X.env) :: starEach es X.env := by rfl) (hpl : (backTo pos (starEach es X.env)).any (·.1) = false := by rfl) :
    PE X (.Call (.Name x p) (e :: es) [] pos) (tKH sp t) := by
  obtain ⟨f, fd, F, hmg, hk, hb⟩ := c.ex
  refine ⟨fun pins s σ H Q I h => wpAny_Call_Name_kw (ld_glob I hg hmg (PySem.W.callWith_K (h₀ := X.base) I.ok.mod.kin hk (thn (ha.run pos pins s σ H _ I h) ?_) he hpl) hdb)⟩
  rintro us s2 ⟨vs, H2, I2, r2, D, xs, hD, q2⟩
  refine ⟨I2.kIn, ?_⟩
  have hl : (us ++ ([] : List Value)).length = ps.length := by
    rw [List.append_nil, ← r2.length]
    exact F.len _ _ _ _ q2
  have hbind := hb s2 us I2.kIn hl
  rw [List.append_nil] at hbind
  have e2 := env_downL I2.env0 hD
  refine wpAny_call (codeAny_mono (F.run X.A X.stack s2 _ ⟨us, []⟩ us vs _ E0 hr e2 hbind r2 q2) fun r s' hq => ?_)
  cases r with
  | error e => exact hq.elim
  | ok fl =>
    cases fl with
    | ret u => exact I2.after (ce_upL I2.env0 hD (fun v H3 n w => w n) hq)
    | next => exact hq.elim
    | brk => exact hq.elim
    | cont => exact hq.elim
end
end Fc
end
section
set_option Elab.async false
set_option linter.all false
set_option maxRecDepth 100000
set_option maxHeartbeats 2000000
/-! answers -/
namespace Fc
open PySem PySem.Spec PyProof.Rows L2 LamX
theorem hidC_upd {D : Addr} {H : Hp} {o : HO} : hidC D (upd H D o) = hidC D H := funext fun b => by
  by_cases h : b = D
  · rw [h, hidC_same, hidC_same]
  · rw [hidC_ne h, hidC_ne h, upd_ne h]
theorem hidC_none {D : Addr} {H : Hp} (n : H D = none) : hidC D H = H := funext fun b => by
  by_cases h : b = D
  · rw [h, hidC_same, n]
  · rw [hidC_ne h]
theorem hid_back {D : Addr} {H : Hp} : Same (hidC D H) H := fun b o e => by
  by_cases h : b = D
  · rw [h, hidC_same] at e
    cases e
  · rw [hidC_ne h] at e
    exact e
theorem hid_out {D b : Addr} {H : Hp} {o : HO} (n : H D = none) : Same H (hidC D (upd H D o)) := hid_upd n
theorem cut_at {l : List Int} {i n : Nat} (h : i + 1 + n ≤ l.length) : cutV (inV l) (some ((i : Int) + 1)) (some ((i : Int) + 1 + (n : Int))) = inV ((l.drop (i + 1)).take n) := by
  unfold cutV
  have e1 : (i : Int) + 1 = ((i + 1 : Nat) : Int) := by omega
  have e2 : ((i + 1 : Nat) : Int) + (n : Int) = ((i + 1 + n : Nat) : Int) := by omega
  rw [e1, e2, HT.sIx_nat, HT.sIx_nat, inV_len, Nat.min_eq_left (show i + 1 + n ≤ l.length from h), Nat.min_eq_left (show i + 1 ≤ l.length by omega)]
  have e3 : i + 1 + n - (i + 1) = n := by omega
  rw [e3]
  unfold inV
  rw [List.map_take, List.map_drop]
section
variable {P : Program} {w : World} {K : PySem.W.Frag} {mg : Str → Option Value} {base : Heap} {C : Addr} {T : List (Addr × Str)}
theorem bx_seqL {d C2 dx2 a : Addr} {fs : List (Str × V)} {H H' : Hp} {xs : List V} (s : Bx d H H') (hd : H d = some (.ins C2 dx2 fs)) (h : SqL K H a xs) : SqL K H' a xs := by
  rcases h with (h | ⟨o, h⟩) | h
  · exact .inl (.inl (s _ _ h (ne_of h hd (by intro z; cases z)) (fun _ z => by cases z)))
  · exact .inl (.inr ⟨o, s _ _ h (ne_of h hd (by intro z; cases z)) (fun _ z => by cases z)⟩)
  · exact .inr h
theorem scAll : FnScope ["calls", "drawing", "told", "at", "number", "end", "one"] ["calls"] (defScope (topS 69)) := ⟨rfl, rfl, rfl, by decide +kernel, rfl, by decide +kernel, by decide +kernel⟩
def spAll (T : List (Addr × Str)) (K : PySem.W.Frag) : Sp := fun vs H Q _ => ∃ (a : Addr) (l : List Int), vs = [.ref a] ∧ SqL K H a (inV l) ∧ PyKqz6.answers_asked l = true ∧ Tabs T H ∧ ∀ H' p, H' p = some (.lst (inV (PyKqz6.answers l))) → Q (.ref p) H'
theorem ok_all {f fI hd : Addr} {fd fdI : FuncData} (F : Fun K "answers" "answers" (topS 69) f fd) (L : Kl K mg C) (M : Mk K C fI) (FI : FnOk P w K mg base CX0 1 fI fdI ["self"] (spIni K C)) (bI : Binds K fdI ["self"] []) (nN : mg "len" = none) (gH : mg "HANDED" = some (.ref hd)) (hH : ∀ H, SqT K H hd (inV handedX))
    (cA : Cal P w K mg base 8 "answer" ["drawing", "number", "numbers"] (spAns T K C)) : FnOk P w K mg base CX0 9 f fd ["calls"] (spAll T K) := by
  refine F.ok scAll (fun vs H Q E h => ?_) (fun cdv A outer s H vs Q E hr h => ⟨_,
      pss_cons (ps_set (i := 1) scAll.nd rfl (Or.inl rfl) (pe_make0 M FI (hr.mono (by decide)) rfl L.gC bI .nil pass0))
      (pss_cons (ps_set (i := 2) scAll.nd rfl (Or.inl rfl) (pe_lst pa_nil))
      (pss_cons (ps_set (i := 3) scAll.nd rfl (Or.inl rfl) pe_int)
      (pss_cons (ps_while PassesOwn.never (pt_cmpR op_lt (pv 3) (pe_callB call_len_seq (by rfl) nN PySem.boot_len (pa_cons (pv 0) pa_nil)) (nomark _))
        (pss_cons (ps_set (i := 4) scAll.nd rfl (Or.inl rfl) (pe_ix ix_list (pv 0) (pv 3) (fun _ _ => rfl)))
        (pss_cons (ps_set (i := 5) scAll.nd rfl (Or.inl rfl) (pe_op op_add (pe_op op_add (pv 3) pe_int) (pe_ix ix_tup (pe_glob (v := .ref hd) rfl gH rfl) (pv 4) (fun _ _ => rfl))))
        (pss_cons (ps_set (i := 6) scAll.nd rfl (Or.inl rfl) (pe_kH cA hr rfl (pa_cons (pv 1) (pa_cons (pv 4) (pa_cons (pe_slice sl_list (pv 0) (po_some (pe_op op_add (pv 3) pe_int)) (po_some (pv 5))) pa_nil)))))
        (pss_cons (ps_expr (pe_bm PySem.F.plainAttrs_list PySem.F.slot_list_append PySem.F.type_list_append mt_append (pv 2) (pa_cons (pe_callB call_len_seq (by rfl) nN PySem.boot_len (pa_cons (pv 6) pa_nil)) pa_nil)))
        (pss_cons (ps_expr (pe_bm PySem.F.plainAttrs_list PySem.F.slot_list_extend PySem.F.type_list_extend mt_extend (pv 2) (pa_cons (pv 6) pa_nil)))
        (pss_one (ps_set (i := 3) scAll.nd rfl (Or.inl rfl) (pv 5)))))))))
      (pss_one (ps_ret (pv 2)))))), ?_⟩)
  · obtain ⟨a, l, rfl, _⟩ := h
    rfl
  · obtain ⟨a, l, rfl, hS, hq, ht, k⟩ := h
    obtain ⟨cs0, hc0, hk0, ht0, hz⟩ := asked_is hq
    intro x dx hx hdx hne
    have s1 : Same H (upd (upd H dx (.own x)) x (.ins C dx [])) := (same_upd hdx).trans (same_upd (by rw [upd_ne (Ne.symm hne)]; exact hx))
    refine ⟨x, dx, rfl, upd_same, fun H2 b2 D2 => ⟨rfl, ?_⟩⟩
    have hS2 : SqL K H2 a (inV l) := But.seqL b2 upd_same (s1.seq hS)
    have ht2 : Tabs T H2 := tabs_but b2 upd_same (ht.ext s1)
    refine ⟨(by decide), fun D hD => ?_⟩
    have eh : hidC D (upd H2 D (.lst [])) = H2 := by rw [hidC_upd, hidC_none hD]
    refine while_by (fun σ H' => ∃ (i f : Nat) (cs : List (List (List Int))) (s : Option Kqz6.Desk) (out : List Int) (v4 v5 v6 : Option V), σ = [some (.ref a), some (.ref x), some (.ref D), some (.int (i : Int)), v4, v5, v6] ∧ i ≤ l.length ∧ PyFlat.calls PyKqz6.shape f (l.drop i) = some cs ∧ (∀ c ∈ cs, Kqz6Neutral.asked1 c = true) ∧
        DkAt K C (hidC D H') x s ∧ Tabs T (hidC D H') ∧ SqL K (hidC D H') a (inV l) ∧ H' D = some (.lst (inV out)) ∧ out ++ tolds s cs = PyKqz6.answers l)
      (fun σ _ => match σ with | [_, _, _, some (.int y), _, _, _] => l.length - y.toNat | _ => 0) ⟨0, l.length, cs0, none, [], none, none, none, rfl, Nat.zero_le _, hc0, hk0, ?_, ?_, ?_, upd_same, ?_⟩ ?_ ?_
    · rw [eh]
      exact D2
    · rw [eh]
      exact ht2
    · rw [eh]
      exact hS2
    · rw [List.nil_append, ht0]
    · rintro σ H' ⟨i, f, cs, s, out, v4, v5, v6, rfl, hi, hc, hk, hd1, ht1, hs1, hD1, he⟩
      have hsA := hid_back.seq hs1
      refine ⟨_, rfl, _, rfl, a, _, rfl, .inl hsA, _, _, rfl, rfl, _, rfl, ?_⟩
      rw [inV_len]
      by_cases c : i < l.length
      · have ed : l.drop i = l[i] :: l.drop (i + 1) := List.drop_eq_getElem_cons c
        rw [ed] at hc
        obtain ⟨f', n, j, cs', rfl, hn, hc', hp, hj, hha⟩ := calls_cons hc
        rw [List.length_drop] at hn
        rw [List.drop_drop] at hc'
        have ask := hk _ List.mem_cons_self
        rw [tolds_cons] at he
        have hlen := congrArg List.length he
        rw [List.length_append, List.length_append, List.length_cons] at hlen
        have line : sizeLine = 16777216 := sizeLine_eq
        refine if_t (decide_eq_true (by omega)) ?_
        have hat : atI (inV l) (i : Int) = some (.int l[i]) := atn (by
          unfold inV
          rw [List.getElem?_map, List.getElem?_eq_getElem c]
          rfl)
        refine ⟨_, rfl, _, rfl, _, _, _, _, rfl, rfl, hsA, hat, ?_⟩
        have hah : atI (inV handedX) l[i] = some (.int (n : Int)) := by
          rw [hp]
          refine atn ?_
          unfold inV
          rw [List.getElem?_map, hha]
          rfl
        refine ⟨_, rfl, _, _, rfl, rfl, _, rfl, _, _, _, _, rfl, rfl, hH _, hah, _, _, rfl, rfl, ?_⟩
        refine ⟨_, rfl, _, rfl, _, rfl, _, rfl, _, _, rfl, rfl, _, rfl, _, rfl, _, rfl, a, _, rfl, hsA, fun p hp1 => ?_⟩
        rw [cut_at (by omega)]
        have hpD : p ≠ D := fun z => by
          rw [z, hD1] at hp1
          cases hp1
        have sH1 : Same (hidC D H') (hidC D (upd H' p (.lst (inV ((l.drop (i + 1)).take n))))) := fun b o e => by
          by_cases hb : b = D
          · rw [hb, hidC_same] at e
            cases e
          · rw [hidC_ne hb] at e ⊢
            exact (same_upd hp1) _ _ e
        refine ⟨D, _, (same_upd hp1) _ _ hD1, x, p, s, l[i], (l.drop (i + 1)).take n, rfl, dk_same hd1 sH1, SqL.of (by rw [hidC_ne hpD]; exact upd_same), ht1.ext sH1, ask, fun H3 p1 b3 t3 d3 h3 n3 => ?_⟩
        have hx1 : ∃ dx fs, hidC D (upd H' p (.lst (inV ((l.drop (i + 1)).take n)))) x = some (.ins C dx fs) := by
          obtain ⟨_, _, _, _, _, D0⟩ := dk_dr (dk_same hd1 sH1)
          exact ⟨_, _, D0.obj⟩
        obtain ⟨dx1, fs1, hx1⟩ := hx1
        have hs3 : SqL K H3 a (inV l) := bx_seqL b3 hx1 (sH1.seq hs1)
        have hp1D : p1 ≠ D := fun z => by
          rw [z, n3] at h3
          cases h3
        generalize nst s [l[i] :: (l.drop (i + 1)).take n] = res at d3 h3 he hlen ⊢
        refine ⟨_, rfl, .inl ⟨rfl, _, SqL.of upd_same⟩, _, rfl, p1, _, rfl, .inl (SqL.of (by rw [upd_ne hp1D]; exact h3)), D, _, _, rfl, rfl, upd_same, ?_, ?_⟩
        · rw [inV_len]
          omega
        · refine ⟨_, rfl, .inl ⟨rfl, _, SqL.of upd_same⟩, _, rfl, D, p1, _, _, rfl, rfl, upd_same, by rw [upd_ne hp1D, upd_ne hp1D]; exact h3, ?_, ?_⟩
          · rw [List.length_append, inV_len, inV_len]
            show _ + 1 + _ ≤ _
            omega
          · refine ⟨_, rfl, ⟨i + 1 + n, f', cs', res.1, out ++ ((res.2.length : Int) :: res.2), some (.int l[i]), some (.int ((i : Int) + 1 + (n : Int))), some (.ref p1), ?_, by omega, ?_, fun c hc => hk c (List.mem_cons_of_mem _ hc), ?_, ?_, ?_, ?_, ?_⟩, ?_⟩
            · have e9 : (i : Int) + 1 + (n : Int) = ((i + 1 + n : Nat) : Int) := by omega
              show ([some (.ref a), some (.ref x), some (.ref D), some (.int ((i : Int) + 1 + (n : Int))), some (.int l[i]), some (.int ((i : Int) + 1 + (n : Int))), some (.ref p1)] : L2.St) = _
              rw [e9]
            · exact hc'
            · rw [hidC_upd, hidC_upd, hidC_upd, hidC_none n3]
              exact d3
            · rw [hidC_upd, hidC_upd, hidC_upd, hidC_none n3]
              exact t3
            · rw [hidC_upd, hidC_upd, hidC_upd, hidC_none n3]
              exact hs3
            · rw [upd_same]
              unfold inV
              rw [List.map_append, List.length_map, List.append_assoc]
              rfl
            · rw [← he, List.append_assoc]
            · show l.length - ((i : Int) + 1 + (n : Int)).toNat < l.length - (i : Int).toNat
              omega
      · refine if_f (decide_eq_false (by omega)) ⟨_, rfl, ?_⟩
        have e0 : l.drop i = [] := List.drop_eq_nil_of_le (by omega)
        rw [e0] at hc
        rw [calls_nil hc] at he
        have he : out ++ [] = PyKqz6.answers l := he
        rw [List.append_nil] at he
        rw [he] at hD1
        exact k H' D hD1
    · intro σ H' Q1 Q2 hq2 h
      obtain ⟨v, e, v2, e2, a2, ys, e3, o, i, j, e4, e5, k1, e6, h⟩ := h
      exact ⟨v, e, v2, e2, a2, ys, e3, o, i, j, e4, e5, k1, e6, hq2 _ _ h⟩
end
end Fc
end
section
set_option Elab.async false
set_option linter.all false
set_option maxRecDepth 100000
set_option maxHeartbeats 2000000
/-! the walk through a set's table, of any mask that comes for a thousand items -/
namespace Fc
open PySem PySem.Spec PyProof.Rows L2
/-- n steps of x -> 5 x + 1, with the places met -/
def orb (m : Nat) : Nat → Nat → Nat → Nat × Nat
  | 0, x, s => (x, s)
  | n + 1, x, s => orb m n ((x * 5 + 1) % (m + 1)) (s ||| 2 ^ x)
theorem lcgI_shift (m x : Nat) : ∀ k, lcgI m ((x * 5 + 1) % (m + 1)) k = lcgI m x (k + 1)
  | 0 => rfl
  | k + 1 => congrArg (fun y => (y * 5 + 1) % (m + 1)) (lcgI_shift m x k)
theorem lcgI_plus (m x a : Nat) : ∀ k, lcgI m (lcgI m x a) k = lcgI m x (a + k)
  | 0 => rfl
  | k + 1 => congrArg (fun y => (y * 5 + 1) % (m + 1)) (lcgI_plus m x a k)
theorem orb_end (m : Nat) : ∀ n x s, (orb m n x s).1 = lcgI m x n
  | 0, _, _ => rfl
  | n + 1, x, s => by
    show (orb m n _ _).1 = _
    rw [orb_end m n, lcgI_shift]
theorem orb_bit (m : Nat) : ∀ n x s j, (orb m n x s).2.testBit j = true → s.testBit j = true ∨ ∃ k, k < n ∧ lcgI m x k = j
  | 0, _, _, _, h => .inl h
  | n + 1, x, s, j, h => by
    have h : (orb m n ((x * 5 + 1) % (m + 1)) (s ||| 2 ^ x)).2.testBit j = true := h
    rcases orb_bit m n _ _ j h with q | ⟨k, hk, e⟩
    · rw [Nat.testBit_or, Bool.or_eq_true, Nat.testBit_two_pow, decide_eq_true_iff] at q
      rcases q with q | q
      · exact .inl q
      · exact .inr ⟨0, Nat.succ_pos n, q⟩
    · exact .inr ⟨k + 1, Nat.succ_lt_succ hk, by rw [← lcgI_shift]; exact e⟩
/-- the masks of a set of up to a thousand items -/
def Mk5 (m : Nat) : Prop := m ∈ [7, 31, 127, 511, 2047]
theorem full5 : ∀ m ∈ [7, 31, 127, 511, 2047], orb m (m + 1) 0 0 = (0, 2 ^ (m + 1) - 1) := by decide +kernel
theorem Mk5.odd {m : Nat} (h : Mk5 m) : m % 2 = 1 := (by decide : ∀ m ∈ [7, 31, 127, 511, 2047], m % 2 = 1) m h
theorem Mk5.le {m : Nat} (h : Mk5 m) : m ≤ 2047 := (by decide : ∀ m ∈ [7, 31, 127, 511, 2047], m ≤ 2047) m h
/-- from the beginning all places are met -/
theorem Mk5.zero {m : Nat} (hm : Mk5 m) {j : Nat} (hj : j ≤ m) : ∃ k, k ≤ m ∧ lcgI m 0 k = j := by
  have q := orb_bit m (m + 1) 0 0 j (by
    rw [full5 m hm, Nat.testBit_two_pow_sub_one, decide_eq_true_iff]
    omega)
  rcases q with q | ⟨k, hk, e⟩
  · rw [Nat.zero_testBit] at q
    cases q
  · exact ⟨k, by omega, e⟩
theorem Mk5.back {m : Nat} (hm : Mk5 m) : lcgI m 0 (m + 1) = 0 := by rw [← orb_end m (m + 1) 0 0, full5 m hm]
/-- from anywhere too -/
theorem Mk5.any {m : Nat} (hm : Mk5 m) {i j : Nat} (hi : i ≤ m) (hj : j ≤ m) : ∃ k, k ≤ m ∧ lcgI m i k = j := by
  obtain ⟨a, ha, rfl⟩ := hm.zero hi
  obtain ⟨b, hb, rfl⟩ := hm.zero hj
  by_cases c : a ≤ b
  · exact ⟨b - a, by omega, by rw [lcgI_plus, Nat.add_sub_cancel' c]⟩
  · refine ⟨m + 1 - a + b, by omega, ?_⟩
    have e : a + (m + 1 - a + b) = m + 1 + b := by omega
    rw [lcgI_plus, e, ← lcgI_plus, hm.back]
/-- each place begins a run -/
theorem Mk5.meet {m : Nat} (hm : Mk5 m) (h : Int) {j : Nat} (hj : j ≤ m) : ∃ n, n ≤ m + 12 ∧ runI m (SetTable.bits h) n = j := by
  obtain ⟨k, hk, e⟩ := hm.any (runI_le m (SetTable.bits h) 12) hj
  refine ⟨12 + k, Nat.add_comm 12 k ▸ Nat.add_le_add_right hk 12, ?_⟩
  rw [runI_tail (bits_lt h) k]
  exact e
/-- the walk of a hash comes within its bound to a place that is not taken -/
theorem Mk5.first {m : Nat} (hm : Mk5 m) (h : Int) {pl : List Nat} (hl : pl.length ≤ m) : ∃ K, K < 10 * SetTable.turns m ∧ way m h K ∉ pl ∧ ∀ k, k < K → way m h k ∈ pl := by
  obtain ⟨j, hj, nj⟩ := st_missing pl (m + 1) (Nat.lt_succ_of_le hl)
  obtain ⟨n, hn, en⟩ := hm.meet h (Nat.le_of_lt_succ hj)
  obtain ⟨q, hq, eq⟩ := run_nth m (SetTable.bits h) n
  have wq : way m h q = j := by
    unfold way
    rw [eq]
    exact en
  obtain ⟨K, b1, b2, b3⟩ := st_least (p := fun k => ¬ way m h k ∈ pl) q (by rw [wq]; exact nj)
  refine ⟨K, ?_, b2, fun k hk => Classical.not_not.mp (b3 k hk)⟩
  have : SetTable.turns m = m + 15 := rfl
  omega
theorem way_in (m : Nat) (h : Int) (k : Nat) : way m h k ≤ m := by
  have b := runEnd_bd (m := m) (i := SetTable.bits h % (m + 1)) (Nat.le_of_lt_succ (Nat.mod_lt _ (Nat.succ_pos m)))
  have z := nth_in (m := m) k (runAt m (SetTable.bits h % (m + 1)) (SetTable.bits h))
  unfold way
  unfold runAt at z ⊢
  dsimp only at z
  have z2 := z (by omega)
  omega
end Fc
end
section
set_option Elab.async false
set_option linter.all false
set_option maxRecDepth 100000
set_option maxHeartbeats 2000000
/-! a set's table: one more, and all laid anew -/
namespace Fc
open PySem PySem.Spec PyProof.Rows L2
/-- each place of the table is met on the walk of its hash, behind taken places alone -/
def Path (m : Nat) (pl : List Nat) (h : Int) (j : Nat) : Prop := ∃ k, way m h k = j ∧ ∀ i, i < k → way m h i ∈ pl
theorem Path.grow {m : Nat} {pl ql : List Nat} {h : Int} {j : Nat} (p : Path m pl h j) (s : ∀ x ∈ pl, x ∈ ql) : Path m ql h j := by
  obtain ⟨k, e, b⟩ := p
  exact ⟨k, e, fun i hi => s _ (b i hi)⟩
structure Tab5 (t : SetTable) (hs : List Int) : Prop where
  up : Ris t.place.toList
  bare : t.dummies = #[]
  len : t.place.toList.length = hs.length
  mask : Mk5 t.mask
  low : ∀ x ∈ t.place.toList, x ≤ t.mask
  path : ∀ (i : Nat) (h : Int) (j : Nat), hs[i]? = some h → t.place.toList[i]? = some j → Path t.mask t.place.toList h j
/-- on the way to a free place all of that hash are met -/
theorem Path.cut {m K : Nat} {pl : List Nat} {h : Int} {j : Nat} (p : Path m pl h j) (hj : j ∈ pl) (hK : way m h K ∉ pl) : ∃ k, k < K ∧ way m h k = j := by
  obtain ⟨k, e, b⟩ := p
  by_cases c : k < K
  · exact ⟨k, c, e⟩
  · by_cases d : K < k
    · exact absurd (b K d) hK
    · have z : k = K := by omega
      rw [← z, e] at hK
      exact absurd hj hK
theorem Tab5.put {t : SetTable} {hs : List Int} (T : Tab5 t hs) {h : Int} {K : Nat} (free : way t.mask h K ∉ t.place.toList) (behind : ∀ k, k < K → way t.mask h k ∈ t.place.toList) :
    ∃ p, SetTable.below t.place (way t.mask h K) = p ∧ p ≤ hs.length ∧ Tab5 (t.put (way t.mask h K)).1 (hs.take p ++ h :: hs.drop p) := by
  generalize hj : way t.mask h K = j at free
  have jm : j ≤ t.mask := hj ▸ way_in t.mask h K
  have cut := (below_cut T.up j).1
  have le : SetTable.below t.place j ≤ hs.length := by
    rw [← T.len, Array.length_toList]
    exact cut
  have le2 : SetTable.below t.place j ≤ t.place.toList.length := by rw [T.len]; exact le
  have pp := put_place t j
  refine ⟨_, rfl, le, ?_⟩
  generalize SetTable.below t.place j = p at cut le le2 pp
  have more : ∀ x ∈ t.place.toList, x ∈ (t.put j).1.place.toList := fun x hx => by
    rw [pp, mem_ins]
    exact .inr hx
  refine ⟨?_, put_dm T.bare j, ?_, T.mask, fun x hx => ?_, fun i g q hi hq => ?_⟩
  · exact ris_insert T.up fun z => free (by
      rw [Array.getElem?_eq_some_iff] at z
      obtain ⟨lt, e⟩ := z
      rw [← e]
      exact Array.getElem_mem_toList lt)
  · rw [pp, len_ins _ le2, len_ins _ le, T.len]
  · rw [pp, mem_ins] at hx
    exact hx.elim (fun z => z ▸ jm) (T.low x)
  · rw [tins_get hs le] at hi
    rw [pp, tins_get _ le2] at hq
    show Path t.mask (t.put j).1.place.toList g q
    by_cases c : i < p
    · rw [if_pos c] at hi hq
      exact (T.path i g q hi hq).grow more
    · rw [if_neg c] at hi hq
      by_cases d : i = p
      · rw [if_pos d] at hi hq
        cases hi
        cases hq
        exact ⟨K, hj, fun i hi => more _ (behind i hi)⟩
      · rw [if_neg d] at hi hq
        exact (T.path (i - 1) g q hi hq).grow more
/-! ### laid anew -/
/-- the first free place of a hash's walk is found -/
theorem Mk5.find {m : Nat} (hm : Mk5 m) (ow : Array (Option Nat)) (h : Int) {j : Nat} (hj : j ≤ m) (hf : oAt ow j = none) :
    ∃ K, SetTable.layClean.free m ow (SetTable.turns m) (SetTable.bits h % (m + 1)) (SetTable.bits h) = some (way m h K) ∧ oAt ow (way m h K) = none ∧ ∀ k, k < K → oAt ow (way m h k) ≠ none := by
  obtain ⟨n, hn, en⟩ := hm.meet h hj
  -- the n-th run begins there
  have there : way m h (off m (SetTable.bits h % (m + 1)) (SetTable.bits h) n) = j := by
    unfold way
    rw [nth_off, itL_run, ← en]
    rfl
  obtain ⟨K, b1, b2, b3⟩ := st_least (p := fun k => oAt ow (way m h k) = none) _ (by rw [there]; exact hf)
  have turns : n < SetTable.turns m := by
    show n < m + 15
    omega
  refine ⟨K, free_spec m ow _ n _ _ K turns b1 (fun k hk => ?_) ?_, b2, b3⟩
  · cases e : oAt ow (way m h k) with
    | none => exact absurd e (b3 k hk)
    | some _ =>
      unfold way at e
      first
        | rfl
        | (rw [e]; rfl)
  · unfold way at b2
    rw [b2]
    rfl
theorem own_next {m : Nat} (hm : Mk5 m) {past : List Int} {ow : Array (Option Nat)} (W : Own m past ow) (hl : past.length ≤ m) (h : Int) :
    ∃ j, SetTable.layClean.free m ow (SetTable.turns m) (SetTable.bits h % (m + 1)) (SetTable.bits h) = some j ∧ Own m (past ++ [h]) (ow.setIfInBounds j (some past.length)) := by
  obtain ⟨taken, tl, tk⟩ := W.ps
  obtain ⟨f, fm, fn⟩ := st_missing taken (m + 1) (by omega)
  have f0 : oAt ow f = none := Classical.byContradiction fun z => fn (tk f (by omega) z)
  obtain ⟨K, c1, c2, c3⟩ := hm.find ow h (Nat.le_of_lt_succ fm) f0
  refine ⟨_, c1, ?_⟩
  have jm := way_in m h K
  generalize ej : way m h K = j at c2 jm
  have now : oAt (ow.setIfInBounds j (some past.length)) j = some past.length := oAt_set_self _ (by rw [W.sz]; omega)
  have old : ∀ {i : Nat}, i ≠ j → oAt (ow.setIfInBounds j (some past.length)) i = oAt ow i := fun z => oAt_set_ne _ z
  have still : ∀ {i : Nat}, oAt ow i ≠ none → oAt (ow.setIfInBounds j (some past.length)) i ≠ none := fun {i} z => by
    have ne : i ≠ j := fun y => z (y ▸ c2)
    rw [old ne]
    exact z
  constructor
  · rw [Array.size_setIfInBounds, W.sz]
  · intro i k hi e
    by_cases c : i = j
    · rw [c, now] at e
      cases e
      exact ⟨h, K, List.getElem?_concat_length, ej.trans c.symm, fun x hx => still (c3 x hx)⟩
    · rw [old c] at e
      obtain ⟨g, n, d1, d2, d3⟩ := W.at_ i k hi e
      exact ⟨g, n, (List.getElem?_append_left (List.getElem?_eq_some_iff.mp d1).1).trans d1, d2, fun x hx => still (d3 x hx)⟩
  · intro k hk
    have hk : k < past.length + 1 := by simpa using hk
    by_cases c : k = past.length
    · exact ⟨j, jm, c ▸ now⟩
    · obtain ⟨i, hi, e⟩ := W.all k (by omega)
      refine ⟨i, hi, (old fun z => ?_).trans e⟩
      rw [z, c2] at e
      cases e
  · refine ⟨j :: taken, by simp [tl], fun i hi e => ?_⟩
    by_cases c : i = j
    · exact c ▸ List.mem_cons_self
    · rw [old c] at e
      exact List.mem_cons_of_mem _ (tk i hi e)
theorem own_fold {m : Nat} (hm : Mk5 m) : ∀ (more past : List Int) (ow : Array (Option Nat)), Own m past ow → past.length + more.length ≤ m →
    ∃ ow2, more.foldl (stepF m) (some (ow, past.length)) = some (ow2, past.length + more.length) ∧ Own m (past ++ more) ow2
  | [], past, ow, W, _ => ⟨ow, rfl, (List.append_nil past).symm ▸ W⟩
  | h :: more, past, ow, W, hl => by
    have hl : past.length + (more.length + 1) ≤ m := hl
    obtain ⟨j, e, W1⟩ := own_next hm W (by omega) h
    have l1 : (past ++ [h]).length = past.length + 1 := List.length_append
    obtain ⟨ow2, f, W2⟩ := own_fold hm more (past ++ [h]) _ W1 (by omega)
    refine ⟨ow2, ?_, by rw [List.append_assoc] at W2; exact W2⟩
    rw [List.foldl_cons, stepF_some e, ← l1, f, l1, List.length_cons]
    congr 2
    omega
/-- the owners of all -/
theorem own_all {m : Nat} (hm : Mk5 m) {hs : Array Int} (hl : hs.size ≤ m) : ∃ ow, SetTable.layClean m hs = some ow ∧ Own m hs.toList ow := by
  obtain ⟨ow, e, W⟩ := own_fold hm hs.toList [] _ (Own.init m) (by simpa using hl)
  rw [layClean_eq]
  have e : hs.toList.foldl (stepF m) (some (Array.replicate (m + 1) none, 0)) = some (ow, 0 + hs.toList.length) := e
  exact ⟨ow, by rw [e]; rfl, W⟩
theorem laid_new (t : SetTable) {hs : Array Int} {wanted m : Nat} (hw : SetTable.sizeAbove wanted - 1 = m) (hm : Mk5 m) (hl : hs.size ≤ m) :
    ∃ t2 ord, t.relaid hs wanted = some (t2, ord) ∧ ord.toList.Perm (List.range hs.size) ∧ Tab5 t2 (ord.toList.map fun i => hs.getD i 0) ∧ t2.mask = m ∧ t2.led = t.led ∧ t2.plain = t.plain := by
  obtain ⟨ow, e, W⟩ := own_all hm hl
  have rise := ris_live (fun j => ow.getD j none) (List.range (m + 1)) List.pairwise_lt_range
  have rise1 : Ris ((liveOf m ow).map (·.1)) := rise.1
  have rise2 : ∀ x ∈ (liveOf m ow).map (·.1), x ∈ List.range (m + 1) := rise.2
  have once : ((liveOf m ow).map (·.1)).Nodup := rise1.imp Nat.ne_of_lt
  have own : ∀ {j k : Nat}, (j, k) ∈ liveOf m ow ↔ j ≤ m ∧ oAt ow j = some k := mem_live W.sz
  obtain ⟨taken, tl, tk⟩ := W.ps
  have tl2 : taken.length = hs.size := tl.trans Array.length_toList
  have least : (liveOf m ow).length ≤ hs.size := by
    have z := nat_nodup_len _ taken once fun x hx => by
      obtain ⟨⟨j, k⟩, hm, rfl⟩ := List.mem_map.mp hx
      have q := own.mp hm
      exact tk j q.1 (by rw [q.2]; exact Option.some_ne_none k)
    rw [List.length_map] at z
    omega
  have has : ∀ k, k < hs.size → k ∈ (liveOf m ow).map (·.2) := fun k hk => by
    obtain ⟨j, hj, ej⟩ := W.all k (by simpa using hk)
    exact List.mem_map.mpr ⟨(j, k), own.mpr ⟨hj, ej⟩, rfl⟩
  have most : hs.size ≤ (liveOf m ow).length := by
    have z := nat_nodup_len (List.range hs.size) _ List.nodup_range fun k hk => has k (List.mem_range.mp hk)
    rw [List.length_range, List.length_map] at z
    exact z
  refine ⟨tabOf t m ow, ((liveOf m ow).map (·.2)).toArray, by rw [relaid_eq, hw, e]; rfl, ?_, ?_, rfl, rfl, rfl⟩
  · exact perm_range hs.size _ (by show ((liveOf m ow).map (·.2)).length = _; rw [List.length_map]; omega) has
  · refine ⟨rise1, rfl, ?_, hm, fun x hx => Nat.le_of_lt_succ (List.mem_range.mp (rise2 x hx)), fun i h j hi hj => ?_⟩
    · show ((liveOf m ow).map (·.1)).length = (((liveOf m ow).map (·.2)).map fun i => hs.getD i 0).length
      simp only [List.length_map]
    · have hi : (((liveOf m ow).map (·.2)).map fun i => hs.getD i 0)[i]? = some h := hi
      have hj : ((liveOf m ow).map (·.1))[i]? = some j := hj
      rw [List.map_map, List.getElem?_map, Option.map_eq_some_iff] at hi
      rw [List.getElem?_map, Option.map_eq_some_iff] at hj
      obtain ⟨⟨j1, k1⟩, e1, e2⟩ := hi
      obtain ⟨⟨j2, k2⟩, e3, e4⟩ := hj
      rw [e1] at e3
      cases e3
      have e4 : j1 = j := e4
      have e2 : hs.getD k1 0 = h := e2
      subst e4
      obtain ⟨a1, a2⟩ := own.mp (List.mem_of_getElem? e1)
      obtain ⟨g, n, d1, d2, d3⟩ := W.at_ j1 k1 a1 a2
      have eg : g = h := by
        rw [← e2, Array.getD_eq_getD_getElem?, ← Array.getElem?_toList, d1]
        rfl
      refine ⟨n, eg ▸ d2, fun x hx => ?_⟩
      have d4 := d3 x hx
      rw [eg] at d4
      obtain ⟨k3, e5⟩ := Option.ne_none_iff_exists'.mp d4
      exact List.mem_map.mpr ⟨(way m h x, k3), own.mpr ⟨way_in m h x, e5⟩, rfl⟩
end Fc
end
section
set_option Elab.async false
set_option linter.all false
set_option maxRecDepth 100000
set_option maxHeartbeats 2000000
/-! a set of tuples of ints, up to a thousand: looked up -/
namespace Fc
open PySem PySem.Spec PyProof.Rows L2
abbrev Row5 := Addr × List Int
/-- the state of a walk after c steps -/
abbrev prb (m : Nat) (h : Int) (c : Nat) : SetTable.Probe := nth m (runAt m (SetTable.bits h % (m + 1)) (SetTable.bits h)) c
theorem prb_on (m : Nat) (h : Int) (c q : Nat) : nth m (prb m h c) q = prb m h (c + q) := (nth_add m c _ q).symm
theorem prb_dm (m : Nat) (h : Int) : ∀ c, (prb m h c).dummy = none
  | 0 => rfl
  | c + 1 => by
    have e : prb m h (c + 1) = adv m (prb m h c) := nth_succ m _ c
    rw [e]
    unfold adv
    split
    · exact prb_dm m h c
    · exact prb_dm m h c
/-- a set of tuples of ints in the heap -/
structure Set5 (P : Program) (w : World) (h : Heap) (a : Addr) (L : List Row5) (es : Array (Int × Value)) (ep : Nat) (t : SetTable) : Prop where
  ob : ∃ o, h.get? a = some o ∧ o.ExactSet ∧ o.data = .set es ep t
  rows : es.toList = rowsOf P w L
  tab : Tab5 t (L.map fun p => thash P w p.2)
  once : (L.map (·.2)).Nodup
  tup : ∀ p ∈ L, IsT P w h p.2 p.1
  plain : t.plain = true
  led : w.params.followText "set-order" = true ∨ t.led = true
  room : L.length * 5 < t.mask * 3
theorem rows_len {P : Program} {w : World} {L : List Row5} {es : Array (Int × Value)} (h : es.toList = rowsOf P w L) : es.size = L.length := by
  rw [← Array.length_toList, h]
  exact List.length_map _
section
variable {P : Program} {w : World} {A : Around} {E : Value → Shared → Prop} {s : Shared} {a x : Addr} {L : List Row5} {es : Array (Int × Value)} {ep : Nat} {t : SetTable} {k : List Int}
theorem Set5.size (R : Set5 P w s.heap a L es ep t) : es.size = L.length := rows_len R.rows
theorem Set5.plen (R : Set5 P w s.heap a L es ep t) : t.place.toList.length = L.length := by
  rw [R.tab.len]
  exact List.length_map _
theorem fits_by {t : SetTable} {n : Nat} (h1 : t.place.size = n) (h2 : t.dummies = #[]) (h3 : n ≤ t.mask) : t.fits n = true := by
  unfold SetTable.fits SetTable.fill
  rw [h2, h1, Bool.and_eq_true, beq_iff_eq, decide_eq_true_iff]
  exact ⟨rfl, h3⟩
theorem Set5.fits (R : Set5 P w s.heap a L es ep t) : t.fits es.size = true := by
  have z := R.plen
  have r := R.room
  rw [Array.length_toList] at z
  exact fits_by (z.trans R.size.symm) R.tab.bare (by rw [R.size]; omega)
theorem Set5.at_ (R : Set5 P w s.heap a L es ep t) {i : Nat} {p : Row5} (h : L[i]? = some p) : es[i]? = some (thash P w p.2, Value.ref p.1) := by
  have z : (rowsOf P w L)[i]? = some (thash P w p.2, Value.ref p.1) := by
    unfold rowsOf
    rw [List.getElem?_map, h]
    rfl
  rw [← R.rows, Array.getElem?_toList] at z
  exact z
theorem Set5.calm (R : Set5 P w s.heap a L es ep t) : ¬ t.gaveWay = true := by
  have o := R.tab.mask.odd
  unfold SetTable.gaveWay
  rw [o]
  decide
/-- what a search among the rows needs: K, the first free place of the walk -/
structure Seek (P : Program) (w : World) (s : Shared) (a x : Addr) (k : List Int) (L : List Row5) (es : Array (Int × Value)) (ep : Nat) (t : SetTable) (K : Nat) : Prop where
  set : Set5 P w s.heap a L es ep t
  key : IsT P w s.heap k x
  few : K < 10 * SetTable.turns t.mask
  free : way t.mask (thash P w k) K ∉ t.place.toList
  used : ∀ c, c < K → way t.mask (thash P w k) c ∈ t.place.toList
/-- rows of the key stand on the walk from c on -/
def Ahead (P : Program) (w : World) (k : List Int) (L : List Row5) (t : SetTable) (K c : Nat) : Prop := ∀ (i : Nat) (p : Row5), L[i]? = some p → p.2 = k → ∃ d, c ≤ d ∧ d < K ∧ t.place.toList[i]? = some (way t.mask (thash P w k) d)
theorem seek_from {K : Nat} (S : Seek P w s a x k L es ep t K) (hu : A.units < cLine) {Q : SetFound → Shared → Prop} (yes : k ∈ L.map (·.2) → Q (.there none) s) (no : k ∉ L.map (·.2) → Q (.free (way t.mask (thash P w k) K) false) s) :
    ∀ (f c : Nat) (st : Option SetTable.Probe), st.getD (t.probeStart (thash P w k)) = prb t.mask (thash P w k) c → c ≤ K → K < c + f → Ahead P w k L t K c →
      wpAny (model P w) A (setSearchFrom a (.ref x) (thash P w k) true f st) Q E s
  | 0, c, st, _, h1, h2, _ => absurd h2 (by omega)
  | f + 1, c, st, hst, h1, h2, ah => by
    have R := S.set
    obtain ⟨o, ho, _, hd⟩ := R.ob
    -- the hash at a place
    have hat : ∀ (i : Nat) (p : Row5), L[i]? = some p → (fun i => (es[i]?.map (·.1)).getD 0) i = thash P w p.2 := fun i p hp => by
      dsimp only
      rw [R.at_ hp]
      rfl
    have step : ∀ q, (nth t.mask (prb t.mask (thash P w k) c) q).j = way t.mask (thash P w k) (c + q) := fun q => congrArg SetTable.Probe.j (prb_on t.mask (thash P w k) c q)
    have last : c + (K - c) = K := Nat.add_sub_cancel' h1
    have met := go_spec t R.tab.up R.tab.bare (fun i => (es[i]?.map (·.1)).getD 0) (thash P w k) (10 * SetTable.turns t.mask) (K - c) (prb t.mask (thash P w k) c) (prb_dm _ _ c) (Nat.lt_of_le_of_lt (Nat.sub_le K c) S.few)
      (fun q hq => (step q).symm ▸ S.used (c + q) (by omega)) (by rw [step, last]; exact S.free)
    -- no row of the key is behind a place all of whose hashes differ
    have miss : ∀ d : Nat, c ≤ d → (∀ q i : Nat, q < d - c → t.place.toList[i]? = some (nth t.mask (prb t.mask (thash P w k) c) q).j → (fun i => (es[i]?.map (·.1)).getD 0) i ≠ thash P w k) → ∀ (i : Nat) (p : Row5), L[i]? = some p → p.2 = k → ∀ e : Nat, c ≤ e → e < d → t.place.toList[i]? ≠ some (way t.mask (thash P w k) e) := fun d _ nope i p hp hk e e1 e2 e3 => by
      refine nope (e - c) i (by omega) ?_ ((hat i p hp).trans (congrArg (thash P w) hk))
      rw [step, Nat.add_sub_cancel' e1]
      exact e3
    rw [setSearchFrom_succ]
    refine wpAny_bind (wpAny_setState_of ho hd R.fits ?_)
    dsimp only
    refine wp_if_neg R.calm ?_
    try refine wpAny_bind (wpAny_pure ?_)
    have probe : t.probe (fun i => (es[i]?.map (·.1)).getD 0) (thash P w k) (st.getD (t.probeStart (thash P w k))) = SetTable.probe.go t (fun i => (es[i]?.map (·.1)).getD 0) (thash P w k) (10 * SetTable.turns t.mask) (prb t.mask (thash P w k) c) := by
      rw [hst]
      rfl
    rw [probe]
    rcases met with ⟨q, i, hq, hi, _, nope, go⟩ | ⟨nope, go⟩
    · rw [go, step, prb_on]
      dsimp only
      rw [step] at hi
      have il : i < L.length := R.plen ▸ (List.getElem?_eq_some_iff.mp hi).1
      obtain ⟨p, hp⟩ : ∃ p, L[i]? = some p := ⟨_, List.getElem?_eq_getElem il⟩
      have pm := List.mem_of_getElem? hp
      have live : t.slot (way t.mask (thash P w k) (c + q)) = .live i := slot_live R.tab.up hi
      have tail : wpAny (model P w) A (searchRest a (.ref x) (thash P w k) true f es t (way t.mask (thash P w k) (c + q)) i (prb t.mask (thash P w k) (c + (q + 1)))) Q E s := by
        unfold searchRest
        rw [R.at_ hp]
        dsimp only
        refine wpAny_bind (wpAny_holding (wpAny_eqBool_tuple hu (R.tup p pm) S.key ?_))
        refine wpAny_bind (wpAny_setState_of ho hd R.fits ?_)
        dsimp only
        by_cases same : p.2 = k
        · exact wp_if_pos (by simp [same]) (wpAny_pure (yes (List.mem_map.mpr ⟨p, pm, same⟩)))
        · refine wp_if_neg (by simp [same]) ?_
          try refine wpAny_bind (wpAny_pure ?_)
          rw [sameMem]
          dsimp only
          simp only [if_true, live, R.at_ hp]
          refine wpAny_bind (wpAny_isSame_ref_self (wpAny_bind (wpAny_pure ?_)))
          simp only [if_true]
          refine wp_if_neg (by simp [same]) ?_
          refine seek_from S hu yes no f (c + (q + 1)) _ rfl (by omega) (by omega) fun i2 p2 hp2 hk2 => ?_
          obtain ⟨d, d1, d2, d3⟩ := ah i2 p2 hp2 hk2
          refine ⟨d, ?_, d2, d3⟩
          by_cases lt : d < c + q
          · exact absurd d3 (miss (c + q) (Nat.le_add_right c q) (by rw [Nat.add_sub_cancel_left]; exact nope) i2 p2 hp2 hk2 d d1 lt)
          · by_cases eq : d = c + q
            · rw [eq] at d3
              have live2 := slot_live R.tab.up d3
              rw [live] at live2
              cases live2
              rw [hp] at hp2
              cases hp2
              exact absurd hk2 same
            · omega
      by_cases led : t.led = true
      · refine wp_if_neg (by simp [led]) ?_
        try refine wpAny_bind (wpAny_pure ?_)
        exact tail
      · refine wp_if_pos (by simp [led]) (wpAny_bind (seen_tup S.key (fun y hy => ?_) (wp_if_neg (by decide) ?_)))
        · obtain ⟨r, hr, rfl⟩ := List.mem_map.mp hy
          have hr2 : r ∈ es.toList := by
            have z : r ∈ es ∧ r.1 = thash P w k := by simpa using hr
            simpa using z.1
          rw [R.rows] at hr2
          obtain ⟨p2, hp2, rfl⟩ := List.mem_map.mp hr2
          exact ⟨p2.2, p2.1, rfl, R.tup p2 hp2⟩
        · try refine wpAny_bind (wpAny_pure ?_)
          exact tail
    · rw [go, step, last]
      dsimp only
      refine wpAny_pure (no fun hm => ?_)
      obtain ⟨p, pm, hk⟩ := List.mem_map.mp hm
      obtain ⟨i, hp⟩ := List.mem_iff_getElem?.mp pm
      obtain ⟨d, d1, d2, d3⟩ := ah i p hp hk
      exact miss K h1 nope i p hp hk d d1 d2 d3
/-- the search that adding asks for -/
theorem seek_at (R : Set5 P w s.heap a L es ep t) (hx : IsT P w s.heap k x) (hu : A.units < cLine) {Q : SetFound → Shared → Prop} (yes : k ∈ L.map (·.2) → Q (.there none) s)
    (no : ∀ K, k ∉ L.map (·.2) → way t.mask (thash P w k) K ∉ t.place.toList → (∀ c, c < K → way t.mask (thash P w k) c ∈ t.place.toList) → Q (.free (way t.mask (thash P w k) K) false) s) :
    wpAny (model P w) A (setSearch a (.ref x) (thash P w k) true) Q E s := by
  have room := R.room
  have plen := R.plen
  obtain ⟨K, k1, k2, k3⟩ := R.tab.mask.first (thash P w k) (pl := t.place.toList) (by omega)
  have ml := R.tab.mask.le
  have tn : SetTable.turns t.mask = t.mask + 15 := rfl
  refine seek_from ⟨R, hx, k1, k2, k3⟩ hu yes (fun n => no K n k2 k3) 100000 0 none rfl (Nat.zero_le K) (by omega) fun i p hp hk => ?_
  have hl : i < t.place.toList.length := plen ▸ (List.getElem?_eq_some_iff.mp hp).1
  obtain ⟨j, hj⟩ : ∃ j, t.place.toList[i]? = some j := ⟨_, List.getElem?_eq_getElem hl⟩
  have hh : (L.map fun p => thash P w p.2)[i]? = some (thash P w k) := by
    rw [List.getElem?_map, hp, ← hk]
    rfl
  obtain ⟨d, d1, d2⟩ := (R.tab.path i _ j hh hj).cut (List.mem_of_getElem? hj) k2
  exact ⟨d, Nat.zero_le d, d1, d2 ▸ hj⟩
end
end Fc
end
section
set_option Elab.async false
set_option linter.all false
set_option maxRecDepth 100000
set_option maxHeartbeats 4000000
/-! .. one more put in -/
namespace Fc
open PySem PySem.Spec PyProof.Rows L2
section
variable {P : Program} {w : World} {A : Around} {E : Value → Shared → Prop} {s : Shared} {a x : Addr} {L : List Row5} {es : Array (Int × Value)} {ep : Nat} {t : SetTable} {k : List Int}
/-- all laid anew in a larger table -/
theorem relay5 {o : Obj} {wanted m : Nat} {Q : Unit → Shared → Prop} (ho : s.heap.get? a = some o) (hex : o.ExactSet) (hd : o.data = .set es ep t) (rows : es.toList = rowsOf P w L) (len : t.place.toList.length = L.length) (bare : t.dummies = #[]) (le : L.length ≤ t.mask)
    (once : (L.map (·.2)).Nodup) (tup : ∀ p ∈ L, IsT P w s.heap p.2 p.1) (plain : t.plain = true) (led : w.params.followText "set-order" = true ∨ t.led = true) (hw : SetTable.sizeAbove wanted = m + 1) (hm : Mk5 m) (room : L.length * 5 < m * 3)
    (hQ : ∀ h2 L2 es2 ep2 t2, Heap.SameBut a s.heap h2 → Set5 P w h2 a L2 es2 ep2 t2 → L2.Perm L → Q () { s with heap := h2 }) : wpAny (model P w) A (setRelay a wanted) Q E s := by
  have el := rows_len rows
  have ml := hm.le
  have big : sizeLine = 16777216 := sizeLine_eq
  obtain ⟨t2, ord, e, perm, tab, tm, tl, tp⟩ := laid_new t (hs := es.map (·.1)) (m := m) (by rw [hw]; rfl) hm (by rw [Array.size_map, el]; omega)
  rw [Array.size_map, el] at perm
  obtain ⟨L2, r1, r2, r3⟩ := order_rows L es ord rows perm
  have n2 := r2.length_eq
  have el2 := rows_len r1
  rw [setRelay_eq]
  refine wpAny_bind (wpAny_setState_of ho hd (fits_by (by rw [Array.length_toList] at len; omega) bare (by omega)) ?_)
  dsimp only
  refine wp_if_neg (by omega) ?_
  try refine wpAny_bind (wpAny_pure ?_)
  rw [e]
  dsimp only
  refine wpAny_bind (wp_if_neg (by rw [el2, el, n2]; simp) ?_)
  try refine wpAny_bind (wpAny_pure ?_)
  refine wpAny_pure ?_
  dsimp only
  refine wpAny_storeSet_of ho hd (hQ _ L2 _ (ep + 1) t2 (Heap.SameBut.update ..) ⟨⟨_, store_at ho hd, ⟨hex.1, hex.2.1, hex.2.2⟩, rfl⟩, r1, by rw [r3]; exact tab, (r2.map (·.2)).nodup_iff.mpr once, fun p hp => isT_same (tup p (r2.mem_iff.mp hp)) ho hd (Heap.SameBut.update ..), tp.trans plain, tl ▸ led, by rw [n2, tm]; exact room⟩ r2) (by rw [el2, n2]; omega)
/-- when the table is laid anew, and how large -/
theorem grows {m n : Nat} (hm : Mk5 m) (h1 : n * 5 < m * 3) (h2 : m * 3 ≤ (n + 1) * 5) (h3 : n < 1000) : ∃ m2, SetTable.sizeAbove (SetTable.grown (n + 1)) = m2 + 1 ∧ Mk5 m2 ∧ (n + 1) * 5 < m2 * 3 := by
  have c : m = 7 ∨ m = 31 ∨ m = 127 ∨ m = 511 ∨ m = 2047 := by simpa [Mk5] using hm
  rcases c with rfl | rfl | rfl | rfl | rfl
  · obtain rfl : n = 4 := by omega
    exact ⟨31, by decide +kernel, (by unfold Mk5; decide), by omega⟩
  · obtain rfl : n = 18 := by omega
    exact ⟨127, by decide +kernel, (by unfold Mk5; decide), by omega⟩
  · obtain rfl : n = 76 := by omega
    exact ⟨511, by decide +kernel, (by unfold Mk5; decide), by omega⟩
  · obtain rfl : n = 306 := by omega
    exact ⟨2047, by decide +kernel, (by unfold Mk5; decide), by omega⟩
  · omega
theorem add5 (R : Set5 P w s.heap a L es ep t) (hx : IsT P w s.heap k x) (hu : A.units < cLine) (few : L.length < 1000) {Q : Bool → Shared → Prop}
    (hQ : ∀ b h2 L2 es2 ep2 t2, Heap.SameBut a s.heap h2 → Set5 P w h2 a L2 es2 ep2 t2 → (k ∈ L.map (·.2) ∧ L2 = L ∨ k ∉ L.map (·.2) ∧ L2.Perm ((x, k) :: L)) → Q b { s with heap := h2 }) : wpAny (model P w) A (setAddHashed a (.ref x) (thash P w k)) Q E s := by
  obtain ⟨o, ho, hex, hd⟩ := R.ob
  have big : sizeLine = 16777216 := sizeLine_eq
  have room := R.room
  unfold setAddHashed
  refine wpAny_holding ?_
  show wpAny _ _ (setAddHashedIn a (.ref x) (thash P w k) (99999 + 1)) _ _ _
  rw [setAddHashedIn_succ]
  refine wpAny_bind (wpAny_setState_of ho hd R.fits ?_)
  dsimp only
  refine wp_if_neg (by simp [byScan, Value.scannable]) ?_
  try refine wpAny_bind (wpAny_pure ?_)
  refine wpAny_bind (seek_at R hx hu (fun yes => ?_) fun K no free used => ?_)
  · dsimp only
    exact wpAny_pure (hQ false s.heap L es ep t (Heap.SameBut.refl a s.heap) R (.inl ⟨yes, rfl⟩))
  dsimp only
  refine wpAny_bind (wpAny_setState_of ho hd R.fits ?_)
  dsimp only
  obtain ⟨p, ep1, ple, T1⟩ := R.tab.put free used
  have fill1 : (t.put (way t.mask (thash P w k) K)).1.fill = L.length + 1 := by
    have z := T1.len
    have pl : p ≤ L.length := by rw [List.length_map] at ple; exact ple
    rw [len_ins _ ple, List.length_map, Array.length_toList] at z
    unfold SetTable.fill
    rw [T1.bare, z]
    rfl
  obtain ⟨t1, et1⟩ : ∃ t1, t1 = (t.put (way t.mask (thash P w k) K)).1 := ⟨_, rfl⟩
  have q1 : t1.mask = t.mask := by rw [et1]; rfl
  have q2 : t1.led = t.led := by rw [et1]; rfl
  have q3 : t1.plain = true := by rw [et1]; exact R.plain
  have two : t.put (way t.mask (thash P w k) K) = (t1, p) := by
    rw [et1, ← ep1]
    rfl
  rw [← et1] at T1 fill1
  rw [two]
  dsimp only
  first
    | exact absurd rfl (by assumption)
    | (refine wp_if_pos q3 (wpAny_bind (hashBy_tup hx ?_)))
    | (refine wpAny_bind (wp_if_pos q3 (hashBy_tup hx ?_)))
  simp only [if_true]
  -- the rows now
  have ins : (SetTable.insertAt es p (thash P w k, Value.ref x)).toList = rowsOf P w (L.take p ++ (x, k) :: L.drop p) := by rw [SetTable.toList_insertAt, rows_put, R.rows]
  have hs1 : (L.map fun p => thash P w p.2).take p ++ thash P w k :: (L.map fun p => thash P w p.2).drop p = (L.take p ++ (x, k) :: L.drop p).map fun p => thash P w p.2 := by simp [List.map_take, List.map_drop]
  rw [hs1] at T1
  have perm := put_perm L p (x, k)
  generalize L.take p ++ (x, k) :: L.drop p = L1 at ins T1 perm
  generalize SetTable.insertAt es p (thash P w k, Value.ref x) = es1 at ins
  have n1 : L1.length = L.length + 1 := perm.length_eq
  have e1 := rows_len ins
  have ele := R.size
  have once1 : (L1.map (·.2)).Nodup := (perm.map (·.2)).nodup_iff.mpr (List.nodup_cons.mpr ⟨no, R.once⟩)
  refine wpAny_bind (wpAny_storeSet_of ho hd ?_ (by omega))
  have sb : Heap.SameBut a s.heap (s.heap.update a (Obj.putSet es1 t1)) := Heap.SameBut.update ..
  have ho1 := store_at (es' := es1) (t' := t1) ho hd
  generalize s.heap.update a (Obj.putSet es1 t1) = h1 at sb ho1
  have tup1 : ∀ p ∈ L1, IsT P w h1 p.2 p.1 := fun p hp => by
    cases List.mem_cons.mp (perm.mem_iff.mp hp) with
    | inl z => exact isT_same (z ▸ hx) ho hd sb
    | inr z => exact isT_same (R.tup p z) ho hd sb
  have led1 : w.params.followText "set-order" = true ∨ t1.led = true := q2 ▸ R.led
  have full : t1.tooFull = decide (t.mask * 3 ≤ (L.length + 1) * 5) := by
    unfold SetTable.tooFull
    rw [fill1, q1]
  by_cases c : t.mask * 3 ≤ (L.length + 1) * 5
  · obtain ⟨m2, g1, g2, g3⟩ := grows R.tab.mask room c few
    have cf : (!false && t1.tooFull) = true := by rw [full, decide_eq_true c]; rfl
    have fin : wpAny (model P w) A (setRelay a (SetTable.grown (es.size + 1))) (fun _ s2 => wpAny (model P w) A (pure true) Q E s2) E { s with heap := h1 } := by
      rw [ele]
      refine relay5 (s := { s with heap := h1 }) ho1 ⟨hex.1, hex.2.1, hex.2.2⟩ rfl ins (by rw [T1.len, List.length_map]) T1.bare (by omega) once1 tup1 q3 led1 g1 g2 (by omega) fun h2 L2 es2 ep2 t2 sb2 R2 perm2 => ?_
      exact wpAny_pure (hQ true h2 L2 es2 ep2 t2 (sb.trans sb2) R2 (.inr ⟨no, perm2.trans perm⟩))
    first
      | exact wpAny_bind (wp_if_pos cf fin)
      | exact wp_if_pos cf (wpAny_bind fin)
  · have cf : ¬ (!false && t1.tooFull) = true := by rw [full, decide_eq_false c]; simp
    have fin : wpAny (model P w) A (pure true) Q E { s with heap := h1 } := wpAny_pure (hQ true h1 L1 es1 (ep + 1) t1 sb ⟨⟨_, ho1, ⟨hex.1, hex.2.1, hex.2.2⟩, rfl⟩, ins, T1, once1, tup1, q3, led1, by omega⟩ (.inr ⟨no, perm⟩))
    first
      | exact wp_if_neg cf fin
      | exact wpAny_bind (wp_if_neg cf (wpAny_pure fin))
end
end Fc
end
section
set_option Elab.async false
set_option linter.all false
set_option maxRecDepth 100000
set_option maxHeartbeats 4000000
/-! .. made of a list; how many it has -/
namespace Fc
open PySem PySem.Spec PyProof.Rows L2
/-- what the set has of the first i items -/
structure Upto (ks : List Row5) (i : Nat) (L : List Row5) : Prop where
  of : ∀ p ∈ L, p ∈ ks
  keys : ∀ k, k ∈ L.map (·.2) ↔ k ∈ (ks.take i).map (·.2)
  few : L.length ≤ i
theorem keys_on {ks : List Row5} {i : Nat} {p : Row5} (h : ks[i]? = some p) (k : List Int) : k ∈ (ks.take (i + 1)).map (·.2) ↔ k ∈ (ks.take i).map (·.2) ∨ k = p.2 := by
  rw [List.take_add_one, h, List.map_append, List.mem_append]
  simp
theorem Upto.on {ks L L2 : List Row5} {i : Nat} {p : Row5} (u : Upto ks i L) (h : ks[i]? = some p) (c : p.2 ∈ L.map (·.2) ∧ L2 = L ∨ p.2 ∉ L.map (·.2) ∧ L2.Perm (p :: L)) : Upto ks (i + 1) L2 := by
  rcases c with ⟨m, rfl⟩ | ⟨_, pm⟩
  · refine ⟨u.of, fun k => ?_, Nat.le_succ_of_le u.few⟩
    rw [keys_on h, ← u.keys]
    exact ⟨.inl, fun z => z.elim id fun e => e ▸ m⟩
  · refine ⟨fun q hq => ?_, fun k => ?_, pm.length_eq ▸ Nat.succ_le_succ u.few⟩
    · rcases List.mem_cons.mp (pm.mem_iff.mp hq) with rfl | z
      · exact List.mem_of_getElem? h
      · exact u.of q z
    · rw [keys_on h, ← u.keys, (pm.map (·.2)).mem_iff, List.map_cons, List.mem_cons, or_comm]
section
variable {P : Program} {w : World} {A : Around} {E : Value → Shared → Prop} {s : Shared}
theorem tup_keep {h h2 : Heap} {k : List Int} {b : Addr} (t : IsT P w h k b) (kp : ∀ c o, h.get? c = some o → h2.get? c = some o) : IsT P w h2 k b := by
  obtain ⟨o, its, n, e, z⟩ := t
  exact ⟨o, its, n, kp b o e, z⟩
theorem Set5.over {h h2 : Heap} {a : Addr} {L : List Row5} {es : Array (Int × Value)} {ep : Nat} {t : SetTable} (R : Set5 P w h a L es ep t) (kp : ∀ o, h.get? a = some o → h2.get? a = some o) (tp : ∀ p ∈ L, IsT P w h2 p.2 p.1) : Set5 P w h2 a L es ep t :=
  ⟨let ⟨o, e, z⟩ := R.ob; ⟨o, kp o e, z⟩, R.rows, R.tab, R.once, tp, R.plain, R.led, R.room⟩
abbrev set0 (w : World) : Obj := { cls := .type "set", dict := none, data := .set #[] 0 (.fresh 0 0 (!w.params.followText "set-order")) }
theorem set5_new {h : Heap} {a : Addr} (e : h.get? a = some (set0 w)) : Set5 P w h a [] #[] 0 (.fresh 0 0 (!w.params.followText "set-order")) := by
  refine ⟨⟨_, e, ⟨rfl, rfl, rfl⟩, rfl⟩, rfl, ⟨.nil, rfl, rfl, (by show (7 : Nat) ∈ [7, 31, 127, 511, 2047]; decide), (fun x hx => nomatch hx), fun i h j hi => ?_⟩, .nil, (fun p hp => nomatch hp), rfl, ?_, (by show 0 * 5 < 7 * 3; omega)⟩
  · rw [List.map_nil, List.getElem?_nil] at hi
    cases hi
  · show w.params.followText "set-order" = true ∨ (!w.params.followText "set-order") = true
    cases w.params.followText "set-order" <;> simp
/-- the loop that puts a list's items in -/
theorem fill5 {I : Addr} {fp wr : List Addr} {G : Array GenState → Array GenState → Prop} {n : Nat} {Pv : Nat → Value → Prop} {St : Nat → Shared → Prop} {R : Result → Shared → Prop} (W : WalksS P w A.in1 I fp wr G n Pv St) (S : Addr) (sf : S ∉ fp) (ks : List Row5) (hn : n = ks.length) (few : n ≤ 1000)
    (val : ∀ i v, Pv i v → ∃ p, ks[i]? = some p ∧ v = .ref p.1) (h0 : Heap) (tup : ∀ p ∈ ks, IsT P w h0 p.2 p.1) (s0 : h0.get? S = none) (w0 : ∀ b ∈ wr, h0.get? b = none) (hu : A.in1.units < cLine) :
    ∀ (d i : Nat) (s : Shared), i + d = n → St i s → (∀ b o, h0.get? b = some o → s.heap.get? b = some o) → (∃ L es ep t, Set5 P w s.heap S L es ep t ∧ Upto ks i L) →
      (∀ s2 L es ep t, Moved (S :: wr) G s s2 → Set5 P w s2.heap S L es ep t → Upto ks n L → (∀ b o, h0.get? b = some o → s2.heap.get? b = some o) → R (.ok (.ret .none)) s2) →
      codeAny (model P w) A (.builtin "set.update.loop" ⟨[.ref S, .ref I], []⟩) R s := by
  have sw : S ∉ wr := fun z => sf (W.sub S z)
  have wide : ∀ b ∈ wr, b ∈ S :: wr := fun b z => .tail S z
  have on : ∀ {s s2 : Shared}, Moved wr G s s2 → (∀ b o, h0.get? b = some o → s.heap.get? b = some o) → ∀ b o, h0.get? b = some o → s2.heap.get? b = some o := fun mv kp b o e => mv.heap b o (fun z => by
    have q := w0 b z
    rw [e] at q
    cases q) (kp b o e)
  intro d
  induction d with
  | zero =>
    rintro i s rfl st kp ⟨L, es, ep, t, R5, u⟩ fin
    refine codeAny_builtin F.entry_set_update_loop ?_
    rw [Around.under_plainId F.plain_set_update_loop _]
    show wpAny _ A.in1 (pyNext (.ref I) >>= _) _ _ s
    refine wpAny_bind (W.done s _ _ st fun s2 mv => ?_)
    have kp2 := on mv kp
    show wpAny _ A.in1 (ret Value.none) _ _ s2
    exact wpAny_pure (fin s2 L es ep t (mv.mono wide) (R5.over (fun o e => mv.heap S o sw e) fun p hp => tup_keep (tup p (u.of p hp)) kp2) u kp2)
  | succ d ih =>
    intro i s hi st kp ⟨L, es, ep, t, R5, u⟩ fin
    refine codeAny_builtin F.entry_set_update_loop ?_
    rw [Around.under_plainId F.plain_set_update_loop _]
    show wpAny _ A.in1 (pyNext (.ref I) >>= _) _ _ s
    refine wpAny_bind (W.item i s _ _ (by omega) st fun v s2 pv st2 mv => ?_)
    obtain ⟨p, hp, rfl⟩ := val i v pv
    have kp2 := on mv kp
    have key : IsT P w s2.heap p.2 p.1 := tup_keep (tup p (List.mem_of_getElem? hp)) kp2
    have R2 : Set5 P w s2.heap S L es ep t := R5.over (fun o e => mv.heap S o sw e) fun q hq => tup_keep (tup q (u.of q hq)) kp2
    show wpAny _ A.in1 (holding [Value.ref p.1] (setAdd S (.ref p.1)) >>= _) _ _ s2
    refine wpAny_bind (wpAny_holding ?_)
    unfold setAdd
    refine wpAny_holding (wpAny_bind (wpAny_pyHash_tuple hu key ?_))
    refine add5 (s := { s2 with toks := s2.toks + (p.2.length + 1) }) R2 key hu (by have := u.few; omega) fun b h3 L3 es3 ep3 t3 sb R3 c => ?_
    have kp3 : ∀ b o, h0.get? b = some o → h3.get? b = some o := fun b o e => by
      rw [sb.2 b (fun z => by rw [z, s0] at e; cases e)]
      exact kp2 b o e
    refine wpAny_pure ⟨plainId_quiet F.plain_set_update_loop _, ih (i + 1) _ (by omega) (W.frame _ s2 _ _ st2 (Nat.le_add_right _ _) fun b hb o e => ?_) kp3 ⟨L3, es3, ep3, t3, R3, u.on hp c⟩ fun s4 L4 es4 ep4 t4 mv4 R4 u4 kp4 => ?_⟩
    · have ne : b ≠ S := fun z => sf (z ▸ hb)
      exact (sb.2 b ne).trans e
    · refine fin s4 L4 es4 ep4 t4 (Moved.trans W.gtrans ((mv.mono wide).then_heap (Nat.le_add_right _ _) fun b o hb e => ?_) mv4) R4 u4 kp4
      have ne : b ≠ S := fun z => hb (z ▸ List.mem_cons_self)
      exact (sb.2 b ne).trans e
/-- set(xs) -/
theorem make5 {l : Addr} {items : Array Value} (ks : List Row5) {Q : Value → Shared → Prop} (calm : A.handled = none) (hl : s.heap.IsList l items) (hi : items.toList = ks.map fun p => Value.ref p.1) (tup : ∀ p ∈ ks, IsT P w s.heap p.2 p.1) (few : ks.length ≤ 1000) (hu : A.units + 3 < cLine)
    (h : ∀ (h2 : Heap) (tk : Nat) L es ep t, Set5 P w h2 s.heap.objs.size L es ep t → Upto ks ks.length L → (∀ b o, s.heap.get? b = some o → h2.get? b = some o) → Q (.ref s.heap.objs.size) { s with heap := h2, toks := tk }) :
    wpAny (model P w) A (call (.type "set") [.ref l]) Q E s := by
  have isz : items.size = ks.length := by rw [← Array.length_toList, hi, List.length_map]
  obtain ⟨c, tl, hmro⟩ := F.called_set.mro
  have f1 := F.called_set.made
  have f2 := F.called_set.sub
  refine wpAny_call (codeAny_of_tree ?_)
  show wpAny _ _ (callAny (.type "set") _) _ _ _
  refine wpAny_pure ⟨Code.quiet_builtin _ (by decide +kernel), codeAny_builtin F.entry_type_call ?_⟩
  rw [Around.under_plain (weight_type_call_type "set" [.ref l] []) rfl]
  have f3 := F.called_set.notType
  have f4 := F.called_set.canCreate
  have f5 := F.typeCall_set_1 (.ref l)
  repeat any_goals first | assumption | wp_step
  refine codeAny_mono (code_set_led1 (.ref l) (E := E) (Q₁ := fun v s2 => v = .ref s.heap.objs.size ∧ s2 = { s with heap := s.heap.push (set0 w) }) ⟨rfl, rfl⟩) fun r s2 hr => ?_
  cases r with
  | error e => exact hr
  | ok fl =>
    cases fl with
    | next => exact hr.elim
    | brk => exact hr.elim
    | cont => exact hr.elim
    | ret v =>
      obtain ⟨rfl, rfl⟩ := hr
      have hS : (s.heap.push (set0 w)).get? s.heap.objs.size = some (set0 w) := Heap.get?_push_size _ rfl
      have hT : Shared.TypeIs { s with heap := s.heap.push (set0 w) } (.ref s.heap.objs.size) "set" := ⟨_, hS, rfl⟩
      have f6 := F.called_set.init.lookup
      have f7 := F.called_set.init.bind (.ref s.heap.objs.size)
      repeat any_goals first | assumption | wp_step
      refine codeAny_mono (codeAny_call_builtin (R := wants (fun r s3 => r = .none ∧ ∃ h2 tk L es ep t, s3 = { s with heap := h2, toks := tk } ∧ Set5 P w h2 s.heap.objs.size L es ep t ∧ Upto ks ks.length L ∧ (∀ b o, s.heap.get? b = some o → h2.get? b = some o)) E)
        F.called_set.init.plain F.entry_set_init (check_set_init_1 hT ?_)) fun r3 s3 hr3 => ?_
      · obtain ⟨ol, hol, hcl, nl, hdl⟩ := hl
        obtain ⟨ocls, odict, odata, oslots⟩ := ol
        simp only at hcl hdl
        subst hcl hdl
        have hol2 : (s.heap.push (set0 w)).get? l = some { cls := .type "list", dict := odict, data := .seq items nl, slots := oslots } := Heap.get?_push_of_some _ hol
        have hl2 : (s.heap.push (set0 w)).IsList l items := ⟨_, hol2, rfl, nl, rfl⟩
        have g1 := F.sub_list_set
        have g2 := F.sub_list_frozenset
        have g3 : (Value.type "list" == Value.type "dict") = false := by decide
        unfold Builtin.«set.__init__» noKeywords Builtin.Frozenset.updateFrom
        generalize hIter : pyIter = iterOf
        wp_walk
        subst hIter
        refine wpAny_pyIter_list hl2 (wpAny_bind (wpAny_runValue ?_))
        have lS : l < s.heap.objs.size := Heap.lt_size hol
        have size1 : (s.heap.push (set0 w)).objs.size = s.heap.objs.size + 1 := Heap.size_push ..
        have fresh : ∀ b, s.heap.objs.size ≤ b → s.heap.get? b = none := fun b hb => Heap.get?_none_of_le hb
        have vals : ∀ (i : Nat) (v : Value), items[i]? = some v → ∃ p, ks[i]? = some p ∧ v = .ref p.1 := fun i v hv => by
          rw [← Array.getElem?_toList, hi, List.getElem?_map, Option.map_eq_some_iff] at hv
          obtain ⟨p, e1, e2⟩ := hv
          exact ⟨p, e1, e2.symm⟩
        have neI : l ≠ (s.heap.push (set0 w)).objs.size := by
          rw [size1]
          exact Nat.ne_of_lt (Nat.lt_succ_of_lt lS)
        have notIn : s.heap.objs.size ∉ [(s.heap.push (set0 w)).objs.size, l] := fun z => by
          rw [size1] at z
          rcases List.mem_cons.mp z with z | z
          · exact absurd z (Nat.ne_of_lt (Nat.lt_succ_self _))
          · exact absurd (List.mem_singleton.mp z) (Nat.ne_of_gt lS)
        refine fill5 ((Walks.list (by simp [calm]) _ l neI items).toS) s.heap.objs.size notIn ks isz (by omega) vals s.heap tup (fresh _ (Nat.le_refl _)) (fun b hb => fresh b ?_) hu items.size 0 _ (Nat.zero_add _) ⟨⟨_, Heap.get?_push_size _ rfl, rfl, rfl⟩, hl2.push _⟩
          (fun b o e => Heap.get?_push_of_some _ (Heap.get?_push_of_some _ e)) ⟨[], #[], 0, _, set5_new (Heap.get?_push_of_some _ hS), ⟨(fun p hp => nomatch hp), (fun k => Iff.rfl), Nat.le_refl _⟩⟩ fun s4 L es ep t mv R u kp => ?_
        · have e : b = (s.heap.push (set0 w)).objs.size := by simpa using hb
          rw [e, size1]
          exact Nat.le_succ _
        · obtain ⟨h4, gn, dr, tk, os⟩ := s4
          have m1 : gn = s.gens := mv.gens
          have m2 : dr = s.drawn := mv.drawn
          have m3 : os = s.os := mv.os
          subst m1 m2 m3
          rw [isz] at u
          show wpAny _ _ _ _ _ _
          refine wpAny_pure ?_
          show wpAny _ _ (ret Value.none) _ _ _
          exact wpAny_pure ⟨rfl, h4, tk, L, es, ep, t, rfl, R, u, kp⟩
      · cases r3 with
        | error e => exact hr3
        | ok fl3 =>
          cases fl3 with
          | next => exact hr3.elim
          | brk => exact hr3.elim
          | cont => exact hr3.elim
          | ret v3 =>
            obtain ⟨rfl, h2, tk, L, es, ep, t, rfl, R, u, kp⟩ := hr3
            repeat any_goals first | assumption | wp_step
            exact h h2 tk L es ep t R u kp
end
section
variable {X : Cx}
/-- len(set(xs)), xs a list of tuples of ints -/
def tLenSet5 (K : PySem.W.Frag) (ta : TE) : TE := fun σ H Q => ta σ H fun x H1 => ∃ (l : Addr) (ks : List Row5), x = V.ref l ∧ SqL K H1 l (ks.map fun p => V.ref p.1) ∧ (∀ p ∈ ks, SqT K H1 p.1 (p.2.map V.int)) ∧ ks.length ≤ 1000 ∧
  ∀ D : List (List Int), D.Nodup → (∀ k, k ∈ D ↔ k ∈ ks.map (·.2)) → Q (.int D.length) H1
theorem pe_lenSet5 {a : Expr} {ta : TE} {p p2 q pos : Pos} (calm : X.calm = true) (hu : X.A.units + 64 < cLine) (g1 : Gl X "len") (m1 : X.mg "len" = none) (g2 : Gl X "set") (m2 : X.mg "set" = none) (ha : PE X a ta)
    (na : starEach [a] X.env = (false, eval a X.env) :: starEach [] X.env := by rfl) : PE X (.Call (.Name "len" p) [.Call (.Name "set" p2) [a] [] q] [] pos) (tLenSet5 X.K ta) := by
  refine ⟨fun pins s σ H Q I h => Call_ (ld_blt I g1 m1 PySem.boot_len (PyProof.Rows.callWith_builtin1 (PyProof.Rows.args_cons (Call_ (ld_blt I g2 m2 PyProof.Rows.boot_set ?_)) rfl) rfl rfl))⟩
  refine PyProof.Rows.callWith_type1 (PyProof.Rows.args_cons (thn (ha.run pins s σ H _ I h) fun v s1 ⟨x, H1, I1, r1, l, ks, ex, hl, ht, few, q1⟩ => PyProof.Rows.args_nil ?_) na) na rfl
  subst ex
  cases r1
  obtain ⟨its, r, pl, _⟩ := I1.list hl
  refine make5 (P := X.prog) (w := X.w) ks (I1.ok.hd calm) pl.isList (by simpa using refs_of_vals r) (fun p hp => I1.isT (ht p hp)) few (by omega) fun h2 tk L es ep t R u kp => PyProof.Rows.args_nil ?_
  obtain ⟨o, ho, hex, hd⟩ := R.ob
  have n5 : es.size = L.length := rows_len R.rows
  have f5 : t.fits es.size = true := by
    have z := R.tab.len
    have rm := R.room
    rw [Array.length_toList, List.length_map] at z
    exact fits_by (z.trans n5.symm) R.tab.bare (by omega)
  have I2 : Inv X pins σ H1 { s1 with heap := h2, toks := tk } := I1.kept kp
  have lf := u.few
  refine call_len_set ho hex hd f5 (by omega) ⟨.int (es.size : Nat), H1, I2.tok _, ⟨_, rfl⟩, ?_⟩
  have fin := q1 (L.map (·.2)) R.once fun k => by rw [u.keys k, List.take_length]
  rw [List.length_map, ← n5] at fin
  exact fin
end
end Fc
end
section
set_option Elab.async false
set_option linter.all false
set_option maxRecDepth 100000
set_option maxHeartbeats 2000000
/-! results -/
namespace Fc
open PySem PySem.Spec PyProof.Rows L2 LamX
open Kqz1 (Frac)
abbrev fKey (f : Frac) : List Int := [f.p, (f.q : Int)]
theorem fKey_inj {f g : Frac} (h : fKey f = fKey g) : f = g := by
  obtain ⟨a, b⟩ := f
  obtain ⟨c, d⟩ := g
  injection h with h1 h2
  injection h2 with h3 _
  have h1 : a = c := h1
  have h3 : (b : Int) = (d : Int) := h3
  rw [h1, Int.ofNat.inj h3]
theorem keys_count {fs : List Frac} {D : List (List Int)} (hn : D.Nodup) (h : ∀ k, k ∈ D ↔ k ∈ fs.map fKey) : D.length = (dedup fs).length := by
  have nd : (dedup fs).Nodup := dedupOn_nodup fs [] .nil
  have mem : ∀ f, f ∈ dedup fs ↔ f ∈ fs := fun f => by
    have z := dedupOn_mem fs [] f
    show f ∈ dedupOn [] fs ↔ f ∈ fs
    simpa using z
  have nd2 : ((dedup fs).map fKey).Nodup := List.Pairwise.map fKey (fun a b ne e => ne (fKey_inj e)) nd
  rw [same_len hn nd2 fun k => ?_, List.length_map]
  rw [h k, List.mem_map, List.mem_map]
  exact ⟨fun ⟨f, hf, e⟩ => ⟨f, (mem f).mpr hf, e⟩, fun ⟨f, hf, e⟩ => ⟨f, (mem f).mp hf, e⟩⟩
theorem rows_of {K : PySem.W.Frag} {H : Hp} : ∀ {as : List Addr} {fs : List Frac}, Paired (FrAt K H) as fs → ∃ ks : List Row5, (ks.map fun p => V.ref p.1) = as.map V.ref ∧ ks.map (·.2) = fs.map fKey ∧ ∀ p ∈ ks, SqT K H p.1 (p.2.map V.int)
  | _, _, .nil => ⟨[], rfl, rfl, fun p hp => nomatch hp⟩
  | _, _, .cons (a := a) (b := f) h t => by
    obtain ⟨ks, e1, e2, e3⟩ := rows_of t
    refine ⟨(a, fKey f) :: ks, ?_, ?_, fun p hp => ?_⟩
    · rw [List.map_cons, List.map_cons, e1]
    · rw [List.map_cons, List.map_cons, e2]
    · rcases List.mem_cons.mp hp with z | z
      · rw [z]
        exact h
      · exact e3 p z
section
variable {P : Program} {w : World} {K : PySem.W.Frag} {mg : Str → Option Value} {base : Heap} {C : Addr} {T : List (Addr × Str)}
theorem scRes : FnScope ["drawing", "numbers", "t"] ["drawing", "numbers"] (defScope (topS 60)) := ⟨rfl, rfl, rfl, by decide +kernel, rfl, by decide +kernel, by decide +kernel⟩
theorem ok_res {f : Addr} {fd : FuncData} (F : Fun K "answer_results" "answer_results" (topS 60) f fd) (L : Kl K mg C) (nN : mg "len" = none) (nS : mg "set" = none) (g4 : ∃ t, mg "MOST_CHANGES" = some (.int 4 t)) (g22 : ∃ t, mg "NOT_AS_TOLD" = some (.int (-22) t)) (cB : ∀ base, Cal P w K mg base 5 "fractions_by_ways" ["figures", "t"] (spFbw K)) :
    FnOk P w K mg base CX0 6 f fd ["drawing", "numbers"] (spAn T K C 14) := by
  obtain ⟨t4, g4⟩ := g4
  obtain ⟨t22, g22⟩ := g22
  refine F.ok scRes (fun vs H Q E h => an_len h) (fun cdv A outer s H vs Q E hr h => ⟨_,
      pss_cons (ps_set (i := 2) scRes.nd rfl (Or.inl rfl) (pe_ix ix_list (pv 1) pe_int (fun _ _ => rfl)))
      (pss_cons (ps_if (pt_cmpR op_gt (pv 2) (pe_glob (v := .int 4) rfl g4 ⟨_, rfl⟩) (nomark _)) (pss_one (ps_ret (pe_lst (pa_cons (pe_glob (v := .int (-22)) rfl g22 ⟨_, rfl⟩) pa_nil)))) pss_nil)
      (pss_one (ps_ret (pe_lst (pa_cons (pe_lenSet5 rfl hr.units rfl nN rfl nS (pe_k (cB _) hr rfl (pa_cons (pe_fld (pv 0) rfl) (pa_cons (pv 2) pa_nil)))) pa_nil))))), ?_⟩)
  obtain ⟨d, nl, dx, af, v, ns, last, zs, a⟩ := an_open (by decide) h
  obtain ⟨t, ez, _⟩ := sh_t a.ask (.inr (.inl rfl))
  subst ez
  obtain rfl := a.args
  have s0 := Same.refl H
  have e := p_res (ns := ns) (last := last) (t := t)
  refine ⟨_, rfl, _, _, _, _, rfl, rfl, a.num, ix0, _, rfl, _, _, rfl, rfl, _, rfl, ?_⟩
  by_cases c : 4 < t
  · rw [if_pos c] at e
    exact if_t (decide_eq_true (by omega)) ⟨sz1, (a.stayL e).fin s0⟩
  · rw [if_neg c] at e
    have l715 := waysX_715 a.ok (t := t) (by omega)
    refine if_f (decide_eq_false (by omega)) ⟨_, rfl, d, C, dx, _, _, rfl, a.d_ s0, L.cl, L.nF, dF_fig, _, rfl, af, ns, t, rfl, a.l_ s0, a.ok, by omega, fun H1 B s1 hB => ?_⟩
    obtain ⟨as, hA, hP⟩ := hB
    obtain ⟨ks, e1, e2, e3⟩ := rows_of hP
    have n2 := congrArg List.length e2
    rw [List.length_map, List.length_map] at n2
    unfold fracsX at n2
    rw [List.length_map] at n2
    refine ⟨B, ks, rfl, by rw [e1]; exact hA, e3, by omega, fun D hD hk => ⟨sz1, fun p hp => ?_⟩⟩
    have cnt := keys_count (fs := fracsX ns (t : Int)) hD fun k => by rw [hk k, e2]
    rw [cnt]
    exact (a.stayL e).fin s1 p hp
end
end Fc
end
section
set_option Elab.async false
set_option linter.all false
set_option maxRecDepth 100000
set_option maxHeartbeats 4000000
/-! all defs together -/
namespace Fc
open PySem PySem.Spec PyProof.Rows L2 LamX NdefX
open PySem.W (WData Codec OpenSpec)
/-- a def as it stands behind the top -/
def StD (K : PySem.W.Frag) (mg : Str → Option Value) (x : Str) (i : Nat) (ps : List Str) (f : Addr) : Prop := ∃ fd, Pl K mg x (topS i) ps f fd
theorem st_mk {K : PySem.W.Frag} {h : Heap} {mg : Str → Option Value} {x : Str} {i : Nat} {ps : List Str} {f : Addr} {oc kV dc pm cd ct : Value} {od an : Option Addr} {sl : Array (Option Value)} (X : K.In h) (G : h.Ns mainGlobals mg) (a : PySem.W.nsIn K mainGlobals x = some (some (.ref f)))
    (l : K.lookup f = some ⟨oc, od, .func (PySem.W.fnOf x x (defArgs (topS i)) (defBody (topS i)) (defScope (topS i)) .none kV dc pm an cd ct), sl⟩) (c : PySem.W.codeIn K cd x = true) (k : PySem.W.keepIn K (.ref f) = true)
    (b : ∀ (kV doc pm : Value) (an : Option Addr) (cdv ct : Value) (us : List Value), us.length = ps.length → bindArgs (PySem.W.fnOf x x (defArgs (topS i)) (defBody (topS i)) (defScope (topS i)) .none kV doc pm an cdv ct) ⟨us, []⟩ = pure (ps.zip us)) : StD K mg x i ps f :=
  ⟨_, fun_mk l c k, PySem.W.mg_of X G a, (fun_mk (st := topS i) l c k).binds b⟩
/-- a maker of lambdas -/
def StL (K : PySem.W.Frag) (mg : Str → Option Value) (h : Heap) (x : Str) (i : Nat) (c Pt f : Addr) : Prop := ∃ fd, FunC K x (topS i) c f fd ∧ mg x = some (.ref f) ∧ Binds K fd ["drawing", "numbers"] [] ∧ PySem.W.CodeHd h c Pt ∧ h.get? Pt = some tab0 ∧ K.lookup Pt = none
theorem sl_mk {K : PySem.W.Frag} {h : Heap} {mg : Str → Option Value} {x : Str} {i : Nat} {c Pt f : Addr} {oc kV dc pm ct : Value} {od an : Option Addr} {sl : Array (Option Value)} (X : K.In h) (G : h.Ns mainGlobals mg) (a : PySem.W.nsIn K mainGlobals x = some (some (.ref f)))
    (l : K.lookup f = some ⟨oc, od, .func (PySem.W.fnOf x x (defArgs (topS i)) (defBody (topS i)) (defScope (topS i)) .none kV dc pm an (.ref c) ct), sl⟩) (cd : PySem.W.codeIn K (.ref c) x = true) (k : PySem.W.keepIn K (.ref f) = true)
    (b : ∀ (kV doc pm : Value) (an : Option Addr) (cdv ct : Value) (us : List Value), us.length = (["drawing", "numbers"] : List Str).length → bindArgs (PySem.W.fnOf x x (defArgs (topS i)) (defBody (topS i)) (defScope (topS i)) .none kV doc pm an cdv ct) ⟨us, []⟩ = pure ((["drawing", "numbers"] : List Str).zip us))
    (t : PySem.W.CodeHd h c Pt ∧ h.get? Pt = some tab0) (n : K.lookup Pt = none) : StL K mg h x i c Pt f :=
  ⟨_, ⟨⟨oc, od, kV, dc, pm, an, ct, sl, rfl, l, cd⟩, k⟩, PySem.W.mg_of X G a, FunC.binds ⟨⟨oc, od, kV, dc, pm, an, ct, sl, rfl, l, cd⟩, k⟩ b, t.1, t.2, n⟩
theorem one_of : ∀ {T : List (Addr × Str)}, (T.map (·.1)).Nodup → ∀ {a : Addr} {q : Str}, (a, q) ∈ T → ∀ p ∈ T, p.1 = a → p.2 = q
  | [], _, _, _, m, _, _, _ => nomatch m
  | x :: T, nd, a, q, m, p, hp, e => by
    obtain ⟨n1, n2⟩ := List.nodup_cons.mp nd
    rcases List.mem_cons.mp m with z | z
    · rcases List.mem_cons.mp hp with y | y
      · rw [y, ← z]
      · exact absurd (List.mem_map.mpr ⟨p, y, by rw [e, ← z]⟩) n1
    · rcases List.mem_cons.mp hp with y | y
      · exact absurd (List.mem_map.mpr ⟨(a, q), z, by rw [← e, y]⟩) n1
      · exact one_of n2 z p y e
abbrev ansL (g0 g1 g2 g3 g4 g5 g6 g7 g8 g9 g10 g11 g12 g13 g14 g15 g16 g17 g18 g19 g20 : Addr) : List Addr := [g0, g1, g2, g3, g4, g5, g6, g7, g8, g9, g10, g11, g12, g13, g14, g15, g16, g17, g18, g19, g20]
/-- what the top has left -/
structure Fx (K : PySem.W.Frag) (mg : Str → Option Value) (h : Heap) (C fI fR da hd : Addr) (g0 g1 g2 g3 g4 g5 g6 g7 g8 g9 g10 g11 g12 g13 g14 g15 g16 g17 g18 g19 g20 : Addr) (c0 P0 c1 P1 c2 P2 c3 P3 c4 P4 : Addr) : Prop where
  d1 : ∃ f, StD K mg "flat_fraction" 1 [] f
  d3 : ∃ f, StD K mg "nothing_in_common" 3 ["one", "other"] f
  d2 : ∃ f, StD K mg "is_fraction" 2 ["upper", "lower"] f
  d4 : ∃ f, StD K mg "twisted" 4 ["fraction", "n"] f
  d5 : ∃ f, StD K mg "turned" 5 ["fraction"] f
  d7 : ∃ f, StD K mg "size_of" 7 ["fraction"] f
  d8 : ∃ f, StD K mg "ring_of" 8 ["fraction"] f
  d9 : ∃ f, StD K mg "other_share" 9 ["size", "share"] f
  d10 : ∃ f, StD K mg "name_of" 10 ["ring"] f
  d11 : ∃ f, StD K mg "names_of" 11 ["fractions"] f
  d12 : ∃ f, StD K mg "is_ring" 12 ["size", "share"] f
  d14 : ∃ f, StD K mg "bare_divisors" 14 ["product"] f
  d13 : ∃ f, StD K mg "is_undone_by_one" 13 ["ring"] f
  d20 : ∃ f, StD K mg "changed_figure" 20 ["n", "k"] f
  d19 : ∃ f, StD K mg "turned_or_twisted" 19 ["fraction", "figure", "k"] f
  d21 : ∃ f, StD K mg "fraction_of" 21 ["figures"] f
  d22 : ∃ f, StD K mg "crossings_of" 22 ["figures"] f
  d23 : ∃ f, StD K mg "changed_row" 23 ["figures", "way"] f
  d28 : ∃ f, StD K mg "longer_ways" 28 ["begun", "figure", "rest"] f
  d26 : ∃ f, StD K mg "ways_with_fractions" 26 ["figures", "t"] f
  d27 : ∃ f, StD K mg "fractions_by_ways" 27 ["figures", "t"] f
  d29 : ∃ f, StD K mg "first_of_fewest" 29 ["figures", "is_wished"] f
  d43 : ∃ f, StD K mg "told_fraction" 43 ["drawing"] f
  d44 : ∃ f, StD K mg "one_more_figure" 44 ["drawing", "figure"] f
  d53 : ∃ f, StD K mg "keep_fewest" 53 ["drawing", "is_wished"] f
  d45 : StD K mg "answer_start" 45 ["drawing", "numbers"] g0
  d46 : StD K mg "answer_twist" 46 ["drawing", "numbers"] g1
  d47 : StD K mg "answer_turn" 47 ["drawing", "numbers"] g2
  d48 : StD K mg "answer_off" 48 ["drawing", "numbers"] g3
  d49 : StD K mg "answer_comes" 49 ["drawing", "numbers"] g4
  d50 : StD K mg "answer_ring" 50 ["drawing", "numbers"] g5
  d51 : StD K mg "answer_crossings" 51 ["drawing", "numbers"] g6
  d52 : StD K mg "answer_change" 52 ["drawing", "numbers"] g7
  d54 : StL K mg h "answer_undone" 54 c0 P0 g8
  d55 : StL K mg h "answer_split" 55 c1 P1 g9
  d56 : StL K mg h "answer_flat" 56 c2 P2 g10
  d57 : StL K mg h "answer_to" 57 c3 P3 g11
  d58 : StL K mg h "answer_closes" 58 c4 P4 g12
  d59 : StD K mg "answer_ways" 59 ["drawing", "numbers"] g13
  d60 : StD K mg "answer_results" 60 ["drawing", "numbers"] g14
  d61 : StD K mg "answer_rings" 61 ["drawing", "numbers"] g15
  d62 : StD K mg "answer_way" 62 ["drawing", "numbers"] g16
  d63 : StD K mg "answer_do" 63 ["drawing", "numbers"] g17
  d64 : StD K mg "answer_bound" 64 ["drawing", "numbers"] g18
  d65 : StD K mg "answer_figures" 65 ["drawing", "numbers"] g19
  d66 : StD K mg "answer_state" 66 ["drawing", "numbers"] g20
  d68 : ∃ f, StD K mg "answer" 68 ["drawing", "number", "numbers"] f
  d69 : ∃ f, StD K mg "answers" 69 ["calls"] f
  kl : Kl K mg C
  mkC : Mk K C fI
  dI : ∃ fd, Fun K "__init__" "Drawing.__init__" sIni fI fd ∧ Binds K fd ["self"] []
  dR : ∃ fd, Fun K "redraw" "Drawing.redraw" sRed fR fd ∧ Binds K fd ["self", "figures"] []
  mR : Meth K C "redraw" fR
  nabs : mg "abs" = none
  nmin : mg "min" = none
  nmax : mg "max" = none
  nrange : mg "range" = none
  nlist : mg "list" = none
  nsum : mg "sum" = none
  nzip : mg "zip" = none
  nset : mg "set" = none
  nlen : mg "len" = none
  kturn : ∃ t, mg "TURN" = some (.int 0 t)
  kchanges : ∃ t, mg "MOST_CHANGES" = some (.int 4 t)
  kfigures : ∃ t, mg "MOST_FIGURES" = some (.int 10 t)
  ktwists : ∃ t, mg "MOST_HALF_TWISTS" = some (.int 6 t)
  kfrac : ∃ t, mg "MOST_OF_A_FRACTION" = some (.int 9999 t)
  ksize : ∃ t, mg "MOST_SIZE" = some (.int 400 t)
  kfigure : ∃ t, mg "NO_SUCH_FIGURE" = some (.int (-2) t)
  kthere : ∃ t, mg "NOTHING_THERE" = some (.int (-6) t)
  kstarted : ∃ t, mg "NOT_STARTED" = some (.int (-11) t)
  ktold : ∃ t, mg "NOT_AS_TOLD" = some (.int (-22) t)
  ktoomany : ∃ t, mg "TOO_MANY_FIGURES" = some (.int (-28) t)
  kfew : ∃ t, mg "NOT_BY_SO_FEW" = some (.int (-33) t)
  kstart : ∃ t, mg "START" = some (.int 0 t)
  hdd : mg "HANDED" = some (.ref hd)
  hH : ∀ H, SqT K H hd (inV handedX)
  daa : mg "ANSWERED_BY" = some (.ref da)
  kA : KTab K da (ansL g0 g1 g2 g3 g4 g5 g6 g7 g8 g9 g10 g11 g12 g13 g14 g15 g16 g17 g18 g19 g20)
  nd : [P0, P1, P2, P3, P4].Nodup
section
variable {P : Program} {w : World} {K : PySem.W.Frag} {mg : Str → Option Value} {h : Heap} {C fI fR da hd : Addr} {g0 g1 g2 g3 g4 g5 g6 g7 g8 g9 g10 g11 g12 g13 g14 g15 g16 g17 g18 g19 g20 : Addr} {c0 P0 c1 P1 c2 P2 c3 P3 c4 P4 : Addr}
abbrev tabL (P0 P1 P2 P3 P4 : Addr) : List (Addr × Str) := [(P0, lq "answer_undone"), (P1, lq "answer_split"), (P2, lq "answer_flat"), (P3, lq "answer_to"), (P4, lq "answer_closes")]
theorem fx_ok (X : Fx K mg h C fI fR da hd g0 g1 g2 g3 g4 g5 g6 g7 g8 g9 g10 g11 g12 g13 g14 g15 g16 g17 g18 g19 g20 c0 P0 c1 P1 c2 P2 c3 P3 c4 P4) {base : Heap} (TB : ∀ p ∈ [(c0, P0), (c1, P1), (c2, P2), (c3, P3), (c4, P4)], TabB base mg p.1 p.2) {f : Addr} {fd : FuncData} (F : Fun K "answers" "answers" (topS 69) f fd) : FnOk P w K mg base CX0 9 f fd ["calls"] (spAll (tabL P0 P1 P2 P3 P4) K) := by
  obtain ⟨f1, fd1, p1⟩ := X.d1
  have c1_ : ∀ base, Cal P w K mg base 1 "flat_fraction" [] spFlat := fun _ => p1.cal (ok_flat p1.fn)
  obtain ⟨f3, fd3, p3⟩ := X.d3
  have c3_ : ∀ base, Cal P w K mg base 1 "nothing_in_common" ["one", "other"] spNic := fun _ => p3.cal (ok_nic p3.fn)
  obtain ⟨f2, fd2, p2⟩ := X.d2
  have c2_ : ∀ base, Cal P w K mg base 2 "is_fraction" ["upper", "lower"] spIsf := fun _ => p2.cal (ok_isf p2.fn c3_ X.nabs)
  obtain ⟨f4, fd4, p4⟩ := X.d4
  have c4_ : ∀ base, Cal P w K mg base 1 "twisted" ["fraction", "n"] (spTwi K) := fun _ => p4.cal (ok_twi p4.fn)
  obtain ⟨f5, fd5, p5⟩ := X.d5
  have c5_ : ∀ base, Cal P w K mg base 1 "turned" ["fraction"] (spTur K) := fun _ => p5.cal (ok_tur p5.fn)
  obtain ⟨f7, fd7, p7⟩ := X.d7
  have c7_ : ∀ base, Cal P w K mg base 1 "size_of" ["fraction"] (spSiz K) := fun _ => p7.cal (ok_siz p7.fn X.nabs)
  obtain ⟨f8, fd8, p8⟩ := X.d8
  have c8_ : ∀ base, Cal P w K mg base 2 "ring_of" ["fraction"] (spRin K) := fun _ => p8.cal (ok_rin p8.fn c7_)
  obtain ⟨f9, fd9, p9⟩ := X.d9
  have c9_ : ∀ base, Cal P w K mg base 1 "other_share" ["size", "share"] spOth := fun _ => p9.cal (ok_oth p9.fn)
  obtain ⟨f10, fd10, p10⟩ := X.d10
  have c10_ : ∀ base, Cal P w K mg base 2 "name_of" ["ring"] (spNam K) := fun _ => p10.cal (ok_nam p10.fn c9_ X.nmin)
  obtain ⟨f11, fd11, p11⟩ := X.d11
  have c11_ : ∀ base, Cal P w K mg base 3 "names_of" ["fractions"] (spNms K) := fun _ => p11.cal (ok_nms p11.fn X.nlist c8_ c10_)
  obtain ⟨f12, fd12, p12⟩ := X.d12
  have c12_ : ∀ base, Cal P w K mg base 2 "is_ring" ["size", "share"] spIsr := fun _ => p12.cal (ok_isr p12.fn c3_)
  obtain ⟨f14, fd14, p14⟩ := X.d14
  have c14_ : ∀ base, Cal P w K mg base 2 "bare_divisors" ["product"] spBar := fun _ => p14.cal (ok_bar p14.fn c3_ X.nrange)
  obtain ⟨f13, fd13, p13⟩ := X.d13
  have c13_ : ∀ base, Cal P w K mg base 3 "is_undone_by_one" ["ring"] (spUnd K) := fun _ => p13.cal (ok_und p13.fn c14_)
  obtain ⟨f20, fd20, p20⟩ := X.d20
  have c20_ : ∀ base, Cal P w K mg base 1 "changed_figure" ["n", "k"] spChg := fun _ => p20.cal (ok_chg p20.fn)
  obtain ⟨f19, fd19, p19⟩ := X.d19
  have c19_ : ∀ base, Cal P w K mg base 2 "turned_or_twisted" ["fraction", "figure", "k"] (spTot K) := fun _ => p19.cal (ok_tot p19.fn X.kturn c5_ c4_ c20_)
  obtain ⟨f21, fd21, p21⟩ := X.d21
  have c21_ : ∀ base, Cal P w K mg base 3 "fraction_of" ["figures"] (spFro K) := fun _ => p21.cal (ok_fro p21.fn c1_ c19_)
  obtain ⟨f22, fd22, p22⟩ := X.d22
  have c22_ : ∀ base, Cal P w K mg base 1 "crossings_of" ["figures"] (spCro K) := fun _ => p22.cal (ok_cro p22.fn X.nsum X.nabs)
  obtain ⟨f23, fd23, p23⟩ := X.d23
  have c23_ : ∀ base, Cal P w K mg base 2 "changed_row" ["figures", "way"] (spCrw K) := fun _ => p23.cal (ok_crw p23.fn X.kturn X.nzip c20_)
  obtain ⟨f28, fd28, p28⟩ := X.d28
  have c28_ : ∀ base, Cal P w K mg base 3 "longer_ways" ["begun", "figure", "rest"] (spLon K) := fun _ => p28.cal (ok_lon p28.fn X.nmin X.nmax X.nabs X.nrange c19_)
  obtain ⟨f26, fd26, p26⟩ := X.d26
  have c26_ : ∀ base, Cal P w K mg base 4 "ways_with_fractions" ["figures", "t"] (spWwf K) := fun _ => p26.cal (ok_wwf p26.fn X.nabs c22_ c1_ c28_)
  obtain ⟨f27, fd27, p27⟩ := X.d27
  have c27_ : ∀ base, Cal P w K mg base 5 "fractions_by_ways" ["figures", "t"] (spFbw K) := fun _ => p27.cal (ok_fbw p27.fn c26_)
  obtain ⟨fdI, FI, bI⟩ := X.dI
  obtain ⟨fdR, FR, bR⟩ := X.dR
  have oI := ok_ini (P := P) (w := w) (mg := mg) (base := base) FI X.kl
  have oR := ok_red (P := P) (w := w) (mg := mg) (base := base) FR X.kl
  obtain ⟨f43, fd43, p43⟩ := X.d43
  have c43_ : Cal P w K mg base 4 "told_fraction" ["drawing"] (spTol K C) := p43.cal (ok_tol p43.fn X.kl X.nlist c21_)
  obtain ⟨f44, fd44, p44⟩ := X.d44
  have c44_ : Cal P w K mg base 5 "one_more_figure" ["drawing", "figure"] (spOne K C) := p44.cal (ok_one p44.fn X.kl X.nlen X.kfigures X.ktoomany oR bR X.mR c43_)
  obtain ⟨f29, fd29, p29⟩ := X.d29
  have c29_ : Cal P w K mg base 5 "first_of_fewest" ["figures", "is_wished"] (spFof P w K mg base) := p29.cal (ok_fof p29.fn X.nrange X.kchanges c26_)
  obtain ⟨f53, fd53, p53⟩ := X.d53
  have c53_ : Cal P w K mg base 6 "keep_fewest" ["drawing", "is_wished"] (spKf P w K mg base C) := p53.cal (ok_kf p53.fn X.kl X.nsum X.kfew c29_)
  have nd : ((tabL P0 P1 P2 P3 P4).map (·.1)).Nodup := X.nd
  have a0 : Cad P w K mg base 7 g0 (spAn (tabL P0 P1 P2 P3 P4) K C 0) := by
    obtain ⟨fd, p⟩ := X.d45
    exact ⟨fd, _, (ok_sta p.fn X.kl oR bR X.mR).mono (by decide), p.fn.kp, p.bd⟩
  have a1 : Cad P w K mg base 7 g1 (spAn (tabL P0 P1 P2 P3 P4) K C 1) := by
    obtain ⟨fd, p⟩ := X.d46
    exact ⟨fd, _, (ok_two p.fn X.nabs X.ktwists X.ktold c44_).mono (by decide), p.fn.kp, p.bd⟩
  have a2 : Cad P w K mg base 7 g2 (spAn (tabL P0 P1 P2 P3 P4) K C 2) := by
    obtain ⟨fd, p⟩ := X.d47
    exact ⟨fd, _, (ok_trn p.fn X.kturn c44_).mono (by decide), p.fn.kp, p.bd⟩
  have a3 : Cad P w K mg base 7 g3 (spAn (tabL P0 P1 P2 P3 P4) K C 3) := by
    obtain ⟨fd, p⟩ := X.d48
    exact ⟨fd, _, (ok_off p.fn X.kl X.nlen X.kthere oR bR X.mR).mono (by decide), p.fn.kp, p.bd⟩
  have a4 : Cad P w K mg base 7 g4 (spAn (tabL P0 P1 P2 P3 P4) K C 4) := by
    obtain ⟨fd, p⟩ := X.d49
    exact ⟨fd, _, (ok_com p.fn c43_).mono (by decide), p.fn.kp, p.bd⟩
  have a5 : Cad P w K mg base 7 g5 (spAn (tabL P0 P1 P2 P3 P4) K C 5) := by
    obtain ⟨fd, p⟩ := X.d50
    exact ⟨fd, _, (ok_rng p.fn X.kl X.nlist c21_ c8_ c10_).mono (by decide), p.fn.kp, p.bd⟩
  have a6 : Cad P w K mg base 7 g6 (spAn (tabL P0 P1 P2 P3 P4) K C 6) := by
    obtain ⟨fd, p⟩ := X.d51
    exact ⟨fd, _, (ok_crs p.fn X.kl c22_).mono (by decide), p.fn.kp, p.bd⟩
  have a7 : Cad P w K mg base 7 g7 (spAn (tabL P0 P1 P2 P3 P4) K C 7) := by
    obtain ⟨fd, p⟩ := X.d52
    exact ⟨fd, _, (ok_chn p.fn X.kl X.nlen X.nabs X.kfigure X.ktold oR bR X.mR c23_ c43_).mono (by decide), p.fn.kp, p.bd⟩
  have a8 : Cad P w K mg base 7 g8 (spAn (tabL P0 P1 P2 P3 P4) K C 8) := by
    obtain ⟨fd, F1, _, b1, _, _, _⟩ := X.d54
    have m : (P0, lq "answer_undone") ∈ tabL P0 P1 P2 P3 P4 := by simp [tabL]
    exact ⟨fd, _, (ok_udo F1 ⟨TB (c0, P0) (by simp), m, one_of nd m⟩ c7_ c53_).mono (by decide), F1.kp, b1⟩
  have a9 : Cad P w K mg base 7 g9 (spAn (tabL P0 P1 P2 P3 P4) K C 9) := by
    obtain ⟨fd, F1, _, b1, _, _, _⟩ := X.d55
    have m : (P1, lq "answer_split") ∈ tabL P0 P1 P2 P3 P4 := by simp [tabL]
    exact ⟨fd, _, (ok_spl F1 ⟨TB (c1, P1) (by simp), m, one_of nd m⟩ c7_ c53_).mono (by decide), F1.kp, b1⟩
  have a10 : Cad P w K mg base 7 g10 (spAn (tabL P0 P1 P2 P3 P4) K C 10) := by
    obtain ⟨fd, F1, _, b1, _, _, _⟩ := X.d56
    have m : (P2, lq "answer_flat") ∈ tabL P0 P1 P2 P3 P4 := by simp [tabL]
    exact ⟨fd, _, (ok_fla F1 ⟨TB (c2, P2) (by simp), m, one_of nd m⟩ c1_ c53_).mono (by decide), F1.kp, b1⟩
  have a11 : Cad P w K mg base 7 g11 (spAn (tabL P0 P1 P2 P3 P4) K C 11) := by
    obtain ⟨fd, F1, _, b1, _, _, _⟩ := X.d57
    have m : (P3, lq "answer_to") ∈ tabL P0 P1 P2 P3 P4 := by simp [tabL]
    exact ⟨fd, _, (ok_to F1 ⟨TB (c3, P3) (by simp), m, one_of nd m⟩ X.nabs X.kfrac X.ktold c2_ c53_).mono (by decide), F1.kp, b1⟩
  have a12 : Cad P w K mg base 7 g12 (spAn (tabL P0 P1 P2 P3 P4) K C 12) := by
    obtain ⟨fd, F1, _, b1, _, _, _⟩ := X.d58
    have m : (P4, lq "answer_closes") ∈ tabL P0 P1 P2 P3 P4 := by simp [tabL]
    exact ⟨fd, _, (ok_clo F1 ⟨TB (c4, P4) (by simp), m, one_of nd m⟩ X.ksize X.ktold c12_ c8_ c10_ c53_).mono (by decide), F1.kp, b1⟩
  have a13 : Cad P w K mg base 7 g13 (spAn (tabL P0 P1 P2 P3 P4) K C 13) := by
    obtain ⟨fd, p⟩ := X.d59
    exact ⟨fd, _, (ok_wys p.fn X.kl X.nlen X.kchanges X.ktold c27_).mono (by decide), p.fn.kp, p.bd⟩
  have a14 : Cad P w K mg base 7 g14 (spAn (tabL P0 P1 P2 P3 P4) K C 14) := by
    obtain ⟨fd, p⟩ := X.d60
    exact ⟨fd, _, (ok_res p.fn X.kl X.nlen X.nset X.kchanges X.ktold c27_).mono (by decide), p.fn.kp, p.bd⟩
  have a15 : Cad P w K mg base 7 g15 (spAn (tabL P0 P1 P2 P3 P4) K C 15) := by
    obtain ⟨fd, p⟩ := X.d61
    exact ⟨fd, _, (ok_rgs p.fn X.kl X.nlen X.nlist X.kchanges X.ktold c27_ c11_).mono (by decide), p.fn.kp, p.bd⟩
  have a16 : Cad P w K mg base 7 g16 (spAn (tabL P0 P1 P2 P3 P4) K C 16) := by
    obtain ⟨fd, p⟩ := X.d62
    exact ⟨fd, _, (ok_way p.fn X.kl X.nlen X.nlist X.kthere).mono (by decide), p.fn.kp, p.bd⟩
  have a17 : Cad P w K mg base 7 g17 (spAn (tabL P0 P1 P2 P3 P4) K C 17) := by
    obtain ⟨fd, p⟩ := X.d63
    exact ⟨fd, _, (ok_do p.fn X.kl X.kthere oR bR X.mR c23_ c43_).mono (by decide), p.fn.kp, p.bd⟩
  have a18 : Cad P w K mg base 7 g18 (spAn (tabL P0 P1 P2 P3 P4) K C 18) := by
    obtain ⟨fd, p⟩ := X.d64
    exact ⟨fd, _, (ok_bnd p.fn X.kl c21_ c8_ c13_).mono (by decide), p.fn.kp, p.bd⟩
  have a19 : Cad P w K mg base 7 g19 (spAn (tabL P0 P1 P2 P3 P4) K C 19) := by
    obtain ⟨fd, p⟩ := X.d65
    exact ⟨fd, _, (ok_fig p.fn X.kl X.nlen).mono (by decide), p.fn.kp, p.bd⟩
  have a20 : Cad P w K mg base 7 g20 (spAn (tabL P0 P1 P2 P3 P4) K C 20) := by
    obtain ⟨fd, p⟩ := X.d66
    exact ⟨fd, _, (ok_ste p.fn X.kl X.nlen c22_).mono (by decide), p.fn.kp, p.bd⟩
  have cads : ∀ j : Nat, j < 21 → ∃ f, (ansL g0 g1 g2 g3 g4 g5 g6 g7 g8 g9 g10 g11 g12 g13 g14 g15 g16 g17 g18 g19 g20)[j]? = some f ∧ Cad P w K mg base 7 f (spAn (tabL P0 P1 P2 P3 P4) K C (j : Int)) := fun j hj => match j, hj with
    | 0, _ => ⟨g0, rfl, a0⟩
    | 1, _ => ⟨g1, rfl, a1⟩
    | 2, _ => ⟨g2, rfl, a2⟩
    | 3, _ => ⟨g3, rfl, a3⟩
    | 4, _ => ⟨g4, rfl, a4⟩
    | 5, _ => ⟨g5, rfl, a5⟩
    | 6, _ => ⟨g6, rfl, a6⟩
    | 7, _ => ⟨g7, rfl, a7⟩
    | 8, _ => ⟨g8, rfl, a8⟩
    | 9, _ => ⟨g9, rfl, a9⟩
    | 10, _ => ⟨g10, rfl, a10⟩
    | 11, _ => ⟨g11, rfl, a11⟩
    | 12, _ => ⟨g12, rfl, a12⟩
    | 13, _ => ⟨g13, rfl, a13⟩
    | 14, _ => ⟨g14, rfl, a14⟩
    | 15, _ => ⟨g15, rfl, a15⟩
    | 16, _ => ⟨g16, rfl, a16⟩
    | 17, _ => ⟨g17, rfl, a17⟩
    | 18, _ => ⟨g18, rfl, a18⟩
    | 19, _ => ⟨g19, rfl, a19⟩
    | 20, _ => ⟨g20, rfl, a20⟩
    | j + 21, hj => absurd hj (by omega)
  obtain ⟨f68, fd68, p68⟩ := X.d68
  have c68_ : Cal P w K mg base 8 "answer" ["drawing", "number", "numbers"] (spAns (tabL P0 P1 P2 P3 P4) K C) := p68.cal (ok_ans p68.fn X.kl X.kstart X.kstarted X.daa X.kA cads)
  exact ok_all F X.kl X.mkC oI bI X.nlen X.hdd X.hH c68_
end
/-- the row's asking, as the promise has it -/
theorem row_ask {K : PySem.W.Frag} {H : Hp} {xs : List V} {P0 P1 P2 P3 P4 : Addr} {a : Codec.denoteAll PySem.Challenge.fa_fewchanges_s01_answers} (hask : Codec.app PySem.Challenge.fa_fewchanges_s01_answers PyKqz6.answers_asked a = true)
    (t : ∀ b ∈ [P0, P1, P2, P3, P4], H b = some (.tbl #[])) (hx : DwAll K H xs (Codec.encAll PySem.Challenge.fa_fewchanges_s01_answers a)) :
    spAll (tabL P0 P1 P2 P3 P4) K xs H (fun v H' => Dw K H' v (Codec.enc PySem.Challenge.fr_fewchanges_s01_answers (Codec.app PySem.Challenge.fa_fewchanges_s01_answers PyKqz6.answers a))) E0 := by
  cases hx with
  | cons h1 h2 =>
    cases h2
    cases h1 with
    | lst hs ha =>
      have e := L2.ints_dw a.1 _ ha
      subst e
      refine ⟨_, a.1, rfl, hs, hask, fun p hp => ?_, fun H' p hp => .lst (L2.SqL.of hp) (L2.dw_ints _)⟩
      refine TabS.nil (t p.1 ?_)
      have m : p.1 ∈ (tabL P0 P1 P2 P3 P4).map (·.1) := List.mem_map.mpr ⟨p, hp, rfl⟩
      exact m
theorem fx_at {w : World} {K : PySem.W.Frag} {mg : Str → Option Value} {h : Heap} {fa C fI fR da hd : Addr} {g0 g1 g2 g3 g4 g5 g6 g7 g8 g9 g10 g11 g12 g13 g14 g15 g16 g17 g18 g19 g20 : Addr} {c0 P0 c1 P1 c2 P2 c3 P3 c4 P4 : Addr} (X : Fx K mg h C fI fR da hd g0 g1 g2 g3 g4 g5 g6 g7 g8 g9 g10 g11 g12 g13 g14 g15 g16 g17 g18 g19 g20 c0 P0 c1 P1 c2 P2 c3 P3 c4 P4) (hmg : mg "answers" = some (.ref fa)) : SpecAt PySem.Challenge.rw_fewchanges_s01_answers w K 9 ["calls"] mg fa h := by
  obtain ⟨f, fd, p⟩ := X.d69
  have e : fa = f := by
    have z := hmg.symm.trans p.at_
    cases z
    rfl
  subst e
  obtain ⟨_, _, _, _, h0, t0, n0⟩ := X.d54
  obtain ⟨_, _, _, _, h1, t1, n1⟩ := X.d55
  obtain ⟨_, _, _, _, h2, t2, n2⟩ := X.d56
  obtain ⟨_, _, _, _, h3, t3, n3⟩ := X.d57
  obtain ⟨_, _, _, _, h4, t4, n4⟩ := X.d58
  refine ⟨fd, [(c0, P0), (c1, P1), (c2, P2), (c3, P3), (c4, P4)], spAll (tabL P0 P1 P2 P3 P4) K, ?_, ?_, ?_, ?_, fun H xs a _ hask t hx => row_ask hask ?_ hx, fun base _ _ TB => fx_ok X TB p.fn⟩
  · intro p hp
    have z : p = (c0, P0) ∨ p = (c1, P1) ∨ p = (c2, P2) ∨ p = (c3, P3) ∨ p = (c4, P4) := by simpa using hp
    rcases z with rfl | rfl | rfl | rfl | rfl
    · exact t0
    · exact t1
    · exact t2
    · exact t3
    · exact t4
  · intro p hp
    have z : p = (c0, P0) ∨ p = (c1, P1) ∨ p = (c2, P2) ∨ p = (c3, P3) ∨ p = (c4, P4) := by simpa using hp
    rcases z with rfl | rfl | rfl | rfl | rfl
    · exact n0
    · exact n1
    · exact n2
    · exact n3
    · exact n4
  · intro p hp
    have z : p = (c0, P0) ∨ p = (c1, P1) ∨ p = (c2, P2) ∨ p = (c3, P3) ∨ p = (c4, P4) := by simpa using hp
    rcases z with rfl | rfl | rfl | rfl | rfl
    · exact h0
    · exact h1
    · exact h2
    · exact h3
    · exact h4
  · obtain ⟨oc, od, kV, doc, pm, an, cdv, ct, osl, rfl, _, _⟩ := p.fn.ex
    exact fun s us hu => match us, hu with | [_], _ => .of_eq rfl
  · intro b hb
    have z : b = P0 ∨ b = P1 ∨ b = P2 ∨ b = P3 ∨ b = P4 := by simpa using hb
    rcases z with rfl | rfl | rfl | rfl | rfl
    · exact t (c0, _) (by simp)
    · exact t (c1, _) (by simp)
    · exact t (c2, _) (by simp)
    · exact t (c3, _) (by simp)
    · exact t (c4, _) (by simp)
end Fc
end
section
set_option Elab.async false
set_option linter.all false
set_option maxRecDepth 100000
set_option maxHeartbeats 4000000
/-! the last facts, each by its reading -/
namespace Fc
open PySem PySem.Spec PyProof.Rows L2
def sameInts : List Value → List Int → Bool
  | [], [] => true
  | .int i _ :: us, n :: ns => i == n && sameInts us ns
  | _, _ => false
theorem vals_same : ∀ {us : List Value} {ns : List Int}, sameInts us ns = true → Vals (inV ns) us
  | [], [], _ => .nil
  | .int i t :: us, n :: ns, h => by
    have h : (i == n && sameInts us ns) = true := h
    rw [Bool.and_eq_true, beq_iff_eq] at h
    rw [← h.1]
    exact .cons ⟨t, rfl⟩ (vals_same h.2)
  | [], _ :: _, h => nomatch h
  | .int _ _ :: _, [], h => nomatch h
theorem tup_by {K : PySem.W.Frag} {a : Addr} {od : Option Addr} {its : Array Value} {n : Nat} {sl : Array (Option Value)} {ns : List Int} (l : K.lookup a = some ⟨.type "tuple", od, .seq its n, sl⟩) (v : sameInts its.toList ns = true) (z : its.size ≤ sizeLine) (H : Hp) : SqT K H a (inV ns) :=
  .inr ⟨_, its, n, l, rfl, rfl, z, vals_same v⟩
theorem ktab_mk {K : PySem.W.Frag} {d : Addr} {fs : List Addr} {oc : Value} {od : Option Addr} {es : Array DictEntry} {n : Nat} {sl : Array (Option Value)} (l : K.lookup d = some ⟨oc, od, .dict es n, sl⟩) (h1 : oc = .type "dict") (h2 : od = none) (h3 : sl = #[]) (c : tabChk es fs = true) : KTab K d fs := by
  subst h1 h2 h3
  exact ⟨es, n, l, c⟩
section
variable {K : PySem.W.Frag} {h : Heap} {mg : Str → Option Value}
theorem no_mk {C : Addr} {x : Str} (e : PySem.W.findIn K (.ref C) x = some none) : NoAttr K C x := e
theorem bl_mk {x : Str} (X : K.In h) (G : h.Ns mainGlobals mg) (e : PySem.W.nsIn K mainGlobals x = some none) : mg x = none := PySem.W.mg_none_of X G e
theorem ct_mk {x : Str} {v : Int} {t : Tok} (X : K.In h) (G : h.Ns mainGlobals mg) (e : PySem.W.nsIn K mainGlobals x = some (some (.int v t))) : ∃ t, mg x = some (.int v t) := ⟨t, PySem.W.mg_of X G e⟩
theorem me_mk {x q : Str} {st : Stmt} {ps : List Str} {f : Addr} {oc kV dc pm cd ct : Value} {od an : Option Addr} {sl : Array (Option Value)} (l : K.lookup f = some ⟨oc, od, .func (PySem.W.fnOf x q (defArgs st) (defBody st) (defScope st) .none kV dc pm an cd ct), sl⟩) (c : PySem.W.codeIn K cd q = true) (k : PySem.W.keepIn K (.ref f) = true)
    (b : ∀ (kV doc pm : Value) (an : Option Addr) (cdv ct : Value) (us : List Value), us.length = ps.length → bindArgs (PySem.W.fnOf x q (defArgs st) (defBody st) (defScope st) .none kV doc pm an cdv ct) ⟨us, []⟩ = pure (ps.zip us)) : ∃ fd, Fun K x q st f fd ∧ Binds K fd ps [] := ⟨_, fun_mk l c k, (fun_mk l c k).binds b⟩
end
end Fc
end
set_option Elab.async false
set_option maxRecDepth 100000
set_option maxHeartbeats 8000000
open PySem PySem.W PyProof.Rows
set_option linter.all false
set_option maxRecDepth 100000 in
set_option maxHeartbeats 16000000 in
theorem PySem.Challenge.cw_fewchanges_s01_answers_holds : PySem.Challenge.rw_fewchanges_s01_answers.Holds := by
  w_on; k_headS; (case hw => exact ⟨[.list [.int 0]], by decide +kernel, by decide +kernel⟩)
  k_fillS
  refine Fc.walk_specT (r := PySem.Challenge.rw_fewchanges_s01_answers) (k := 9) (ps := ["calls"]) (by decide +kernel) rfl ⟨rfl, by decide, by decide⟩ (fun w h Y => PySem.W.kIn_of Y) ?F
  case F =>
    intro w mg mb mean fa h T KX hmg
    refine' Fc.fx_at (Fc.Fx.mk
      ⟨_, Fc.st_mk KX T.g ?zza1 ?zzl1 ?zzc1 ?zzk1 (fun _ _ _ _ _ _ us hl => match us, hl with | [], _ => rfl)⟩
      ⟨_, Fc.st_mk KX T.g ?zza3 ?zzl3 ?zzc3 ?zzk3 (fun _ _ _ _ _ _ us hl => match us, hl with | [_, _], _ => rfl)⟩
      ⟨_, Fc.st_mk KX T.g ?zza2 ?zzl2 ?zzc2 ?zzk2 (fun _ _ _ _ _ _ us hl => match us, hl with | [_, _], _ => rfl)⟩
      ⟨_, Fc.st_mk KX T.g ?zza4 ?zzl4 ?zzc4 ?zzk4 (fun _ _ _ _ _ _ us hl => match us, hl with | [_, _], _ => rfl)⟩
      ⟨_, Fc.st_mk KX T.g ?zza5 ?zzl5 ?zzc5 ?zzk5 (fun _ _ _ _ _ _ us hl => match us, hl with | [_], _ => rfl)⟩
      ⟨_, Fc.st_mk KX T.g ?zza7 ?zzl7 ?zzc7 ?zzk7 (fun _ _ _ _ _ _ us hl => match us, hl with | [_], _ => rfl)⟩
      ⟨_, Fc.st_mk KX T.g ?zza8 ?zzl8 ?zzc8 ?zzk8 (fun _ _ _ _ _ _ us hl => match us, hl with | [_], _ => rfl)⟩
      ⟨_, Fc.st_mk KX T.g ?zza9 ?zzl9 ?zzc9 ?zzk9 (fun _ _ _ _ _ _ us hl => match us, hl with | [_, _], _ => rfl)⟩
      ⟨_, Fc.st_mk KX T.g ?zza10 ?zzl10 ?zzc10 ?zzk10 (fun _ _ _ _ _ _ us hl => match us, hl with | [_], _ => rfl)⟩
      ⟨_, Fc.st_mk KX T.g ?zza11 ?zzl11 ?zzc11 ?zzk11 (fun _ _ _ _ _ _ us hl => match us, hl with | [_], _ => rfl)⟩
      ⟨_, Fc.st_mk KX T.g ?zza12 ?zzl12 ?zzc12 ?zzk12 (fun _ _ _ _ _ _ us hl => match us, hl with | [_, _], _ => rfl)⟩
      ⟨_, Fc.st_mk KX T.g ?zza14 ?zzl14 ?zzc14 ?zzk14 (fun _ _ _ _ _ _ us hl => match us, hl with | [_], _ => rfl)⟩
      ⟨_, Fc.st_mk KX T.g ?zza13 ?zzl13 ?zzc13 ?zzk13 (fun _ _ _ _ _ _ us hl => match us, hl with | [_], _ => rfl)⟩
      ⟨_, Fc.st_mk KX T.g ?zza20 ?zzl20 ?zzc20 ?zzk20 (fun _ _ _ _ _ _ us hl => match us, hl with | [_, _], _ => rfl)⟩
      ⟨_, Fc.st_mk KX T.g ?zza19 ?zzl19 ?zzc19 ?zzk19 (fun _ _ _ _ _ _ us hl => match us, hl with | [_, _, _], _ => rfl)⟩
      ⟨_, Fc.st_mk KX T.g ?zza21 ?zzl21 ?zzc21 ?zzk21 (fun _ _ _ _ _ _ us hl => match us, hl with | [_], _ => rfl)⟩
      ⟨_, Fc.st_mk KX T.g ?zza22 ?zzl22 ?zzc22 ?zzk22 (fun _ _ _ _ _ _ us hl => match us, hl with | [_], _ => rfl)⟩
      ⟨_, Fc.st_mk KX T.g ?zza23 ?zzl23 ?zzc23 ?zzk23 (fun _ _ _ _ _ _ us hl => match us, hl with | [_, _], _ => rfl)⟩
      ⟨_, Fc.st_mk KX T.g ?zza28 ?zzl28 ?zzc28 ?zzk28 (fun _ _ _ _ _ _ us hl => match us, hl with | [_, _, _], _ => rfl)⟩
      ⟨_, Fc.st_mk KX T.g ?zza26 ?zzl26 ?zzc26 ?zzk26 (fun _ _ _ _ _ _ us hl => match us, hl with | [_, _], _ => rfl)⟩
      ⟨_, Fc.st_mk KX T.g ?zza27 ?zzl27 ?zzc27 ?zzk27 (fun _ _ _ _ _ _ us hl => match us, hl with | [_, _], _ => rfl)⟩
      ⟨_, Fc.st_mk KX T.g ?zza29 ?zzl29 ?zzc29 ?zzk29 (fun _ _ _ _ _ _ us hl => match us, hl with | [_, _], _ => rfl)⟩
      ⟨_, Fc.st_mk KX T.g ?zza43 ?zzl43 ?zzc43 ?zzk43 (fun _ _ _ _ _ _ us hl => match us, hl with | [_], _ => rfl)⟩
      ⟨_, Fc.st_mk KX T.g ?zza44 ?zzl44 ?zzc44 ?zzk44 (fun _ _ _ _ _ _ us hl => match us, hl with | [_, _], _ => rfl)⟩
      ⟨_, Fc.st_mk KX T.g ?zza53 ?zzl53 ?zzc53 ?zzk53 (fun _ _ _ _ _ _ us hl => match us, hl with | [_, _], _ => rfl)⟩
      (Fc.st_mk KX T.g ?zza45 ?zzl45 ?zzc45 ?zzk45 (fun _ _ _ _ _ _ us hl => match us, hl with | [_, _], _ => rfl))
      (Fc.st_mk KX T.g ?zza46 ?zzl46 ?zzc46 ?zzk46 (fun _ _ _ _ _ _ us hl => match us, hl with | [_, _], _ => rfl))
      (Fc.st_mk KX T.g ?zza47 ?zzl47 ?zzc47 ?zzk47 (fun _ _ _ _ _ _ us hl => match us, hl with | [_, _], _ => rfl))
      (Fc.st_mk KX T.g ?zza48 ?zzl48 ?zzc48 ?zzk48 (fun _ _ _ _ _ _ us hl => match us, hl with | [_, _], _ => rfl))
      (Fc.st_mk KX T.g ?zza49 ?zzl49 ?zzc49 ?zzk49 (fun _ _ _ _ _ _ us hl => match us, hl with | [_, _], _ => rfl))
      (Fc.st_mk KX T.g ?zza50 ?zzl50 ?zzc50 ?zzk50 (fun _ _ _ _ _ _ us hl => match us, hl with | [_, _], _ => rfl))
      (Fc.st_mk KX T.g ?zza51 ?zzl51 ?zzc51 ?zzk51 (fun _ _ _ _ _ _ us hl => match us, hl with | [_, _], _ => rfl))
      (Fc.st_mk KX T.g ?zza52 ?zzl52 ?zzc52 ?zzk52 (fun _ _ _ _ _ _ us hl => match us, hl with | [_, _], _ => rfl))
      (Fc.sl_mk (c := 272) (Pt := 268) KX T.g ?zza54 ?zzl54 ?zzc54 ?zzk54 (fun _ _ _ _ _ _ us hl => match us, hl with | [_, _], _ => rfl) (PySem.W.tab_of (x := "answer_undone") (c := 272) (P := 268) T KX rfl (by kernel_rfl)) (by kernel_rfl))
      (Fc.sl_mk (c := 279) (Pt := 275) KX T.g ?zza55 ?zzl55 ?zzc55 ?zzk55 (fun _ _ _ _ _ _ us hl => match us, hl with | [_, _], _ => rfl) (PySem.W.tab_of (x := "answer_split") (c := 279) (P := 275) T KX rfl (by kernel_rfl)) (by kernel_rfl))
      (Fc.sl_mk (c := 286) (Pt := 282) KX T.g ?zza56 ?zzl56 ?zzc56 ?zzk56 (fun _ _ _ _ _ _ us hl => match us, hl with | [_, _], _ => rfl) (PySem.W.tab_of (x := "answer_flat") (c := 286) (P := 282) T KX rfl (by kernel_rfl)) (by kernel_rfl))
      (Fc.sl_mk (c := 293) (Pt := 289) KX T.g ?zza57 ?zzl57 ?zzc57 ?zzk57 (fun _ _ _ _ _ _ us hl => match us, hl with | [_, _], _ => rfl) (PySem.W.tab_of (x := "answer_to") (c := 293) (P := 289) T KX rfl (by kernel_rfl)) (by kernel_rfl))
      (Fc.sl_mk (c := 300) (Pt := 296) KX T.g ?zza58 ?zzl58 ?zzc58 ?zzk58 (fun _ _ _ _ _ _ us hl => match us, hl with | [_, _], _ => rfl) (PySem.W.tab_of (x := "answer_closes") (c := 300) (P := 296) T KX rfl (by kernel_rfl)) (by kernel_rfl))
      (Fc.st_mk KX T.g ?zza59 ?zzl59 ?zzc59 ?zzk59 (fun _ _ _ _ _ _ us hl => match us, hl with | [_, _], _ => rfl))
      (Fc.st_mk KX T.g ?zza60 ?zzl60 ?zzc60 ?zzk60 (fun _ _ _ _ _ _ us hl => match us, hl with | [_, _], _ => rfl))
      (Fc.st_mk KX T.g ?zza61 ?zzl61 ?zzc61 ?zzk61 (fun _ _ _ _ _ _ us hl => match us, hl with | [_, _], _ => rfl))
      (Fc.st_mk KX T.g ?zza62 ?zzl62 ?zzc62 ?zzk62 (fun _ _ _ _ _ _ us hl => match us, hl with | [_, _], _ => rfl))
      (Fc.st_mk KX T.g ?zza63 ?zzl63 ?zzc63 ?zzk63 (fun _ _ _ _ _ _ us hl => match us, hl with | [_, _], _ => rfl))
      (Fc.st_mk KX T.g ?zza64 ?zzl64 ?zzc64 ?zzk64 (fun _ _ _ _ _ _ us hl => match us, hl with | [_, _], _ => rfl))
      (Fc.st_mk KX T.g ?zza65 ?zzl65 ?zzc65 ?zzk65 (fun _ _ _ _ _ _ us hl => match us, hl with | [_, _], _ => rfl))
      (Fc.st_mk KX T.g ?zza66 ?zzl66 ?zzc66 ?zzk66 (fun _ _ _ _ _ _ us hl => match us, hl with | [_, _], _ => rfl))
      ⟨_, Fc.st_mk KX T.g ?zza68 ?zzl68 ?zzc68 ?zzk68 (fun _ _ _ _ _ _ us hl => match us, hl with | [_, _, _], _ => rfl)⟩
      ⟨_, Fc.st_mk KX T.g ?zza69 ?zzl69 ?zzc69 ?zzk69 (fun _ _ _ _ _ _ us hl => match us, hl with | [_], _ => rfl)⟩
      ⟨⟨?zzpg, ?zzhd, ?zzpo, ?zzsa⟩, Fc.no_mk ?zznS, Fc.no_mk ?zznF, Fc.no_mk ?zznW, PySem.W.mg_of KX T.g ?zzgC⟩
      ⟨?zzmk, ?zzfi, ?zzii, ?zzkc⟩
      (Fc.me_mk ?zzli ?zzci ?zzki (fun _ _ _ _ _ _ us hl => match us, hl with | [_], _ => rfl))
      (Fc.me_mk ?zzlr ?zzcr ?zzkr (fun _ _ _ _ _ _ us hl => match us, hl with | [_, _], _ => rfl))
      ⟨?zzfr, ?zzir, ?zzkr2⟩
      (Fc.bl_mk KX T.g ?zznabs)
      (Fc.bl_mk KX T.g ?zznmin)
      (Fc.bl_mk KX T.g ?zznmax)
      (Fc.bl_mk KX T.g ?zznrange)
      (Fc.bl_mk KX T.g ?zznlist)
      (Fc.bl_mk KX T.g ?zznsum)
      (Fc.bl_mk KX T.g ?zznzip)
      (Fc.bl_mk KX T.g ?zznset)
      (Fc.bl_mk KX T.g ?zznlen)
      (Fc.ct_mk KX T.g ?zzkturn)
      (Fc.ct_mk KX T.g ?zzkchanges)
      (Fc.ct_mk KX T.g ?zzkfigures)
      (Fc.ct_mk KX T.g ?zzktwists)
      (Fc.ct_mk KX T.g ?zzkfrac)
      (Fc.ct_mk KX T.g ?zzksize)
      (Fc.ct_mk KX T.g ?zzkfigure)
      (Fc.ct_mk KX T.g ?zzkthere)
      (Fc.ct_mk KX T.g ?zzkstarted)
      (Fc.ct_mk KX T.g ?zzktold)
      (Fc.ct_mk KX T.g ?zzktoomany)
      (Fc.ct_mk KX T.g ?zzkfew)
      (Fc.ct_mk KX T.g ?zzkstart)
      (PySem.W.mg_of KX T.g ?zzhdd)
      (Fc.tup_by ?zzhl ?zzhv ?zzhz)
      (PySem.W.mg_of KX T.g ?zzda)
      (Fc.ktab_mk ?zzkl ?zzkx1 ?zzkx2 ?zzkx3 ?zzkt)
      (by decide)) hmg
    (case zzgC => k_is); (case zzfi => k_is); (case zzfr => k_is); (case zza1 => k_is); (case zzl1 => k_is); (case zzc1 => k_is); (case zzk1 => k_is)
    (case zza3 => k_is); (case zzl3 => k_is); (case zzc3 => k_is); (case zzk3 => k_is); (case zza2 => k_is); (case zzl2 => k_is); (case zzc2 => k_is)
    (case zzk2 => k_is); (case zza4 => k_is); (case zzl4 => k_is); (case zzc4 => k_is); (case zzk4 => k_is); (case zza5 => k_is); (case zzl5 => k_is)
    (case zzc5 => k_is); (case zzk5 => k_is); (case zza7 => k_is); (case zzl7 => k_is); (case zzc7 => k_is); (case zzk7 => k_is); (case zza8 => k_is)
    (case zzl8 => k_is); (case zzc8 => k_is); (case zzk8 => k_is); (case zza9 => k_is); (case zzl9 => k_is); (case zzc9 => k_is); (case zzk9 => k_is)
    (case zza10 => k_is); (case zzl10 => k_is); (case zzc10 => k_is); (case zzk10 => k_is); (case zza11 => k_is); (case zzl11 => k_is); (case zzc11 => k_is)
    (case zzk11 => k_is); (case zza12 => k_is); (case zzl12 => k_is); (case zzc12 => k_is); (case zzk12 => k_is); (case zza14 => k_is); (case zzl14 => k_is)
    (case zzc14 => k_is); (case zzk14 => k_is); (case zza13 => k_is); (case zzl13 => k_is); (case zzc13 => k_is); (case zzk13 => k_is); (case zza20 => k_is)
    (case zzl20 => k_is); (case zzc20 => k_is); (case zzk20 => k_is); (case zza19 => k_is); (case zzl19 => k_is); (case zzc19 => k_is); (case zzk19 => k_is)
    (case zza21 => k_is); (case zzl21 => k_is); (case zzc21 => k_is); (case zzk21 => k_is); (case zza22 => k_is); (case zzl22 => k_is); (case zzc22 => k_is)
    (case zzk22 => k_is); (case zza23 => k_is); (case zzl23 => k_is); (case zzc23 => k_is); (case zzk23 => k_is); (case zza28 => k_is); (case zzl28 => k_is)
    (case zzc28 => k_is); (case zzk28 => k_is); (case zza26 => k_is); (case zzl26 => k_is); (case zzc26 => k_is); (case zzk26 => k_is); (case zza27 => k_is)
    (case zzl27 => k_is); (case zzc27 => k_is); (case zzk27 => k_is); (case zza29 => k_is); (case zzl29 => k_is); (case zzc29 => k_is); (case zzk29 => k_is)
    (case zza43 => k_is); (case zzl43 => k_is); (case zzc43 => k_is); (case zzk43 => k_is); (case zza44 => k_is); (case zzl44 => k_is); (case zzc44 => k_is)
    (case zzk44 => k_is); (case zza53 => k_is); (case zzl53 => k_is); (case zzc53 => k_is); (case zzk53 => k_is); (case zza45 => k_is); (case zzl45 => k_is)
    (case zzc45 => k_is); (case zzk45 => k_is); (case zza46 => k_is); (case zzl46 => k_is); (case zzc46 => k_is); (case zzk46 => k_is); (case zza47 => k_is)
    (case zzl47 => k_is); (case zzc47 => k_is); (case zzk47 => k_is); (case zza48 => k_is); (case zzl48 => k_is); (case zzc48 => k_is); (case zzk48 => k_is)
    (case zza49 => k_is); (case zzl49 => k_is); (case zzc49 => k_is); (case zzk49 => k_is); (case zza50 => k_is); (case zzl50 => k_is); (case zzc50 => k_is)
    (case zzk50 => k_is); (case zza51 => k_is); (case zzl51 => k_is); (case zzc51 => k_is); (case zzk51 => k_is); (case zza52 => k_is); (case zzl52 => k_is)
    (case zzc52 => k_is); (case zzk52 => k_is); (case zza54 => k_is); (case zzl54 => k_is); (case zzc54 => k_is); (case zzk54 => k_is); (case zza55 => k_is)
    (case zzl55 => k_is); (case zzc55 => k_is); (case zzk55 => k_is); (case zza56 => k_is); (case zzl56 => k_is); (case zzc56 => k_is); (case zzk56 => k_is)
    (case zza57 => k_is); (case zzl57 => k_is); (case zzc57 => k_is); (case zzk57 => k_is); (case zza58 => k_is); (case zzl58 => k_is); (case zzc58 => k_is)
    (case zzk58 => k_is); (case zza59 => k_is); (case zzl59 => k_is); (case zzc59 => k_is); (case zzk59 => k_is); (case zza60 => k_is); (case zzl60 => k_is)
    (case zzc60 => k_is); (case zzk60 => k_is); (case zza61 => k_is); (case zzl61 => k_is); (case zzc61 => k_is); (case zzk61 => k_is); (case zza62 => k_is)
    (case zzl62 => k_is); (case zzc62 => k_is); (case zzk62 => k_is); (case zza63 => k_is); (case zzl63 => k_is); (case zzc63 => k_is); (case zzk63 => k_is)
    (case zza64 => k_is); (case zzl64 => k_is); (case zzc64 => k_is); (case zzk64 => k_is); (case zza65 => k_is); (case zzl65 => k_is); (case zzc65 => k_is)
    (case zzk65 => k_is); (case zza66 => k_is); (case zzl66 => k_is); (case zzc66 => k_is); (case zzk66 => k_is); (case zza68 => k_is); (case zzl68 => k_is)
    (case zzc68 => k_is); (case zzk68 => k_is); (case zza69 => k_is); (case zzl69 => k_is); (case zzc69 => k_is); (case zzk69 => k_is); (case zzpg => k_is)
    (case zzhd => k_is); (case zzpo => k_is); (case zzsa => k_is); (case zznS => k_is); (case zznF => k_is); (case zznW => k_is); (case zzmk => k_is)
    (case zzii => k_is); (case zzkc => k_is); (case zzli => k_is); (case zzci => k_is); (case zzki => k_is); (case zzlr => k_is); (case zzcr => k_is)
    (case zzkr => k_is); (case zzir => k_is); (case zzkr2 => k_is); (case zznabs => k_is); (case zznmin => k_is); (case zznmax => k_is); (case zznrange => k_is)
    (case zznlist => k_is); (case zznsum => k_is); (case zznzip => k_is); (case zznset => k_is); (case zznlen => k_is); (case zzkturn => k_is); (case zzkchanges => k_is)
    (case zzkfigures => k_is); (case zzktwists => k_is); (case zzkfrac => k_is); (case zzksize => k_is); (case zzkfigure => k_is); (case zzkthere => k_is)
    (case zzkstarted => k_is); (case zzktold => k_is); (case zzktoomany => k_is); (case zzkfew => k_is); (case zzkstart => k_is); (case zzhdd => k_is)
    (case zzhl => k_is); (case zzhv => decide +kernel); (case zzhz => decide +kernel); (case zzda => k_is); (case zzkl => k_is); (case zzkx1 => rfl); (case zzkx2 => rfl)
    (case zzkx3 => rfl); (case zzkt => decide +kernel)
