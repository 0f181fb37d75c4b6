import PyProof.Rows.All
import Wide.All
import OpenK.AllK
import Wide.FinOn
import Open.SpecLaws
import KE.OsGo
import KE.KRevSl
import HandS.ForSpec
import HandS.Comp
import HandS.Dict
import HandS.Iter
import HandS.Walk
import HandS.Wide
import HandS.Rev
import HandS.NoneIn
import Flt.Len
import PySem.Challenge.RW_rootfield_s01_answers
set_option autoImplicit false
namespace Rf
open Nf01 (F Num)
/-! Fractions of the specification as rationals. -/
/-- a rational as a fraction in lowest terms -/
def psi (q : Rat) : F := ⟨q.num, q.den⟩
def phi (x : F) : Rat := mkRat x.n x.d
theorem phi_psi (q : Rat) : phi (psi q) = q := Rat.mkRat_self q
theorem psi_inj {a b : Rat} (h : psi a = psi b) : a = b := by
  rw [← phi_psi a, h, phi_psi]
theorem psi_zero : psi 0 = Nf01.zero := rfl
theorem psi_one : psi 1 = Nf01.one := rfl
theorem psi_whole (z : Int) : psi (z : Rat) = Nf01.whole z := rfl
theorem psi_eq_zero {a : Rat} : psi a = Nf01.zero ↔ a = 0 := by
  rw [← psi_zero]; exact ⟨psi_inj, fun h => by rw [h]⟩
theorem fext {x y : F} (h1 : x.n = y.n) (h2 : x.d = y.d) : x = y := by
  cases x; cases y; simp_all
/-- of, whatever is handed in, below not 0 -/
theorem of_psi (n d : Int) (h : d ≠ 0) : F.of n d = psi ((n : Rat) / (d : Rat)) := by
  rw [← Rat.divInt_eq_div]
  have hg : (0 : Int) < (Int.gcd n d : Int) := by
    have := Int.gcd_pos_of_ne_zero_right n h
    omega
  have e1 := Rat.num_divInt n d
  have e2 := Rat.den_divInt n d
  rw [Int.gcd_comm] at e1 e2
  unfold F.of psi
  simp only []
  rw [if_neg (by omega)]
  split
  · next hd =>
    apply fext
    · show (0 - n) / _ = (Rat.divInt n d).num
      rw [e1, Int.sign_eq_neg_one_of_neg hd]
      congr 1
      omega
    · show (0 - d).toNat / _ = (Rat.divInt n d).den
      rw [e2, if_neg h]
      have : (0 - d).toNat = d.natAbs := by omega
      rw [this]
      simp
  · next hd =>
    apply fext
    · show n / _ = (Rat.divInt n d).num
      rw [e1, Int.sign_eq_one_of_pos (by omega)]
      simp
    · show d.toNat / _ = (Rat.divInt n d).den
      rw [e2, if_neg h]
      have : d.toNat = d.natAbs := by omega
      rw [this]
      simp
theorem den_ne (q : Rat) : (q.den : Rat) ≠ 0 := by
  have := q.den_nz
  intro h
  exact this (by exact_mod_cast h)
theorem num_eq (q : Rat) : (q.num : Rat) = q * (q.den : Rat) := by
  have h := Rat.mkRat_self q
  rw [Rat.mkRat_eq_div] at h
  have := den_ne q
  grind
theorem add_psi (a b : Rat) : (psi a).add (psi b) = psi (a + b) := by
  have ha := den_ne a
  have hb := den_ne b
  show F.of (a.num * b.den + b.num * a.den) ((a.den * b.den : Nat) : Int) = _
  rw [of_psi _ _ (by
    have h1 := a.den_nz
    have h2 := b.den_nz
    have : a.den * b.den ≠ 0 := Nat.mul_ne_zero h1 h2
    omega)]
  congr 1
  push_cast
  rw [num_eq a, num_eq b]
  grind
theorem mul_psi (a b : Rat) : (psi a).mul (psi b) = psi (a * b) := by
  have ha := den_ne a
  have hb := den_ne b
  show F.of (a.num * b.num) ((a.den * b.den : Nat) : Int) = _
  rw [of_psi _ _ (by
    have h1 := a.den_nz
    have h2 := b.den_nz
    have : a.den * b.den ≠ 0 := Nat.mul_ne_zero h1 h2
    omega)]
  congr 1
  push_cast
  rw [num_eq a, num_eq b]
  grind
theorem neg_psi (a : Rat) : (psi a).neg = psi (-a) := by
  apply fext
  · show 0 - a.num = (-a).num
    rw [Rat.neg_num]; omega
  · rfl
theorem div_psi (a b : Rat) (h : b ≠ 0) : (psi a).div (psi b) = psi (a / b) := by
  have ha := den_ne a
  have hb := den_ne b
  show F.of (a.num * b.den) ((a.den : Int) * b.num) = _
  have hbn : b.num ≠ 0 := fun e => h (Rat.num_eq_zero.mp e)
  rw [of_psi _ _ (by
    have h1 := a.den_nz
    exact Int.mul_ne_zero (by omega) hbn)]
  congr 1
  push_cast
  have hbn' : (b.num : Rat) ≠ 0 := by exact_mod_cast hbn
  rw [num_eq b] at hbn' ⊢
  rw [num_eq a]
  grind
end Rf

set_option autoImplicit false
namespace Rf
open Nf01 (F Num)
/-! The specification's functions over rationals. -/
abbrev L := List Rat
def plusR (a b : L) : L := (a.zip b).map fun x => x.1 + x.2
def scaleR (c : Rat) (a : L) : L := a.map (c * ·)
def minusR (a : L) : L := a.map fun x => -x
def upR (k : List Int) (a : L) : L := plusR (0 :: a.dropLast) (k.map fun (z : Int) => -(a.getLastD 0 * (z : Rat)))
def timesR (k : List Int) (a b : L) : L := (a.foldl (fun (x : L × L) c => (plusR x.1 (scaleR c x.2), upR k x.2)) (List.replicate k.length 0, b)).1
def rowsR (k : List Int) (a : L) : List L := (List.range k.length).map fun i => (List.range i).foldl (fun b _ => upR k b) a
def detR : Nat → List L → Rat
  | 0, _ => 1
  | n + 1, m => match m with
    | [] => 1
    | r :: s => (r.zipIdx.map fun x => (if x.2 % 2 = 0 then x.1 else -x.1) * (detR n (s.map fun q => q.eraseIdx x.2))).foldl (· + ·) 0
def normR (k : List Int) (a : L) : Rat := detR k.length (rowsR k a)
def traceR (k : List Int) (a : L) : Rat := ((rowsR k a).zipIdx.map fun x => x.1.getD x.2 0).foldl (· + ·) 0
def ofR (k : List Int) (x : Rat) : L := x :: List.replicate (k.length - 1) 0
def powersR (k : List Int) (a : L) : L := ((List.range k.length).foldl (fun (x : L × L) _ => (x.1 ++ [traceR k (timesR k x.2 a)], timesR k x.2 a)) ([], ofR k 1)).1
def charR (k : List Int) (a : L) : L :=
  ((List.range k.length).foldl (fun (c : L) j => c ++ [(-((List.range (j + 1)).foldl (fun (s : Rat) i => s + (c.getD i 0) * ((powersR k a).getD (j - i) 0)) 0)) / (((j : Int) + 1 : Int) : Rat)]) [1]).reverse
def inverseR (k : List Int) (a : L) : L :=
  scaleR (-(1 / (charR k a).headD 1)) (((charR k a).drop 1).reverse.foldl (fun (b : L) x => plusR (timesR k b a) (ofR k x)) (List.replicate k.length 0))
theorem plus_psi (a b : L) : Nf01.plus (a.map psi) (b.map psi) = (plusR a b).map psi := by
  unfold Nf01.plus plusR
  rw [List.zip_map, List.map_map, List.map_map]
  apply List.map_congr_left
  intro x _
  exact add_psi x.1 x.2
theorem scale_psi (c : Rat) (a : L) : Nf01.scale (psi c) (a.map psi) = (scaleR c a).map psi := by
  unfold Nf01.scale scaleR
  rw [List.map_map, List.map_map]
  apply List.map_congr_left
  intro x _
  exact mul_psi c x
theorem minus_psi (a : L) : Nf01.minus (a.map psi) = (minusR a).map psi := by
  unfold Nf01.minus minusR
  rw [List.map_map, List.map_map]
  apply List.map_congr_left
  intro x _
  exact neg_psi x
theorem getLastD_psi (a : L) : (a.map psi).getLastD Nf01.zero = psi (a.getLastD 0) := by
  rw [List.getLastD_eq_getLast?, List.getLastD_eq_getLast?, List.getLast?_map]
  cases a.getLast? <;> rfl
theorem getD_psi (a : L) (i : Nat) : (a.map psi).getD i Nf01.zero = psi (a.getD i 0) := by
  rw [List.getD_eq_getElem?_getD, List.getD_eq_getElem?_getD, List.getElem?_map]
  cases a[i]? <;> rfl
theorem up_psi (k : List Int) (a : L) : Nf01.up k (a.map psi) = (upR k a).map psi := by
  unfold Nf01.up upR
  simp only [getLastD_psi]
  rw [← List.map_dropLast]
  have e : (k.map fun z => ((psi (a.getLastD 0)).mul (Nf01.whole z)).neg) = (k.map fun (z : Int) => -(a.getLastD 0 * (z : Rat))).map psi := by
    rw [List.map_map]
    apply List.map_congr_left
    intro z _
    rw [← psi_whole, mul_psi, neg_psi]
    rfl
  rw [e, ← plus_psi]
  rfl
theorem zeros_psi (n : Nat) : (List.replicate n Nf01.zero) = (List.replicate n (0 : Rat)).map psi := by
  rw [List.map_replicate]; rfl
theorem times_psi (k : List Int) (a b : L) : Nf01.times k (a.map psi) (b.map psi) = (timesR k a b).map psi := by
  unfold Nf01.times timesR
  have h : ∀ (a : L) (x y : L), (a.map psi).foldl (fun (x : Num × Num) c => (Nf01.plus x.1 (Nf01.scale c x.2), Nf01.up k x.2)) (x.map psi, y.map psi)
      = ((a.foldl (fun (x : L × L) c => (plusR x.1 (scaleR c x.2), upR k x.2)) (x, y)).1.map psi, (a.foldl (fun (x : L × L) c => (plusR x.1 (scaleR c x.2), upR k x.2)) (x, y)).2.map psi) := by
    intro a
    induction a with
    | nil => intro x y; rfl
    | cons c a ih =>
      intro x y
      rw [List.map_cons, List.foldl_cons, List.foldl_cons]
      simp only [scale_psi, plus_psi, up_psi]
      exact ih _ _
  show (List.foldl _ (List.replicate k.length Nf01.zero, _) _).1 = _
  rw [zeros_psi, h]
theorem ups_psi (k : List Int) (a : L) : ∀ (l : List Nat) , l.foldl (fun b _ => Nf01.up k b) (a.map psi) = (l.foldl (fun b _ => upR k b) a).map psi := by
  intro l
  induction l generalizing a with
  | nil => rfl
  | cons x l ih =>
    rw [List.foldl_cons, List.foldl_cons, up_psi, ih]
theorem rows_psi (k : List Int) (a : L) : Nf01.rows k (a.map psi) = (rowsR k a).map (·.map psi) := by
  unfold Nf01.rows rowsR
  rw [List.map_map]
  apply List.map_congr_left
  intro i _
  exact ups_psi k a _
theorem sum_psi (l : L) (s : Rat) : (l.map psi).foldl F.add (psi s) = psi (l.foldl (· + ·) s) := by
  induction l generalizing s with
  | nil => rfl
  | cons x l ih =>
    rw [List.map_cons, List.foldl_cons, List.foldl_cons, add_psi, ih]
theorem eraseIdx_psi (q : L) (i : Nat) : (q.map psi).eraseIdx i = (q.eraseIdx i).map psi := by
  induction q generalizing i with
  | nil => rfl
  | cons x q ih =>
    cases i with
    | zero => rfl
    | succ i =>
      show psi x :: (q.map psi).eraseIdx i = psi x :: (q.eraseIdx i).map psi
      rw [ih]
theorem det_psi : ∀ (n : Nat) (m : List L), Nf01.det n (m.map (·.map psi)) = psi (detR n m)
  | 0, _ => rfl
  | n + 1, [] => rfl
  | n + 1, r :: s => by
    show ((r.map psi).zipIdx.map fun x => (if x.2 % 2 = 0 then x.1 else x.1.neg).mul (Nf01.det n ((s.map (·.map psi)).map fun q => q.eraseIdx x.2))).foldl F.add (psi 0) = psi ((r.zipIdx.map fun x => (if x.2 % 2 = 0 then x.1 else -x.1) * (detR n (s.map fun q => q.eraseIdx x.2))).foldl (· + ·) 0)
    rw [← sum_psi, List.zipIdx_map, List.map_map, List.map_map]
    congr 1
    apply List.map_congr_left
    intro x _
    have e : ((s.map (·.map psi)).map fun q => q.eraseIdx x.2) = (s.map fun q => q.eraseIdx x.2).map (·.map psi) := by
      rw [List.map_map, List.map_map]
      apply List.map_congr_left
      intro q _
      exact eraseIdx_psi q x.2
    show (if x.2 % 2 = 0 then psi x.1 else (psi x.1).neg).mul (Nf01.det n ((s.map (·.map psi)).map fun q => q.eraseIdx x.2)) = psi ((if x.2 % 2 = 0 then x.1 else -x.1) * (detR n (s.map fun q => q.eraseIdx x.2)))
    rw [e, det_psi n, neg_psi]
    split
    · rw [mul_psi]
    · rw [mul_psi]
theorem norm_psi (k : List Int) (a : L) : Nf01.norm k (a.map psi) = psi (normR k a) := by
  unfold Nf01.norm normR
  rw [rows_psi, det_psi]
  rfl
theorem trace_psi (k : List Int) (a : L) : Nf01.trace k (a.map psi) = psi (traceR k a) := by
  unfold Nf01.trace traceR
  rw [rows_psi, ← sum_psi, List.zipIdx_map, List.map_map, List.map_map]
  congr 1
  apply List.map_congr_left
  intro x _
  exact getD_psi x.1 x.2
theorem of_psi' (k : List Int) (x : Rat) : Nf01.ofF k (psi x) = (ofR k x).map psi := by
  unfold Nf01.ofF ofR
  rw [List.map_cons, List.map_replicate]
  rfl
theorem powers_psi (k : List Int) (a : L) : Nf01.powers k (a.map psi) = (powersR k a).map psi := by
  unfold Nf01.powers powersR
  have h : ∀ (l : List Nat) (x y : L), l.foldl (fun (x : List F × Num) _ => let b := Nf01.times k x.2 (a.map psi); (x.1 ++ [Nf01.trace k b], b)) (x.map psi, y.map psi)
      = ((l.foldl (fun (x : L × L) _ => (x.1 ++ [traceR k (timesR k x.2 a)], timesR k x.2 a)) (x, y)).1.map psi, (l.foldl (fun (x : L × L) _ => (x.1 ++ [traceR k (timesR k x.2 a)], timesR k x.2 a)) (x, y)).2.map psi) := by
    intro l
    induction l with
    | nil => intro x y; rfl
    | cons i l ih =>
      intro x y
      rw [List.foldl_cons, List.foldl_cons]
      simp only [times_psi, trace_psi]
      rw [show x.map psi ++ [psi (traceR k (timesR k y a))] = (x ++ [traceR k (timesR k y a)]).map psi by rw [List.map_append]; rfl]
      exact ih _ _
  show (List.foldl _ ([], Nf01.ofF k (psi 1)) _).1 = _
  rw [of_psi']
  exact congrArg Prod.fst (h _ [] _)
theorem char_psi (k : List Int) (a : L) : Nf01.charOf k (a.map psi) = (charR k a).map psi := by
  unfold Nf01.charOf charR
  simp only [powers_psi]
  rw [List.map_reverse]
  congr 1
  have h : ∀ (l : List Nat) (c : L), l.foldl (fun (c : List F) j => c ++ [(((List.range (j + 1)).foldl (fun (s : F) i => s.add ((c.getD i Nf01.zero).mul (((powersR k a).map psi).getD (j - i) Nf01.zero))) Nf01.zero).neg).div (Nf01.whole ((j : Int) + 1))]) (c.map psi)
     = (l.foldl (fun (c : L) j => c ++ [(-((List.range (j + 1)).foldl (fun (s : Rat) i => s + (c.getD i 0) * ((powersR k a).getD (j - i) 0)) 0)) / (((j : Int) + 1 : Int) : Rat)]) c).map psi := by
    intro l
    induction l with
    | nil => intro c; rfl
    | cons j l ih =>
      intro c
      rw [List.foldl_cons, List.foldl_cons]
      have e : ∀ (m : List Nat) (s : Rat), m.foldl (fun (s : F) i => s.add (((c.map psi).getD i Nf01.zero).mul (((powersR k a).map psi).getD (j - i) Nf01.zero))) (psi s)
          = psi (m.foldl (fun (s : Rat) i => s + (c.getD i 0) * ((powersR k a).getD (j - i) 0)) s) := by
        intro m
        induction m with
        | nil => intro s; rfl
        | cons i m ih2 =>
          intro s
          rw [List.foldl_cons, List.foldl_cons, getD_psi, getD_psi, mul_psi, add_psi]
          exact ih2 _
      rw [show (Nf01.zero : F) = psi 0 from rfl] at e ⊢
      rw [e, neg_psi, ← psi_whole, div_psi]
      · rw [← ih, List.map_append]
        rfl
      · have : ((j : Int) + 1) ≠ 0 := by omega
        intro h
        apply this
        exact_mod_cast h
  exact h _ [1]
theorem inverse_psi (k : List Int) (a : L) (h : (charR k a).headD 1 ≠ 0) : Nf01.inverse k (a.map psi) = (inverseR k a).map psi := by
  unfold Nf01.inverse inverseR
  simp only [char_psi]
  rw [← List.map_drop, ← List.map_reverse]
  have e1 : ((charR k a).map psi).headD Nf01.one = psi ((charR k a).headD 1) := by
    cases charR k a <;> rfl
  rw [e1, show Nf01.one = psi 1 from rfl, div_psi _ _ h, neg_psi]
  have e : ∀ (l : L) (b : L), (l.map psi).foldl (fun (b : Num) x => Nf01.plus (Nf01.times k b (a.map psi)) (Nf01.ofF k x)) (b.map psi) = (l.foldl (fun (b : L) x => plusR (timesR k b a) (ofR k x)) b).map psi := by
    intro l
    induction l with
    | nil => intro b; rfl
    | cons x l ih =>
      intro b
      rw [List.map_cons, List.foldl_cons, List.foldl_cons, times_psi, of_psi', plus_psi, ih]
  show Nf01.scale _ (List.foldl _ (List.replicate k.length Nf01.zero) _) = _
  rw [zeros_psi, e, scale_psi]
end Rf

set_option autoImplicit false
set_option maxHeartbeats 4000000
namespace Rf
/-! The field's reckoning, written out for the degrees 2, 3, 4. -/
theorem up2 (p q : Int) (x y : Rat) : upR [p,q] [x,y] = [-(y*p), x - y*q] := by
  simp [upR, plusR]; grind
theorem up3 (p q r : Int) (x y z : Rat) : upR [p,q,r] [x,y,z] = [-(z*p), x - z*q, y - z*r] := by
  simp [upR, plusR]; grind
theorem up4 (p q r s : Int) (x y z w : Rat) : upR [p,q,r,s] [x,y,z,w] = [-(w*p), x - w*q, y - w*r, z - w*s] := by
  simp [upR, plusR]; grind
theorem times2 (p q : Int) (a b x y : Rat) : timesR [p,q] [a,b] [x,y] = [a*x - b*y*p, a*y + b*(x-y*q)] := by
  simp [timesR, plusR, scaleR, upR, List.replicate]
  grind
theorem times3 (p q r : Int) (a b c x y z : Rat) : timesR [p,q,r] [a,b,c] [x,y,z] =
  [a*x - b*z*p - c*(y - z*r)*p,
   a*y + b*(x-z*q) + c*(-(z*p) - (y-z*r)*q),
   a*z + b*(y-z*r) + c*(x-z*q-(y-z*r)*r)] := by
  simp [timesR, plusR, scaleR, upR, List.replicate]
  grind
theorem times4 (p q r s : Int) (a b c d x y z w : Rat) : timesR [p,q,r,s] [a,b,c,d] [x,y,z,w] = 
  [a*x - b*w*p - c*(z - w*s)*p - d*((y - w*r) - (z-w*s)*s)*p, 
   a*y + b*(x-w*q) + c*(-(w*p) - (z-w*s)*q) + d*(-((z-w*s)*p) - ((y-w*r) - (z-w*s)*s)*q),
   a*z + b*(y-w*r) + c*(x-w*q - (z-w*s)*r) + d*(-(w*p) - (z-w*s)*q - ((y-w*r)-(z-w*s)*s)*r),
   a*w + b*(z-w*s) + c*(y-w*r-(z-w*s)*s) + d*(x-w*q-(z-w*s)*r - ((y-w*r)-(z-w*s)*s)*s)] := by
  simp [timesR, plusR, scaleR, upR, List.replicate]
  grind
theorem rows2 (p q : Int) (x y : Rat) : rowsR [p,q] [x,y] = [[x,y],[-(y*p), x - y*q]] := by
  show [_, upR _ _] = _
  rw [up2]; rfl
theorem rows3 (p q r : Int) (x y z : Rat) : rowsR [p,q,r] [x,y,z] = [[x,y,z],[-(z*p), x - z*q, y - z*r],[-((y-z*r)*p), -(z*p)-(y-z*r)*q, x-z*q-(y-z*r)*r]] := by
  show [_, upR _ _, upR _ (upR _ _)] = _
  rw [up3, up3]; rfl
theorem rows4 (p q r s : Int) (x y z w : Rat) : rowsR [p,q,r,s] [x,y,z,w] = [[x,y,z,w],
   [-(w*p), x - w*q, y - w*r, z - w*s],
   [-((z-w*s)*p), -(w*p) - (z-w*s)*q, x-w*q-(z-w*s)*r, y-w*r-(z-w*s)*s],
   [-((y-w*r-(z-w*s)*s)*p), -((z-w*s)*p) - (y-w*r-(z-w*s)*s)*q, -(w*p) - (z-w*s)*q - (y-w*r-(z-w*s)*s)*r, x-w*q-(z-w*s)*r - (y-w*r-(z-w*s)*s)*s]] := by
  show [_, upR _ _, upR _ (upR _ _), upR _ (upR _ (upR _ _))] = _
  rw [up4, up4, up4]; rfl
theorem det2 (a b c d : Rat) : detR 2 [[a,b],[c,d]] = a*d - b*c := by
  simp [detR, List.eraseIdx, List.zipIdx]; grind
theorem det3 (a b c d e f g h i : Rat) : detR 3 [[a,b,c],[d,e,f],[g,h,i]] = a*(e*i-f*h) - b*(d*i-f*g) + c*(d*h-e*g) := by
  simp [detR, List.eraseIdx, List.zipIdx]; grind
theorem det4 (a b c d e f g h i j k l m n o p : Rat) : detR 4 [[a,b,c,d],[e,f,g,h],[i,j,k,l],[m,n,o,p]] =
   a*(f*(k*p-l*o) - g*(j*p-l*n) + h*(j*o-k*n)) - b*(e*(k*p-l*o)-g*(i*p-l*m)+h*(i*o-k*m)) + c*(e*(j*p-l*n)-f*(i*p-l*m)+h*(i*n-j*m)) - d*(e*(j*o-k*n)-f*(i*o-k*m)+g*(i*n-j*m)) := by
  simp [detR, List.eraseIdx, List.zipIdx]; grind
theorem trace2 (p q : Int) (x y : Rat) : traceR [p,q] [x,y] = 2*x - y*q := by
  unfold traceR; rw [rows2]; simp [List.zipIdx]; grind
theorem trace3 (p q r : Int) (x y z : Rat) : traceR [p,q,r] [x,y,z] = 3*x - 2*(z*q) - (y-z*r)*r := by
  unfold traceR; rw [rows3]; simp [List.zipIdx]; grind
theorem trace4 (p q r s : Int) (x y z w : Rat) : traceR [p,q,r,s] [x,y,z,w] = 4*x - 3*(w*q) - 2*((z-w*s)*r) - (y-w*r-(z-w*s)*s)*s := by
  unfold traceR; rw [rows4]; simp [List.zipIdx]; grind
theorem powers2 (p q : Int) (a : L) : powersR [p,q] a = let a1 := timesR [p,q] (ofR [p,q] 1) a; [traceR [p,q] a1, traceR [p,q] (timesR [p,q] a1 a)] := rfl
theorem powers3 (p q r : Int) (a : L) : powersR [p,q,r] a = let a1 := timesR [p,q,r] (ofR [p,q,r] 1) a; [traceR [p,q,r] a1, traceR [p,q,r] (timesR [p,q,r] a1 a), traceR [p,q,r] (timesR [p,q,r] (timesR [p,q,r] a1 a) a)] := rfl
theorem powers4 (p q r s : Int) (a : L) : powersR [p,q,r,s] a = let a1 := timesR [p,q,r,s] (ofR [p,q,r,s] 1) a; [traceR [p,q,r,s] a1, traceR [p,q,r,s] (timesR [p,q,r,s] a1 a), traceR [p,q,r,s] (timesR [p,q,r,s] (timesR [p,q,r,s] a1 a) a), traceR [p,q,r,s] (timesR [p,q,r,s] (timesR [p,q,r,s] (timesR [p,q,r,s] a1 a) a) a)] := rfl
theorem one2 (p q : Int) (x y : Rat) : timesR [p,q] (ofR [p,q] 1) [x,y] = [x,y] := by
  show timesR [p,q] [1,0] [x,y] = _
  rw [times2]; simp only [List.cons.injEq, and_true]; grind
theorem one3 (p q r : Int) (x y z : Rat) : timesR [p,q,r] (ofR [p,q,r] 1) [x,y,z] = [x,y,z] := by
  show timesR [p,q,r] [1,0,0] [x,y,z] = _
  rw [times3]; simp only [List.cons.injEq, and_true]; grind
theorem one4 (p q r s : Int) (x y z w : Rat) : timesR [p,q,r,s] (ofR [p,q,r,s] 1) [x,y,z,w] = [x,y,z,w] := by
  show timesR [p,q,r,s] [1,0,0,0] [x,y,z,w] = _
  rw [times4]; simp only [List.cons.injEq, and_true]; grind
theorem charL2 (t u : Rat) (k : List Int) (a : L) (hk : k.length = 2) (hp : powersR k a = [t, u]) : charR k a = [-(u + -t*t)/2, -t, 1] := by
  unfold charR
  rw [hp, hk]
  simp [List.range, List.range.loop]
  grind
theorem charL3 (t u v : Rat) (k : List Int) (a : L) (hk : k.length = 3) (hp : powersR k a = [t, u, v]) : charR k a = [-(v + -t*u + (-(u + -t*t)/2)*t)/3, -(u + -t*t)/2, -t, 1] := by
  unfold charR
  rw [hp, hk]
  simp [List.range, List.range.loop]
  grind
theorem charL4 (t u v w : Rat) (k : List Int) (a : L) (hk : k.length = 4) (hp : powersR k a = [t, u, v, w]) : charR k a = [-(w + -t*v + (-(u + -t*t)/2)*u + (-(v + -t*u + (-(u + -t*t)/2)*t)/3)*t)/4, -(v + -t*u + (-(u + -t*t)/2)*t)/3, -(u + -t*t)/2, -t, 1] := by
  unfold charR
  rw [hp, hk]
  simp [List.range, List.range.loop]
  grind
end Rf

set_option autoImplicit false
set_option maxHeartbeats 4000000
namespace Rf
abbrev Deg (k : List Int) : Prop := 2 ≤ k.length ∧ k.length ≤ 4
theorem len2 {α : Type} {l : List α} (h : l.length = 2) : ∃ x y, l = [x, y] := by
  match l, h with
  | [x, y], _ => exact ⟨x, y, rfl⟩
theorem len3 {α : Type} {l : List α} (h : l.length = 3) : ∃ x y z, l = [x, y, z] := by
  match l, h with
  | [x, y, z], _ => exact ⟨x, y, z, rfl⟩
theorem len4 {α : Type} {l : List α} (h : l.length = 4) : ∃ x y z w, l = [x, y, z, w] := by
  match l, h with
  | [x, y, z, w], _ => exact ⟨x, y, z, w, rfl⟩
theorem Deg.cases {k : List Int} (h : Deg k) : (∃ p q, k = [p, q]) ∨ (∃ p q r, k = [p, q, r]) ∨ (∃ p q r s, k = [p, q, r, s]) := by
  obtain ⟨h1, h2⟩ := h
  have : k.length = 2 ∨ k.length = 3 ∨ k.length = 4 := by omega
  rcases this with h | h | h
  · exact .inl (len2 h)
  · exact .inr (.inl (len3 h))
  · exact .inr (.inr (len4 h))
theorem comm {k : List Int} (hk : Deg k) {a b : L} (ha : a.length = k.length) (hb : b.length = k.length) : timesR k a b = timesR k b a := by
  rcases hk.cases with ⟨p, q, rfl⟩ | ⟨p, q, r, rfl⟩ | ⟨p, q, r, s, rfl⟩
  · obtain ⟨a0, a1, rfl⟩ := len2 ha
    obtain ⟨b0, b1, rfl⟩ := len2 hb
    rw [times2, times2]; simp only [List.cons.injEq, and_true]; refine ⟨?_, ?_⟩ <;> grind
  · obtain ⟨a0, a1, a2, rfl⟩ := len3 ha
    obtain ⟨b0, b1, b2, rfl⟩ := len3 hb
    rw [times3, times3]; simp only [List.cons.injEq, and_true]; refine ⟨?_, ?_, ?_⟩ <;> grind
  · obtain ⟨a0, a1, a2, a3, rfl⟩ := len4 ha
    obtain ⟨b0, b1, b2, b3, rfl⟩ := len4 hb
    rw [times4, times4]; simp only [List.cons.injEq, and_true]; refine ⟨?_, ?_, ?_, ?_⟩ <;> grind
theorem assoc {k : List Int} (hk : Deg k) {a b c : L} (ha : a.length = k.length) (hb : b.length = k.length) (hc : c.length = k.length) : timesR k (timesR k a b) c = timesR k a (timesR k b c) := by
  rcases hk.cases with ⟨p, q, rfl⟩ | ⟨p, q, r, rfl⟩ | ⟨p, q, r, s, rfl⟩
  · obtain ⟨a0, a1, rfl⟩ := len2 ha
    obtain ⟨b0, b1, rfl⟩ := len2 hb
    obtain ⟨c0, c1, rfl⟩ := len2 hc
    rw [times2, times2, times2, times2]; simp only [List.cons.injEq, and_true]; refine ⟨?_, ?_⟩ <;> grind
  · obtain ⟨a0, a1, a2, rfl⟩ := len3 ha
    obtain ⟨b0, b1, b2, rfl⟩ := len3 hb
    obtain ⟨c0, c1, c2, rfl⟩ := len3 hc
    rw [times3, times3, times3, times3]; simp only [List.cons.injEq, and_true]; refine ⟨?_, ?_, ?_⟩ <;> grind
  · obtain ⟨a0, a1, a2, a3, rfl⟩ := len4 ha
    obtain ⟨b0, b1, b2, b3, rfl⟩ := len4 hb
    obtain ⟨c0, c1, c2, c3, rfl⟩ := len4 hc
    rw [times4, times4, times4, times4]; simp only [List.cons.injEq, and_true]; refine ⟨?_, ?_, ?_, ?_⟩ <;> grind
theorem plusR_length (a b : L) (h : a.length = b.length) : (plusR a b).length = a.length := by
  simp [plusR, h]
theorem scaleR_length (s : Rat) (a : L) : (scaleR s a).length = a.length := by simp [scaleR]
theorem upR_length {k : List Int} {a : L} (h0 : 1 ≤ k.length) (h : a.length = k.length) : (upR k a).length = k.length := by
  simp [upR, plusR, h]; omega
theorem times_length {k : List Int} (h0 : 1 ≤ k.length) : ∀ (a : L) {b : L}, b.length = k.length → (timesR k a b).length = k.length := by
  intro a b hb
  have h : ∀ (a x y : L), x.length = k.length → y.length = k.length → (a.foldl (fun (x : L × L) c => (plusR x.1 (scaleR c x.2), upR k x.2)) (x, y)).1.length = k.length := by
    intro a
    induction a with
    | nil => intro x y hx _; exact hx
    | cons c a ih =>
      intro x y hx hy
      rw [List.foldl_cons]
      exact ih _ _ (by simp only []; rw [plusR_length _ _ (by rw [scaleR_length, hx, hy]), hx]) (upR_length h0 hy)
  exact h a _ b (by simp) hb
theorem ofR_length {k : List Int} (h0 : 1 ≤ k.length) (x : Rat) : (ofR k x).length = k.length := by
  simp [ofR]; omega
theorem times_add {k : List Int} (hk : Deg k) {a b c : L} (ha : a.length = k.length) (hb : b.length = k.length) (hc : c.length = k.length) : timesR k (plusR a b) c = plusR (timesR k a c) (timesR k b c) := by
  rcases hk.cases with ⟨p, q, rfl⟩ | ⟨p, q, r, rfl⟩ | ⟨p, q, r, s, rfl⟩
  · obtain ⟨a0, a1, rfl⟩ := len2 ha
    obtain ⟨b0, b1, rfl⟩ := len2 hb
    obtain ⟨c0, c1, rfl⟩ := len2 hc
    simp only [plusR, List.zip, List.zipWith, List.map, times2, List.cons.injEq, and_true]; refine ⟨?_, ?_⟩ <;> grind
  · obtain ⟨a0, a1, a2, rfl⟩ := len3 ha
    obtain ⟨b0, b1, b2, rfl⟩ := len3 hb
    obtain ⟨c0, c1, c2, rfl⟩ := len3 hc
    simp only [plusR, List.zip, List.zipWith, List.map, times3, List.cons.injEq, and_true]; refine ⟨?_, ?_, ?_⟩ <;> grind
  · obtain ⟨a0, a1, a2, a3, rfl⟩ := len4 ha
    obtain ⟨b0, b1, b2, b3, rfl⟩ := len4 hb
    obtain ⟨c0, c1, c2, c3, rfl⟩ := len4 hc
    simp only [plusR, List.zip, List.zipWith, List.map, times4, List.cons.injEq, and_true]; refine ⟨?_, ?_, ?_, ?_⟩ <;> grind
theorem times_scale {k : List Int} (hk : Deg k) {a c : L} (s' : Rat) (ha : a.length = k.length) (hc : c.length = k.length) : timesR k (scaleR s' a) c = scaleR s' (timesR k a c) := by
  rcases hk.cases with ⟨p, q, rfl⟩ | ⟨p, q, r, rfl⟩ | ⟨p, q, r, s, rfl⟩
  · obtain ⟨a0, a1, rfl⟩ := len2 ha
    obtain ⟨c0, c1, rfl⟩ := len2 hc
    simp only [scaleR, List.map, times2, List.cons.injEq, and_true]; refine ⟨?_, ?_⟩ <;> grind
  · obtain ⟨a0, a1, a2, rfl⟩ := len3 ha
    obtain ⟨c0, c1, c2, rfl⟩ := len3 hc
    simp only [scaleR, List.map, times3, List.cons.injEq, and_true]; refine ⟨?_, ?_, ?_⟩ <;> grind
  · obtain ⟨a0, a1, a2, a3, rfl⟩ := len4 ha
    obtain ⟨c0, c1, c2, c3, rfl⟩ := len4 hc
    simp only [scaleR, List.map, times4, List.cons.injEq, and_true]; refine ⟨?_, ?_, ?_, ?_⟩ <;> grind
theorem times_of {k : List Int} (hk : Deg k) {a : L} (x : Rat) (ha : a.length = k.length) : timesR k (ofR k x) a = scaleR x a := by
  rcases hk.cases with ⟨p, q, rfl⟩ | ⟨p, q, r, rfl⟩ | ⟨p, q, r, s, rfl⟩
  · obtain ⟨a0, a1, rfl⟩ := len2 ha
    show timesR _ [x, 0] _ = _
    simp only [scaleR, List.map, times2, List.cons.injEq, and_true]; refine ⟨?_, ?_⟩ <;> grind
  · obtain ⟨a0, a1, a2, rfl⟩ := len3 ha
    show timesR _ [x, 0, 0] _ = _
    simp only [scaleR, List.map, times3, List.cons.injEq, and_true]; refine ⟨?_, ?_, ?_⟩ <;> grind
  · obtain ⟨a0, a1, a2, a3, rfl⟩ := len4 ha
    show timesR _ [x, 0, 0, 0] _ = _
    simp only [scaleR, List.map, times4, List.cons.injEq, and_true]; refine ⟨?_, ?_, ?_, ?_⟩ <;> grind
theorem trace_add {k : List Int} (hk : Deg k) {a b : L} (ha : a.length = k.length) (hb : b.length = k.length) : traceR k (plusR a b) = traceR k a + traceR k b := by
  rcases hk.cases with ⟨p, q, rfl⟩ | ⟨p, q, r, rfl⟩ | ⟨p, q, r, s, rfl⟩
  · obtain ⟨a0, a1, rfl⟩ := len2 ha
    obtain ⟨b0, b1, rfl⟩ := len2 hb
    simp only [plusR, List.zip, List.zipWith, List.map, trace2]; grind
  · obtain ⟨a0, a1, a2, rfl⟩ := len3 ha
    obtain ⟨b0, b1, b2, rfl⟩ := len3 hb
    simp only [plusR, List.zip, List.zipWith, List.map, trace3]; grind
  · obtain ⟨a0, a1, a2, a3, rfl⟩ := len4 ha
    obtain ⟨b0, b1, b2, b3, rfl⟩ := len4 hb
    simp only [plusR, List.zip, List.zipWith, List.map, trace4]; grind
theorem trace_scale {k : List Int} (hk : Deg k) {a : L} (s' : Rat) (ha : a.length = k.length) : traceR k (scaleR s' a) = s' * traceR k a := by
  rcases hk.cases with ⟨p, q, rfl⟩ | ⟨p, q, r, rfl⟩ | ⟨p, q, r, s, rfl⟩
  · obtain ⟨a0, a1, rfl⟩ := len2 ha
    simp only [scaleR, List.map, trace2]; grind
  · obtain ⟨a0, a1, a2, rfl⟩ := len3 ha
    simp only [scaleR, List.map, trace3]; grind
  · obtain ⟨a0, a1, a2, a3, rfl⟩ := len4 ha
    simp only [scaleR, List.map, trace4]; grind
theorem trace_of {k : List Int} (hk : Deg k) (x : Rat) : traceR k (ofR k x) = (k.length : Rat) * x := by
  rcases hk.cases with ⟨p, q, rfl⟩ | ⟨p, q, r, rfl⟩ | ⟨p, q, r, s, rfl⟩
  · show traceR _ [x, 0] = ((2 : Nat) : Rat) * x
    rw [trace2]; grind
  · show traceR _ [x, 0, 0] = ((3 : Nat) : Rat) * x
    rw [trace3]; grind
  · show traceR _ [x, 0, 0, 0] = ((4 : Nat) : Rat) * x
    rw [trace4]; grind
theorem norm_scale {k : List Int} (hk : Deg k) {a : L} (s' : Rat) (ha : a.length = k.length) : normR k (scaleR s' a) = s' ^ k.length * normR k a := by
  rcases hk.cases with ⟨p, q, rfl⟩ | ⟨p, q, r, rfl⟩ | ⟨p, q, r, s, rfl⟩
  · obtain ⟨a0, a1, rfl⟩ := len2 ha
    show detR 2 (rowsR _ [_, _]) = s' ^ 2 * detR 2 _
    simp only [rows2, det2]; grind
  · obtain ⟨a0, a1, a2, rfl⟩ := len3 ha
    show detR 3 (rowsR _ [_, _, _]) = s' ^ 3 * detR 3 _
    simp only [rows3, det3]; grind
  · obtain ⟨a0, a1, a2, a3, rfl⟩ := len4 ha
    show detR 4 (rowsR _ [_, _, _, _]) = s' ^ 4 * detR 4 _
    simp only [rows4, det4]; grind
end Rf

set_option autoImplicit false
set_option maxHeartbeats 4000000
namespace Rf
/-- a step of Leverrier's and Faddeev's way -/
def flStep (k : List Int) (a : L) (x : L × L) (j : Nat) : L × L :=
  ((-(traceR k (timesR k x.2 a))) / (((j : Int) + 1 : Int) : Rat) :: x.1, plusR (timesR k x.2 a) (ofR k ((-(traceR k (timesR k x.2 a))) / (((j : Int) + 1 : Int) : Rat))))
def flR (k : List Int) (a : L) (n : Nat) : L × L := (List.range n).foldl (flStep k a) ([1], ofR k 1)
theorem fl_is {k : List Int} (hk : Deg k) {a : L} (ha : a.length = k.length) : (flR k a k.length).1 = charR k a := by
  have h0 : 1 ≤ k.length := by have := hk.1; omega
  rcases hk.cases with ⟨p, q, rfl⟩ | ⟨p, q, r, rfl⟩ | ⟨p, q, r, s, rfl⟩
  · obtain ⟨x, y, rfl⟩ := len2 ha
    have e := powers2 p q [x, y]
    simp only [one2] at e
    rw [charL2 _ _ _ _ rfl e]
    show [_, _, _] = _
    simp only [flStep, one2, List.cons.injEq, and_true]
    rw [times_add hk ha (ofR_length h0 _) ha, times_of hk _ ha, trace_add hk (times_length h0 _ ha) (by rw [scaleR_length]; exact ha), trace_scale hk _ ha]
    generalize traceR [p, q] [x, y] = t
    generalize traceR [p, q] (timesR [p, q] [x, y] [x, y]) = u
    refine ⟨?_, ?_⟩
    · show (-(u + (-t / ((1 : Int) : Rat)) * t)) / ((2 : Int) : Rat) = _
      grind
    · show (-t) / ((1 : Int) : Rat) = _
      grind
  · obtain ⟨x, y, z, rfl⟩ := len3 ha
    have e := powers3 p q r [x, y, z]
    simp only [one3] at e
    rw [charL3 _ _ _ _ _ rfl e]
    show [_, _, _, _] = _
    simp only [flStep, one3, List.cons.injEq, and_true]
    have l2 := times_length h0 [x, y, z] ha
    have l3 := times_length h0 (timesR [p, q, r] [x, y, z] [x, y, z]) ha
    have hs : ∀ s' : Rat, (scaleR s' [x, y, z]).length = [p, q, r].length := fun s' => by rw [scaleR_length]; exact ha
    have hs2 : ∀ s' : Rat, (scaleR s' (timesR [p, q, r] [x, y, z] [x, y, z])).length = [p, q, r].length := fun s' => by rw [scaleR_length]; exact l2
    rw [times_add hk ha (ofR_length h0 _) ha, times_of hk _ ha, trace_add hk l2 (hs _), trace_scale hk _ ha]
    rw [times_add hk (by rw [plusR_length _ _ (by rw [l2, hs])]; exact l2) (ofR_length h0 _) ha, times_of hk _ ha, times_add hk l2 (hs _) ha, times_scale hk _ ha ha]
    rw [trace_add hk (by rw [plusR_length _ _ (by rw [l3, hs2])]; exact l3) (hs _), trace_add hk l3 (hs2 _), trace_scale hk _ ha, trace_scale hk _ l2]
    generalize traceR [p, q, r] [x, y, z] = t
    generalize traceR [p, q, r] (timesR [p, q, r] (timesR [p, q, r] [x, y, z] [x, y, z]) [x, y, z]) = v
    generalize traceR [p, q, r] (timesR [p, q, r] [x, y, z] [x, y, z]) = u
    refine ⟨?_, ?_, ?_⟩
    · show (-(v + (-t / ((1 : Int) : Rat)) * u + (-(u + (-t / ((1 : Int) : Rat)) * t)) / ((2 : Int) : Rat) * t)) / ((3 : Int) : Rat) = _
      grind
    · show (-(u + (-t / ((1 : Int) : Rat)) * t)) / ((2 : Int) : Rat) = _
      grind
    · show (-t) / ((1 : Int) : Rat) = _
      grind
  · obtain ⟨x, y, z, w', rfl⟩ := len4 ha
    have e := powers4 p q r s [x, y, z, w']
    simp only [one4] at e
    rw [charL4 _ _ _ _ _ _ rfl e]
    show [_, _, _, _, _] = _
    simp only [flStep, one4, List.cons.injEq, and_true]
    generalize hA : [x, y, z, w'] = A at *
    generalize hK : [p, q, r, s] = K at *
    generalize h2 : timesR K A A = A2
    have l2 : A2.length = K.length := by rw [← h2]; exact times_length h0 A ha
    have hs : ∀ (s' : Rat) {b : L}, b.length = K.length → (scaleR s' b).length = K.length := fun s' b hb => by rw [scaleR_length]; exact hb
    have hp : ∀ {b c : L}, b.length = K.length → c.length = K.length → (plusR b c).length = K.length := fun hb hc => by rw [plusR_length _ _ (by rw [hb, hc])]; exact hb
    have ho : ∀ x : Rat, (ofR K x).length = K.length := ofR_length h0
    rw [times_add hk ha (ho _) ha, times_of hk _ ha, h2, trace_add hk l2 (hs _ ha), trace_scale hk _ ha]
    generalize h3 : timesR K A2 A = A3
    have l3 : A3.length = K.length := by rw [← h3]; exact times_length h0 _ ha
    rw [times_add hk (hp l2 (hs _ ha)) (ho _) ha, times_of hk _ ha, times_add hk l2 (hs _ ha) ha, times_scale hk _ ha ha, h2, h3]
    rw [trace_add hk (hp l3 (hs _ l2)) (hs _ ha), trace_add hk l3 (hs _ l2), trace_scale hk _ l2, trace_scale hk _ ha]
    generalize h4 : timesR K A3 A = A4
    have l4 : A4.length = K.length := by rw [← h4]; exact times_length h0 _ ha
    rw [times_add hk (hp (hp l3 (hs _ l2)) (hs _ ha)) (ho _) ha, times_of hk _ ha, times_add hk (hp l3 (hs _ l2)) (hs _ ha) ha, times_scale hk _ ha ha, times_add hk l3 (hs _ l2) ha, times_scale hk _ l2 ha, h2, h3, h4]
    rw [trace_add hk (hp (hp l4 (hs _ l3)) (hs _ l2)) (hs _ ha), trace_add hk (hp l4 (hs _ l3)) (hs _ l2), trace_add hk l4 (hs _ l3), trace_scale hk _ l3, trace_scale hk _ l2, trace_scale hk _ ha]
    generalize traceR K A = t
    generalize traceR K A2 = u
    generalize traceR K A3 = v
    generalize traceR K A4 = w
    have q1 : (-t) / (((0 : Nat) : Int) + 1 : Int) = -t := by show (-t) / ((1 : Int) : Rat) = _; grind
    simp only [q1]
    refine ⟨?_, ?_, ?_, trivial⟩
    · show (-(w + -t * v + (-(u + -t * t)) / ((2 : Int) : Rat) * u + (-(v + -t * u + (-(u + -t * t)) / ((2 : Int) : Rat) * t)) / ((3 : Int) : Rat) * t)) / ((4 : Int) : Rat) = _
      grind
    · show (-(v + -t * u + (-(u + -t * t)) / ((2 : Int) : Rat) * t)) / ((3 : Int) : Rat) = _
      grind
    · show (-(u + -t * t)) / ((2 : Int) : Rat) = _
      grind
end Rf

set_option autoImplicit false
set_option maxHeartbeats 40000000
set_option maxRecDepth 100000
namespace Rf
section
variable {R : Type} [Add R] [Sub R] [Mul R] [Neg R]
/-- what the rows' determinant and its kin are, written out -/
def ee21 (p q x y : R) : R := x + (x - y*q)
def ee22 (p q x y : R) : R := x*(x - y*q) - y*(-(y*p))
def ee31 (p q r x y z : R) : R := x + (x - z*q) + (x-z*q-(y-z*r)*r)
def ee32 (p q r x y z : R) : R :=
  let m10 := -(z*p)
  let m11 := x - z*q
  let m12 := y - z*r
  let m20 := -(m12*p)
  let m21 := m10 - m12*q
  let m22 := m11 - m12*r
  x*m11 - y*m10 + (x*m22 - z*m20) + (m11*m22 - m12*m21)
def ee33 (p q r x y z : R) : R :=
  let m10 := -(z*p)
  let m11 := x - z*q
  let m12 := y - z*r
  let m20 := -(m12*p)
  let m21 := m10 - m12*q
  let m22 := m11 - m12*r
  x*(m11*m22 - m12*m21) - y*(m10*m22 - m12*m20) + z*(m10*m21 - m11*m20)
def ee41 (p q r s a b c d : R) : R :=
   let m11 := a - d*q
   let m12 := b - d*r
   let m13 := c - d*s
   let m22 := m11 - m13*r
   let m23 := m12 - m13*s
   let m33 := m22 - m23*s
   a + m11 + m22 + m33
def ee42 (p q r s a b c d : R) : R :=
   let m10 := -(d*p)
   let m11 := a - d*q
   let m12 := b - d*r
   let m13 := c - d*s
   let m20 := -(m13*p)
   let m21 := m10 - m13*q
   let m22 := m11 - m13*r
   let m23 := m12 - m13*s
   let m30 := -(m23*p)
   let m31 := m20 - m23*q
   let m32 := m21 - m23*r
   let m33 := m22 - m23*s
   a*m11 - b*m10 + a*m22 - c*m20 + a*m33 - d*m30 + m11*m22 - m12*m21 + m11*m33 - m13*m31 + m22*m33 - m23*m32
def ee43 (p q r s a b c d : R) : R :=
   let m10 := -(d*p)
   let m11 := a - d*q
   let m12 := b - d*r
   let m13 := c - d*s
   let m20 := -(m13*p)
   let m21 := m10 - m13*q
   let m22 := m11 - m13*r
   let m23 := m12 - m13*s
   let m30 := -(m23*p)
   let m31 := m20 - m23*q
   let m32 := m21 - m23*r
   let m33 := m22 - m23*s
   a*(m11*m22-m12*m21) - b*(m10*m22-m12*m20) + c*(m10*m21-m11*m20) + a*(m11*m33-m13*m31) - b*(m10*m33-m13*m30) + d*(m10*m31-m11*m30) 
     + a*(m22*m33-m23*m32) - c*(m20*m33-m23*m30) + d*(m20*m32-m22*m30) + m11*(m22*m33-m23*m32) - m12*(m21*m33-m23*m31) + m13*(m21*m32-m22*m31)
def ee44 (p q r s a b c d : R) : R :=
   let m10 := -(d*p)
   let m11 := a - d*q
   let m12 := b - d*r
   let m13 := c - d*s
   let m20 := -(m13*p)
   let m21 := m10 - m13*q
   let m22 := m11 - m13*r
   let m23 := m12 - m13*s
   let m30 := -(m23*p)
   let m31 := m20 - m23*q
   let m32 := m21 - m23*r
   let m33 := m22 - m23*s
   a*(m11*(m22*m33-m23*m32) - m12*(m21*m33-m23*m31) + m13*(m21*m32-m22*m31)) - b*(m10*(m22*m33-m23*m32)-m12*(m20*m33-m23*m30)+m13*(m20*m32-m22*m30)) + c*(m10*(m21*m33-m23*m31)-m11*(m20*m33-m23*m30)+m13*(m20*m31-m21*m30)) - d*(m10*(m21*m32-m22*m31)-m11*(m20*m32-m22*m30)+m12*(m20*m31-m21*m30))
end
theorem ch2 (p q : Int) (x y : Rat) : timesR [p,q] [x,y] [x,y] = plusR (scaleR (ee21 (R := Rat) p q x y) [x,y]) (ofR [p,q] (-(ee22 (R := Rat) p q x y))) := by
  rw [times2]
  show _ = [_ * _ + _, _ * _ + (0 : Rat)]
  simp only [ee21, ee22, List.cons.injEq, and_true]
  refine ⟨?_, ?_⟩ <;> grind
theorem ch3 (p q r : Int) (x y z : Rat) : timesR [p,q,r] (timesR [p,q,r] [x,y,z] [x,y,z]) [x,y,z] = plusR (plusR (scaleR (ee31 (R := Rat) p q r x y z) (timesR [p,q,r] [x,y,z] [x,y,z])) (scaleR (-(ee32 (R := Rat) p q r x y z)) [x,y,z])) (ofR [p,q,r] (ee33 (R := Rat) p q r x y z)) := by
  rw [times3, times3]
  show _ = [_ * _ + _ * _ + _, _ * _ + _ * _ + (0 : Rat), _ * _ + _ * _ + (0 : Rat)]
  simp only [ee31, ee32, ee33, List.cons.injEq, and_true]
  refine ⟨?_, ?_, ?_⟩ <;> grind
theorem ch4 (p q r s : Int) (x y z w : Rat) : timesR [p,q,r,s] (timesR [p,q,r,s] (timesR [p,q,r,s] [x,y,z,w] [x,y,z,w]) [x,y,z,w]) [x,y,z,w]
   = plusR (plusR (plusR (scaleR (ee41 (R := Rat) p q r s x y z w) (timesR [p,q,r,s] (timesR [p,q,r,s] [x,y,z,w] [x,y,z,w]) [x,y,z,w])) (scaleR (-(ee42 (R := Rat) p q r s x y z w)) (timesR [p,q,r,s] [x,y,z,w] [x,y,z,w]))) (scaleR (ee43 (R := Rat) p q r s x y z w) [x,y,z,w])) (ofR [p,q,r,s] (-(ee44 (R := Rat) p q r s x y z w))) := by
  rw [times4, times4, times4]
  show _ = [_ * _ + _ * _ + _ * _ + _, _ * _ + _ * _ + _ * _ + (0 : Rat), _ * _ + _ * _ + _ * _ + (0 : Rat), _ * _ + _ * _ + _ * _ + (0 : Rat)]
  simp only [ee41, ee42, ee43, ee44, List.cons.injEq, and_true]
  refine ⟨?_, ?_, ?_, ?_⟩ <;> grind
end Rf

set_option autoImplicit false
set_option maxHeartbeats 40000000
set_option maxRecDepth 100000
namespace Rf
theorem char2 (p q : Int) (x y : Rat) : charR [p,q] [x,y] = [ee22 (R := Rat) p q x y, -(ee21 (R := Rat) p q x y), 1] := by
  have e := powers2 p q [x, y]
  simp only [one2] at e
  rw [charL2 _ _ _ _ rfl e]
  rw [times2, trace2, trace2]
  simp only [ee21, ee22, List.cons.injEq, and_true]
  refine ⟨?_, ?_⟩ <;> grind
theorem char3 (p q r : Int) (x y z : Rat) : charR [p,q,r] [x,y,z] = [-(ee33 (R := Rat) p q r x y z), ee32 (R := Rat) p q r x y z, -(ee31 (R := Rat) p q r x y z), 1] := by
  have e := powers3 p q r [x, y, z]
  simp only [one3] at e
  rw [charL3 _ _ _ _ _ rfl e]
  have t1 : traceR [p,q,r] [x,y,z] = ee31 (R := Rat) p q r x y z := by
    rw [trace3]; simp only [ee31]; grind
  have t2 : traceR [p,q,r] (timesR [p,q,r] [x,y,z] [x,y,z]) = ee31 (R := Rat) p q r x y z * ee31 (R := Rat) p q r x y z - 2 * ee32 (R := Rat) p q r x y z := by
    rw [times3, trace3]; simp only [ee31, ee32]; grind
  have hk : Deg [p, q, r] := by constructor <;> simp
  have l1 : [x,y,z].length = [p,q,r].length := rfl
  have l2 := times_length (k := [p,q,r]) (by simp) [x,y,z] (b := [x,y,z]) rfl
  have t3 := congrArg (traceR [p,q,r]) (ch3 p q r x y z)
  rw [trace_add hk (by rw [plusR_length, scaleR_length, l2]; rw [scaleR_length, scaleR_length, l2]; rfl) (ofR_length (by simp) _), trace_add hk (by rw [scaleR_length, l2]) (by rw [scaleR_length]; rfl), trace_scale hk _ l2, trace_scale hk _ l1, trace_of hk, t1, t2] at t3
  rw [t1, t2, t3]
  have n3 : (([p,q,r].length : Nat) : Rat) = 3 := rfl
  rw [n3]
  generalize ee31 (R := Rat) p q r x y z = e1
  generalize ee32 (R := Rat) p q r x y z = e2
  generalize ee33 (R := Rat) p q r x y z = e3
  simp only [List.cons.injEq, and_true]
  refine ⟨?_, ?_⟩ <;> grind
theorem char4 (p q r s : Int) (x y z w : Rat) : charR [p,q,r,s] [x,y,z,w] = [ee44 (R := Rat) p q r s x y z w, -(ee43 (R := Rat) p q r s x y z w), ee42 (R := Rat) p q r s x y z w, -(ee41 (R := Rat) p q r s x y z w), 1] := by
  have e := powers4 p q r s [x, y, z, w]
  simp only [one4] at e
  rw [charL4 _ _ _ _ _ _ rfl e]
  have t1 : traceR [p,q,r,s] [x,y,z,w] = ee41 (R := Rat) p q r s x y z w := by
    rw [trace4]; simp only [ee41]; grind
  have t2 : traceR [p,q,r,s] (timesR [p,q,r,s] [x,y,z,w] [x,y,z,w]) = ee41 (R := Rat) p q r s x y z w * ee41 (R := Rat) p q r s x y z w - 2 * ee42 (R := Rat) p q r s x y z w := by
    rw [times4, trace4]; simp only [ee41, ee42]; grind
  have t3 : traceR [p,q,r,s] (timesR [p,q,r,s] (timesR [p,q,r,s] [x,y,z,w] [x,y,z,w]) [x,y,z,w]) = ee41 (R := Rat) p q r s x y z w * ee41 (R := Rat) p q r s x y z w * ee41 (R := Rat) p q r s x y z w - 3 * (ee41 (R := Rat) p q r s x y z w * ee42 (R := Rat) p q r s x y z w) + 3 * ee43 (R := Rat) p q r s x y z w := by
    rw [times4, times4, trace4]; simp only [ee41, ee42, ee43]; grind
  have hk : Deg [p, q, r, s] := by constructor <;> simp
  have l1 : [x,y,z,w].length = [p,q,r,s].length := rfl
  have l2 := times_length (k := [p,q,r,s]) (by simp) [x,y,z,w] (b := [x,y,z,w]) rfl
  have l3 := times_length (k := [p,q,r,s]) (by simp) (timesR [p,q,r,s] [x,y,z,w] [x,y,z,w]) (b := [x,y,z,w]) rfl
  have t4 := congrArg (traceR [p,q,r,s]) (ch4 p q r s x y z w)
  generalize hA : [x,y,z,w] = A at *
  generalize hK : [p,q,r,s] = K at *
  generalize timesR K A A = A2 at *
  generalize timesR K A2 A = A3 at *
  generalize timesR K A3 A = A4 at *
  have hs : ∀ (s' : Rat) {b : L}, b.length = K.length → (scaleR s' b).length = K.length := fun s' b hb => by rw [scaleR_length]; exact hb
  have hp : ∀ {b c : L}, b.length = K.length → c.length = K.length → (plusR b c).length = K.length := fun hb hc => by rw [plusR_length _ _ (by rw [hb, hc])]; exact hb
  have ho : ∀ x : Rat, (ofR K x).length = K.length := ofR_length (by have := hk.1; omega)
  rw [trace_add hk (hp (hp (hs _ l3) (hs _ l2)) (hs _ l1)) (ho _), trace_add hk (hp (hs _ l3) (hs _ l2)) (hs _ l1), trace_add hk (hs _ l3) (hs _ l2), trace_scale hk _ l3, trace_scale hk _ l2, trace_scale hk _ l1, trace_of hk, t1, t2, t3] at t4
  rw [t1, t2, t3, t4]
  have n4 : ((K.length : Nat) : Rat) = 4 := by rw [← hK]; rfl
  rw [n4]
  generalize ee41 (R := Rat) p q r s x y z w = e1
  generalize ee42 (R := Rat) p q r s x y z w = e2
  generalize ee43 (R := Rat) p q r s x y z w = e3
  generalize ee44 (R := Rat) p q r s x y z w = e4
  simp only [List.cons.injEq, and_true]
  refine ⟨?_, ?_, ?_⟩ <;> grind
end Rf

set_option autoImplicit false
set_option maxHeartbeats 40000000
set_option maxRecDepth 100000
namespace Rf
/-- it can't be parted, over the fractions -/
def Irr : List Int → Prop
  | [p, q] => ∀ x : Rat, x*x + q*x + p ≠ 0
  | [p, q, r] => ∀ x : Rat, x*x*x + r*(x*x) + q*x + p ≠ 0
  | [p, q, r, s] => (∀ x : Rat, x*x*x*x + s*(x*x*x) + r*(x*x) + q*x + p ≠ 0) ∧
     ∀ a b c d : Rat, ¬ ((s : Rat) = a + b ∧ (r : Rat) = c + d + a*b ∧ (q : Rat) = b*d + a*c ∧ (p : Rat) = c*d)
  | _ => False
theorem eig2 {p q : Int} (h : Irr [p, q]) {x y ρ : Rat} (h0 : -(y*p) = ρ*x) (h1 : x - y*q = ρ*y) : x = 0 ∧ y = 0 := by
  have hr := h ρ
  by_cases hy : y = 0
  · subst hy
    refine ⟨?_, rfl⟩
    grind
  · exfalso
    apply hr
    have : y * (ρ*ρ + q*ρ + p) = 0 := by grind
    grind
theorem eig3 {p q r : Int} (h : Irr [p, q, r]) {x y z ρ : Rat} (h0 : -(z*p) = ρ*x) (h1 : x - z*q = ρ*y) (h2 : y - z*r = ρ*z) : x = 0 ∧ y = 0 ∧ z = 0 := by
  have hr := h ρ
  by_cases hz : z = 0
  · subst hz
    have : y = 0 := by grind
    subst this
    refine ⟨?_, rfl, rfl⟩
    grind
  · exfalso
    apply hr
    have : z * (ρ*ρ*ρ + r*(ρ*ρ) + q*ρ + p) = 0 := by grind
    grind
theorem eig4 {p q r s : Int} (h : Irr [p, q, r, s]) {x y z w ρ : Rat} (h0 : -(w*p) = ρ*x) (h1 : x - w*q = ρ*y) (h2 : y - w*r = ρ*z) (h3 : z - w*s = ρ*w) : x = 0 ∧ y = 0 ∧ z = 0 ∧ w = 0 := by
  have hr := h.1 ρ
  by_cases hz : w = 0
  · subst hz
    have : z = 0 := by grind
    subst this
    have : y = 0 := by grind
    subst this
    refine ⟨?_, rfl, rfl, rfl⟩
    grind
  · exfalso
    apply hr
    have : w * (ρ*ρ*ρ*ρ + s*(ρ*ρ*ρ) + r*(ρ*ρ) + q*ρ + p) = 0 := by grind
    grind
theorem dom2 {p q : Int} (h : Irr [p, q]) {u0 u1 x y : Rat} (h0 : u0*x + u1*(-(y*p)) = 0) (h1 : u0*y + u1*(x - y*q) = 0) (hu : ¬ (u0 = 0 ∧ u1 = 0)) : x = 0 ∧ y = 0 := by
  by_cases e : u1 = 0
  · subst e
    have : u0 ≠ 0 := fun z => hu ⟨z, rfl⟩
    constructor <;> grind
  · exact eig2 h (ρ := -(u0/u1)) (by grind) (by grind)
/-- the eigenvector's case, degree 3: what the quadratic's rest leaves -/
theorem quad3 {p q r : Int} (h : Irr [p, q, r]) {x y z b c : Rat} 
    (h0 : -((y-z*r)*p) = -b*(-(z*p)) - c*x) (h1 : -(z*p)-(y-z*r)*q = -b*(x - z*q) - c*y) (h2 : x-z*q-(y-z*r)*r = -b*(y-z*r) - c*z) : x = 0 ∧ y = 0 ∧ z = 0 := by
  let α : Rat := q - c - b*(r-b)
  let β : Rat := p - c*(r-b)
  have g0 : α*(-(z*p)) + β*x = 0 := by grind
  have g1 : α*(x-z*q) + β*y = 0 := by grind
  have g2 : α*(y-z*r) + β*z = 0 := by grind
  by_cases e : α = 0
  · by_cases e2 : β = 0
    · exfalso
      apply h (b - r)
      grind
    · rw [e] at g0 g1 g2
      refine ⟨?_, ?_, ?_⟩ <;> grind
  · exact eig3 h (ρ := -(β/α)) (by grind) (by grind) (by grind)
theorem dom3 {p q r : Int} (h : Irr [p, q, r]) {u0 u1 u2 x y z : Rat} (h0 : u0*x + u1*(-(z*p)) + u2*(-((y-z*r)*p)) = 0) (h1 : u0*y + u1*(x - z*q) + u2*(-(z*p)-(y-z*r)*q) = 0) (h2 : u0*z + u1*(y-z*r) + u2*(x-z*q-(y-z*r)*r) = 0) (hu : ¬ (u0 = 0 ∧ u1 = 0 ∧ u2 = 0)) : x = 0 ∧ y = 0 ∧ z = 0 := by
  by_cases e2 : u2 = 0
  · subst e2
    by_cases e : u1 = 0
    · subst e
      have : u0 ≠ 0 := fun z => hu ⟨z, rfl, rfl⟩
      refine ⟨?_, ?_, ?_⟩ <;> grind
    · exact eig3 h (ρ := -(u0/u1)) (by grind) (by grind) (by grind)
  · exact quad3 h (b := u1/u2) (c := u0/u2) (by grind) (by grind) (by grind)
end Rf

set_option autoImplicit false
set_option maxHeartbeats 40000000
set_option maxRecDepth 100000
namespace Rf
theorem div_eig {α β a x : Rat} (h : α*a + β*x = 0) (e : α ≠ 0) : a = -(β/α)*x := by grind
theorem div_eig2 {α β γ a b x : Rat} (h : α*b + β*a + γ*x = 0) (e : α ≠ 0) : b = -(β/α)*a - (γ/α)*x := by grind
theorem div_eig3 {α β γ δ a b c x : Rat} (h : δ*x + γ*a + β*b + α*c = 0) (e : α ≠ 0) : c = -(β/α)*b - (γ/α)*a - (δ/α)*x := by grind
theorem cub_root {p q r s b c d : Rat} (h1 : r - c - b*(s-b) = 0) (h2 : q - d - c*(s-b) = 0) (h3 : p - d*(s-b) = 0) : (b-s)*(b-s)*(b-s)*(b-s) + s*((b-s)*(b-s)*(b-s)) + r*((b-s)*(b-s)) + q*(b-s) + p = 0 := by
  have e1 : r = c + b*(s-b) := by grind
  have e2 : q = d + c*(s-b) := by grind
  have e3 : p = d*(s-b) := by grind
  rw [e1, e2, e3]; grind
/-- one coordinate's view: z, T z, T T z, T T T z, T T T T z -/
theorem quad4 {p q r s : Int} (h : Irr [p, q, r, s]) {x y z w b c : Rat} {a0 a1 a2 a3 b0 b1 b2 b3 : Rat}
    (ha0 : a0 = -(w*p)) (ha1 : a1 = x - w*q) (ha2 : a2 = y - w*r) (ha3 : a3 = z - w*s)
    (hb0 : b0 = -(a3*p)) (hb1 : b1 = a0 - a3*q) (hb2 : b2 = a1 - a3*r) (hb3 : b3 = a2 - a3*s)
    (h0 : b0 = -b*a0 - c*x) (h1 : b1 = -b*a1 - c*y) (h2 : b2 = -b*a2 - c*z) (h3 : b3 = -b*a3 - c*w) : x = 0 ∧ y = 0 ∧ z = 0 ∧ w = 0 := by
  -- f = (x x + b x + c) (x x + (s - b) x + m) + α x + β
  let m : Rat := r - c - b*(s-b)
  let α : Rat := q - c*(s-b) - b*m
  let β : Rat := p - c*m
  have g0 : α*a0 + β*x = 0 := by grind
  have g1 : α*a1 + β*y = 0 := by grind
  have g2 : α*a2 + β*z = 0 := by grind
  have g3 : α*a3 + β*w = 0 := by grind
  by_cases e : α = 0
  · by_cases e2 : β = 0
    · exfalso
      apply h.2 (s-b) b c m
      refine ⟨?_, ?_, ?_, ?_⟩ <;> grind
    · rw [e] at g0 g1 g2 g3
      refine ⟨?_, ?_, ?_, ?_⟩ <;> grind
  · exact eig4 h (ρ := -(β/α)) (ha0 ▸ div_eig g0 e) (ha1 ▸ div_eig g1 e) (ha2 ▸ div_eig g2 e) (ha3 ▸ div_eig g3 e)
theorem cub4 {p q r s : Int} (h : Irr [p, q, r, s]) {x y z w b c d : Rat} {a0 a1 a2 a3 b0 b1 b2 b3 c0 c1 c2 c3 : Rat}
    (ha0 : a0 = -(w*p)) (ha1 : a1 = x - w*q) (ha2 : a2 = y - w*r) (ha3 : a3 = z - w*s)
    (hb0 : b0 = -(a3*p)) (hb1 : b1 = a0 - a3*q) (hb2 : b2 = a1 - a3*r) (hb3 : b3 = a2 - a3*s)
    (hc0 : c0 = -(b3*p)) (hc1 : c1 = b0 - b3*q) (hc2 : c2 = b1 - b3*r) (hc3 : c3 = b2 - b3*s)
    (h0 : c0 = -b*b0 - c*a0 - d*x) (h1 : c1 = -b*b1 - c*a1 - d*y) (h2 : c2 = -b*b2 - c*a2 - d*z) (h3 : c3 = -b*b3 - c*a3 - d*w) : x = 0 ∧ y = 0 ∧ z = 0 ∧ w = 0 := by
  -- f = (x x x + b x x + c x + d) (x + s - b) + α x x + β x + γ
  let α : Rat := r - c - b*(s-b)
  let β : Rat := q - d - c*(s-b)
  let γ : Rat := p - d*(s-b)
  have g0 : α*b0 + β*a0 + γ*x = 0 := by grind
  have g1 : α*b1 + β*a1 + γ*y = 0 := by grind
  have g2 : α*b2 + β*a2 + γ*z = 0 := by grind
  have g3 : α*b3 + β*a3 + γ*w = 0 := by grind
  by_cases e : α = 0
  · rw [e] at g0 g1 g2 g3
    by_cases e2 : β = 0
    · rw [e2] at g0 g1 g2 g3
      by_cases e3 : γ = 0
      · exfalso
        exact h.1 (b - s) (cub_root e e2 e3)
      · refine ⟨?_, ?_, ?_, ?_⟩ <;> grind
    · exact eig4 h (ρ := -(γ/β)) (ha0 ▸ div_eig (by simpa [Rat.zero_add] using g0) e2) (ha1 ▸ div_eig (by simpa [Rat.zero_add] using g1) e2) (ha2 ▸ div_eig (by simpa [Rat.zero_add] using g2) e2) (ha3 ▸ div_eig (by simpa [Rat.zero_add] using g3) e2)
  · exact quad4 h (b := β/α) (c := γ/α) ha0 ha1 ha2 ha3 hb0 hb1 hb2 hb3 (div_eig2 g0 e) (div_eig2 g1 e) (div_eig2 g2 e) (div_eig2 g3 e)
theorem dom4 {p q r s : Int} (h : Irr [p, q, r, s]) {u0 u1 u2 u3 x y z w : Rat} {a0 a1 a2 a3 b0 b1 b2 b3 c0 c1 c2 c3 : Rat}
    (ha0 : a0 = -(w*p)) (ha1 : a1 = x - w*q) (ha2 : a2 = y - w*r) (ha3 : a3 = z - w*s)
    (hb0 : b0 = -(a3*p)) (hb1 : b1 = a0 - a3*q) (hb2 : b2 = a1 - a3*r) (hb3 : b3 = a2 - a3*s)
    (hc0 : c0 = -(b3*p)) (hc1 : c1 = b0 - b3*q) (hc2 : c2 = b1 - b3*r) (hc3 : c3 = b2 - b3*s)
    (h0 : u0*x + u1*a0 + u2*b0 + u3*c0 = 0) (h1 : u0*y + u1*a1 + u2*b1 + u3*c1 = 0) (h2 : u0*z + u1*a2 + u2*b2 + u3*c2 = 0) (h3 : u0*w + u1*a3 + u2*b3 + u3*c3 = 0) 
    (hu : ¬ (u0 = 0 ∧ u1 = 0 ∧ u2 = 0 ∧ u3 = 0)) : x = 0 ∧ y = 0 ∧ z = 0 ∧ w = 0 := by
  by_cases e3 : u3 = 0
  · subst e3
    by_cases e2 : u2 = 0
    · subst e2
      by_cases e : u1 = 0
      · subst e
        have : u0 ≠ 0 := fun z => hu ⟨z, rfl, rfl, rfl⟩
        refine ⟨?_, ?_, ?_, ?_⟩ <;> grind
      · exact eig4 h (ρ := -(u0/u1)) (by grind) (by grind) (by grind) (by grind)
    · exact quad4 h (b := u1/u2) (c := u0/u2) ha0 ha1 ha2 ha3 hb0 hb1 hb2 hb3 (by grind) (by grind) (by grind) (by grind)
  · exact cub4 h (b := u2/u3) (c := u1/u3) (d := u0/u3) ha0 ha1 ha2 ha3 hb0 hb1 hb2 hb3 hc0 hc1 hc2 hc3 (div_eig3 h0 e3) (div_eig3 h1 e3) (div_eig3 h2 e3) (div_eig3 h3 e3)
/-- **a field has no parts of nothing** -/
theorem domain {k : List Int} (hk : Deg k) (hi : Irr k) {a b : L} (ha : a.length = k.length) (hb : b.length = k.length) (h : timesR k a b = List.replicate k.length 0) : a = List.replicate k.length 0 ∨ b = List.replicate k.length 0 := by
  rcases hk.cases with ⟨p, q, rfl⟩ | ⟨p, q, r, rfl⟩ | ⟨p, q, r, s, rfl⟩
  · obtain ⟨u0, u1, rfl⟩ := len2 ha
    obtain ⟨x, y, rfl⟩ := len2 hb
    rw [times2] at h
    have h' : [u0*x - u1*y*p, u0*y + u1*(x-y*q)] = [(0 : Rat), 0] := h
    simp only [List.cons.injEq, and_true] at h'
    by_cases hu : u0 = 0 ∧ u1 = 0
    · left
      show [u0, u1] = [0, 0]
      rw [hu.1, hu.2]
    · right
      have := dom2 hi (u0 := u0) (u1 := u1) (x := x) (y := y) (by grind) (by grind) hu
      show [x, y] = [0, 0]
      rw [this.1, this.2]
  · obtain ⟨u0, u1, u2, rfl⟩ := len3 ha
    obtain ⟨x, y, z, rfl⟩ := len3 hb
    rw [times3] at h
    have h' := show _ = [(0 : Rat), 0, 0] from h
    simp only [List.cons.injEq, and_true] at h'
    by_cases hu : u0 = 0 ∧ u1 = 0 ∧ u2 = 0
    · left
      show [u0, u1, u2] = [0, 0, 0]
      rw [hu.1, hu.2.1, hu.2.2]
    · right
      have := dom3 hi (u0 := u0) (u1 := u1) (u2 := u2) (x := x) (y := y) (z := z) (by grind) (by grind) (by grind) hu
      show [x, y, z] = [0, 0, 0]
      rw [this.1, this.2.1, this.2.2]
  · obtain ⟨u0, u1, u2, u3, rfl⟩ := len4 ha
    obtain ⟨x, y, z, w, rfl⟩ := len4 hb
    rw [times4] at h
    have h' := show _ = [(0 : Rat), 0, 0, 0] from h
    simp only [List.cons.injEq, and_true] at h'
    by_cases hu : u0 = 0 ∧ u1 = 0 ∧ u2 = 0 ∧ u3 = 0
    · left
      show [u0, u1, u2, u3] = [0, 0, 0, 0]
      rw [hu.1, hu.2.1, hu.2.2.1, hu.2.2.2]
    · right
      have := dom4 hi (u0 := u0) (u1 := u1) (u2 := u2) (u3 := u3) (x := x) (y := y) (z := z) (w := w) rfl rfl rfl rfl rfl rfl rfl rfl rfl rfl rfl rfl (by grind) (by grind) (by grind) (by grind) hu
      show [x, y, z, w] = [0, 0, 0, 0]
      rw [this.1, this.2.1, this.2.2.1, this.2.2.2]
end Rf

set_option autoImplicit false
set_option maxHeartbeats 40000000
set_option maxRecDepth 100000
namespace Rf
abbrev zerosR (k : List Int) : L := List.replicate k.length 0
theorem zeros_length (k : List Int) : (zerosR k).length = k.length := by simp
/-- coordinates -/
theorem ext2 {a b c d : Rat} (h1 : a = c) (h2 : b = d) : [a, b] = [c, d] := by rw [h1, h2]
theorem ext3 {a b c a' b' c' : Rat} (h1 : a = a') (h2 : b = b') (h3 : c = c') : [a, b, c] = [a', b', c'] := by rw [h1, h2, h3]
theorem ext4 {a b c d a' b' c' d' : Rat} (h1 : a = a') (h2 : b = b') (h3 : c = c') (h4 : d = d') : [a, b, c, d] = [a', b', c', d'] := by rw [h1, h2, h3, h4]
theorem times_zero {k : List Int} (hk : Deg k) {a : L} (ha : a.length = k.length) : timesR k (zerosR k) a = zerosR k := by
  have e := times_scale hk (c := a) 0 (a := zerosR k) (by simp) ha
  have e2 : scaleR 0 (zerosR k) = zerosR k := by simp [scaleR]
  rw [e2] at e
  rw [e]
  have : ∀ l : L, l.length = k.length → scaleR 0 l = zerosR k := by
    intro l hl
    unfold zerosR
    rw [← hl]
    unfold scaleR
    apply List.ext_getElem
    · simp
    · intro i h1 h2
      simp [Rat.zero_mul]
  exact this _ (times_length (by have := hk.1; omega) _ ha)
theorem plus_zero_left {k : List Int} {a : L} (ha : a.length = k.length) : plusR (zerosR k) a = a := by
  unfold plusR
  apply List.ext_getElem
  · simp [ha]
  · intro i h1 h2
    simp [Rat.zero_add]
theorem norm2 (p q : Int) (x y : Rat) : normR [p,q] [x,y] = ee22 (R := Rat) p q x y := by
  show detR 2 _ = _
  rw [rows2, det2]
  simp only [ee22]
theorem norm3 (p q r : Int) (x y z : Rat) : normR [p,q,r] [x,y,z] = ee33 (R := Rat) p q r x y z := by
  show detR 3 _ = _
  rw [rows3, det3]
  simp only [ee33]
theorem norm4 (p q r s : Int) (x y z w : Rat) : normR [p,q,r,s] [x,y,z,w] = ee44 (R := Rat) p q r s x y z w := by
  show detR 4 _ = _
  rw [rows4, det4]
  simp only [ee44]
theorem head_ne {k : List Int} (hk : Deg k) {a : L} (ha : a.length = k.length) (h : normR k a ≠ 0) : (charR k a).headD 1 ≠ 0 := by
  rcases hk.cases with ⟨p, q, rfl⟩ | ⟨p, q, r, rfl⟩ | ⟨p, q, r, s, rfl⟩
  · obtain ⟨x, y, rfl⟩ := len2 ha
    rw [char2]
    rw [norm2] at h
    exact h
  · obtain ⟨x, y, z, rfl⟩ := len3 ha
    rw [char3]
    rw [norm3] at h
    show - _ ≠ (0 : Rat)
    grind
  · obtain ⟨x, y, z, w, rfl⟩ := len4 ha
    rw [char4]
    rw [norm4] at h
    exact h
theorem inverse2 {k : List Int} {a : L} {c0 c1 : Rat} (h : charR k a = [c0, c1, 1]) : inverseR k a = scaleR (-(1 / c0)) (plusR (timesR k (plusR (timesR k (zerosR k) a) (ofR k 1)) a) (ofR k c1)) := by
  unfold inverseR
  rw [h]
  rfl
theorem inverse3 {k : List Int} {a : L} {c0 c1 c2 : Rat} (h : charR k a = [c0, c1, c2, 1]) : inverseR k a = scaleR (-(1 / c0)) (plusR (timesR k (plusR (timesR k (plusR (timesR k (zerosR k) a) (ofR k 1)) a) (ofR k c2)) a) (ofR k c1)) := by
  unfold inverseR
  rw [h]
  rfl
theorem inverse4 {k : List Int} {a : L} {c0 c1 c2 c3 : Rat} (h : charR k a = [c0, c1, c2, c3, 1]) : inverseR k a = scaleR (-(1 / c0)) (plusR (timesR k (plusR (timesR k (plusR (timesR k (plusR (timesR k (zerosR k) a) (ofR k 1)) a) (ofR k c3)) a) (ofR k c2)) a) (ofR k c1)) := by
  unfold inverseR
  rw [h]
  rfl
end Rf

set_option autoImplicit false
set_option maxHeartbeats 4000000
set_option maxRecDepth 100000
namespace Rf
theorem coord2 {e1 e2 x y : Rat} (h : e2 ≠ 0) : [-(1/e2) * ((e1*x + -e2) + -e1*x), -(1/e2) * ((e1*y + 0) + -e1*y)] = [(1 : Rat), 0] := by
  apply ext2 <;> grind
theorem coord3 {e1 e2 e3 x y z u v w : Rat} (h : e3 ≠ 0) : [-(1/(-e3)) * (((e1*u + -e2*x + e3) + -e1*u) + e2*x), -(1/(-e3)) * (((e1*v + -e2*y + 0) + -e1*v) + e2*y), -(1/(-e3)) * (((e1*w + -e2*z + 0) + -e1*w) + e2*z)] = [(1 : Rat), 0, 0] := by
  apply ext3 <;> grind
theorem coord4 {e1 e2 e3 e4 x y z w u0 u1 u2 u3 v0 v1 v2 v3 : Rat} (h : e4 ≠ 0) : [-(1/e4) * ((((e1*u0 + -e2*v0 + e3*x + -e4) + -e1*u0) + e2*v0) + -e3*x), -(1/e4) * ((((e1*u1 + -e2*v1 + e3*y + 0) + -e1*u1) + e2*v1) + -e3*y), -(1/e4) * ((((e1*u2 + -e2*v2 + e3*z + 0) + -e1*u2) + e2*v2) + -e3*z), -(1/e4) * ((((e1*u3 + -e2*v3 + e3*w + 0) + -e1*u3) + e2*v3) + -e3*w)] = [(1 : Rat), 0, 0, 0] := by
  apply ext4 <;> grind
theorem inv_times2 (p q : Int) (x y : Rat) (h : normR [p,q] [x,y] ≠ 0) : timesR [p,q] (inverseR [p,q] [x,y]) [x,y] = ofR [p,q] 1 := by
  have hk : Deg [p, q] := by constructor <;> simp
  have ha : [x, y].length = [p, q].length := rfl
  have h0 : 1 ≤ [p, q].length := by simp
  have ho : ∀ x : Rat, (ofR [p,q] x).length = [p,q].length := ofR_length h0
  rw [inverse2 (char2 p q x y), times_zero hk ha, plus_zero_left (ho 1), one2]
  rw [norm2] at h
  have lA := times_length h0 [x,y] ha
  rw [times_scale hk _ (by rw [plusR_length _ _ (by rw [ho]; rfl)]; rfl) ha, times_add hk ha (ho _) ha, times_of hk _ ha, ch2]
  generalize ee22 (R := Rat) p q x y = e2 at *
  generalize ee21 (R := Rat) p q x y = e1 at *
  exact coord2 h
theorem inv_times3 (p q r : Int) (x y z : Rat) (h : normR [p,q,r] [x,y,z] ≠ 0) : timesR [p,q,r] (inverseR [p,q,r] [x,y,z]) [x,y,z] = ofR [p,q,r] 1 := by
  have hk : Deg [p, q, r] := by constructor <;> simp
  have ha : [x, y, z].length = [p, q, r].length := rfl
  have h0 : 1 ≤ [p, q, r].length := by simp
  have ho : ∀ x : Rat, (ofR [p,q,r] x).length = [p,q,r].length := ofR_length h0
  have hs : ∀ (s' : Rat) {b : L}, b.length = [p,q,r].length → (scaleR s' b).length = [p,q,r].length := fun s' b hb => by rw [scaleR_length]; exact hb
  have hp : ∀ {b c : L}, b.length = [p,q,r].length → c.length = [p,q,r].length → (plusR b c).length = [p,q,r].length := fun hb hc => by rw [plusR_length _ _ (by rw [hb, hc])]; exact hb
  rw [inverse3 (char3 p q r x y z), times_zero hk ha, plus_zero_left (ho 1), one3]
  rw [norm3] at h
  have lA2 := times_length h0 [x,y,z] ha
  rw [times_add hk ha (ho _) ha, times_of hk _ ha, times_scale hk _ (hp (hp lA2 (hs _ ha)) (ho _)) ha, times_add hk (hp lA2 (hs _ ha)) (ho _) ha, times_add hk lA2 (hs _ ha) ha, times_of hk _ ha, times_scale hk _ ha ha, ch3]
  obtain ⟨u, v, w, hu⟩ := len3 lA2
  rw [hu]
  generalize ee33 (R := Rat) p q r x y z = e3 at *
  generalize ee32 (R := Rat) p q r x y z = e2 at *
  generalize ee31 (R := Rat) p q r x y z = e1 at *
  exact coord3 h
theorem inv_times4 (p q r s : Int) (x y z w : Rat) (h : normR [p,q,r,s] [x,y,z,w] ≠ 0) : timesR [p,q,r,s] (inverseR [p,q,r,s] [x,y,z,w]) [x,y,z,w] = ofR [p,q,r,s] 1 := by
  have hk : Deg [p, q, r, s] := by constructor <;> simp
  have ha : [x, y, z, w].length = [p, q, r, s].length := rfl
  have h0 : 1 ≤ [p, q, r, s].length := by simp
  have ho : ∀ x : Rat, (ofR [p,q,r,s] x).length = [p,q,r,s].length := ofR_length h0
  have hs : ∀ (s' : Rat) {b : L}, b.length = [p,q,r,s].length → (scaleR s' b).length = [p,q,r,s].length := fun s' b hb => by rw [scaleR_length]; exact hb
  have hp : ∀ {b c : L}, b.length = [p,q,r,s].length → c.length = [p,q,r,s].length → (plusR b c).length = [p,q,r,s].length := fun hb hc => by rw [plusR_length _ _ (by rw [hb, hc])]; exact hb
  rw [inverse4 (char4 p q r s x y z w), times_zero hk ha, plus_zero_left (ho 1), one4]
  rw [norm4] at h
  have lA2 := times_length h0 [x,y,z,w] ha
  have lA3 := times_length h0 (timesR [p,q,r,s] [x,y,z,w] [x,y,z,w]) ha
  rw [times_add hk ha (ho _) ha, times_of hk _ ha, times_add hk (hp lA2 (hs _ ha)) (ho _) ha, times_add hk lA2 (hs _ ha) ha, times_of hk _ ha, times_scale hk _ ha ha]
  rw [times_scale hk _ (hp (hp (hp lA3 (hs _ lA2)) (hs _ ha)) (ho _)) ha, times_add hk (hp (hp lA3 (hs _ lA2)) (hs _ ha)) (ho _) ha, times_add hk (hp lA3 (hs _ lA2)) (hs _ ha) ha, times_add hk lA3 (hs _ lA2) ha, times_of hk _ ha, times_scale hk _ ha ha, times_scale hk _ lA2 ha, ch4]
  obtain ⟨u0, u1, u2, u3, hu⟩ := len4 lA3
  obtain ⟨v0, v1, v2, v3, hv⟩ := len4 lA2
  rw [hu, hv]
  generalize ee44 (R := Rat) p q r s x y z w = e4 at *
  generalize ee43 (R := Rat) p q r s x y z w = e3 at *
  generalize ee42 (R := Rat) p q r s x y z w = e2 at *
  generalize ee41 (R := Rat) p q r s x y z w = e1 at *
  exact coord4 h
theorem inv_times {k : List Int} (hk : Deg k) {a : L} (ha : a.length = k.length) (h : normR k a ≠ 0) : timesR k (inverseR k a) a = ofR k 1 := by
  rcases hk.cases with ⟨p, q, rfl⟩ | ⟨p, q, r, rfl⟩ | ⟨p, q, r, s, rfl⟩
  · obtain ⟨x, y, rfl⟩ := len2 ha
    exact inv_times2 p q x y h
  · obtain ⟨x, y, z, rfl⟩ := len3 ha
    exact inv_times3 p q r x y z h
  · obtain ⟨x, y, z, w, rfl⟩ := len4 ha
    exact inv_times4 p q r s x y z w h
end Rf

set_option autoImplicit false
set_option maxHeartbeats 4000000
set_option maxRecDepth 100000
namespace Rf
/-- what Faddeev's way has left behind j steps; its next coefficient -/
def flc (k : List Int) (a : L) : Nat → L
  | 0 => ofR k 1
  | j + 1 => plusR (timesR k (flc k a j) a) (ofR k ((-(traceR k (timesR k (flc k a j) a))) / (((j : Int) + 1 : Int) : Rat)))
def flco (k : List Int) (a : L) (j : Nat) : Rat := (-(traceR k (timesR k (flc k a j) a))) / (((j : Int) + 1 : Int) : Rat)
def flcs (k : List Int) (a : L) : Nat → L
  | 0 => [1]
  | j + 1 => flco k a j :: flcs k a j
theorem flR_is (k : List Int) (a : L) (n : Nat) : flR k a n = (flcs k a n, flc k a n) := by
  induction n with
  | zero => rfl
  | succ n ih =>
    have e : flR k a (n + 1) = flStep k a (flR k a n) n := by
      unfold flR
      rw [List.range_succ, List.foldl_append]
      rfl
    rw [e, ih]
    rfl
theorem char_flcs {k : List Int} (hk : Deg k) {a : L} (ha : a.length = k.length) : charR k a = flcs k a k.length := by
  rw [← fl_is hk ha, flR_is]
theorem flc_length {k : List Int} (hk : Deg k) {a : L} (ha : a.length = k.length) (j : Nat) : (flc k a j).length = k.length := by
  have h0 : 1 ≤ k.length := by have := hk.1; omega
  cases j with
  | zero => exact ofR_length h0 1
  | succ j =>
    show (plusR _ _).length = _
    rw [plusR_length _ _ (by rw [times_length h0 _ ha, ofR_length h0])]
    exact times_length h0 _ ha
theorem flc_succ (k : List Int) (a : L) (j : Nat) : flc k a (j + 1) = plusR (timesR k (flc k a j) a) (ofR k (flco k a j)) := rfl
theorem zero3 {e1 e2 e3 x y z u v w : Rat} : [((e1*u + -e2*x + e3) + -e1*u) + e2*x + -e3, ((e1*v + -e2*y + 0) + -e1*v) + e2*y + 0, ((e1*w + -e2*z + 0) + -e1*w) + e2*z + 0] = [(0 : Rat), 0, 0] := by
  apply ext3 <;> grind
theorem zero4 {e1 e2 e3 e4 x y z w u0 u1 u2 u3 v0 v1 v2 v3 : Rat} : [(((e1*u0 + -e2*v0 + e3*x + -e4) + -e1*u0) + e2*v0) + -e3*x + e4, (((e1*u1 + -e2*v1 + e3*y + 0) + -e1*u1) + e2*v1) + -e3*y + 0, (((e1*u2 + -e2*v2 + e3*z + 0) + -e1*u2) + e2*v2) + -e3*z + 0, (((e1*u3 + -e2*v3 + e3*w + 0) + -e1*u3) + e2*v3) + -e3*w + 0] = [(0 : Rat), 0, 0, 0] := by
  apply ext4 <;> grind
/-- **Cayley's and Hamilton's theorem** -/
theorem cayley {k : List Int} (hk : Deg k) {a : L} (ha : a.length = k.length) : flc k a k.length = zerosR k := by
  have hc := char_flcs hk ha
  have h0 : 1 ≤ k.length := by have := hk.1; omega
  have ho : ∀ x : Rat, (ofR k x).length = k.length := ofR_length h0
  have hs : ∀ (s' : Rat) {b : L}, b.length = k.length → (scaleR s' b).length = k.length := fun s' b hb => by rw [scaleR_length]; exact hb
  have hp : ∀ {b c : L}, b.length = k.length → c.length = k.length → (plusR b c).length = k.length := fun hb hc => by rw [plusR_length _ _ (by rw [hb, hc])]; exact hb
  rcases hk.cases with ⟨p, q, rfl⟩ | ⟨p, q, r, rfl⟩ | ⟨p, q, r, s, rfl⟩
  · obtain ⟨x, y, rfl⟩ := len2 ha
    rw [char2] at hc
    have hc' : _ = [flco [p,q] [x,y] 1, flco [p,q] [x,y] 0, 1] := hc
    simp only [List.cons.injEq, and_true] at hc'
    show flc _ _ 2 = _
    rw [flc_succ, flc_succ, ← hc'.1, ← hc'.2]
    show plusR (timesR _ (plusR (timesR _ (ofR _ 1) _) _) _) _ = _
    rw [one2, times_add hk ha (ho _) ha, times_of hk _ ha, ch2]
    generalize ee22 (R := Rat) p q x y = e2
    generalize ee21 (R := Rat) p q x y = e1
    show [e1*x + -e2 + -e1*x + e2, e1*y + 0 + -e1*y + 0] = [(0 : Rat), 0]
    apply ext2 <;> grind
  · obtain ⟨x, y, z, rfl⟩ := len3 ha
    rw [char3] at hc
    have hc' : _ = [flco [p,q,r] [x,y,z] 2, flco [p,q,r] [x,y,z] 1, flco [p,q,r] [x,y,z] 0, 1] := hc
    simp only [List.cons.injEq, and_true] at hc'
    show flc _ _ 3 = _
    rw [flc_succ, flc_succ, flc_succ, ← hc'.1, ← hc'.2.1, ← hc'.2.2]
    show plusR (timesR _ (plusR (timesR _ (plusR (timesR _ (ofR _ 1) _) _) _) _) _) _ = _
    have lA2 := times_length h0 [x,y,z] ha
    rw [one3, times_add hk ha (ho _) ha, times_of hk _ ha, times_add hk (hp lA2 (hs _ ha)) (ho _) ha, times_add hk lA2 (hs _ ha) ha, times_of hk _ ha, times_scale hk _ ha ha, ch3]
    obtain ⟨u, v, w, hu⟩ := len3 lA2
    rw [hu]
    generalize ee33 (R := Rat) p q r x y z = e3
    generalize ee32 (R := Rat) p q r x y z = e2
    generalize ee31 (R := Rat) p q r x y z = e1
    exact zero3
  · obtain ⟨x, y, z, w, rfl⟩ := len4 ha
    rw [char4] at hc
    have hc' : _ = [flco [p,q,r,s] [x,y,z,w] 3, flco [p,q,r,s] [x,y,z,w] 2, flco [p,q,r,s] [x,y,z,w] 1, flco [p,q,r,s] [x,y,z,w] 0, 1] := hc
    simp only [List.cons.injEq, and_true] at hc'
    show flc _ _ 4 = _
    rw [flc_succ, flc_succ, flc_succ, flc_succ, ← hc'.1, ← hc'.2.1, ← hc'.2.2.1, ← hc'.2.2.2]
    show plusR (timesR _ (plusR (timesR _ (plusR (timesR _ (plusR (timesR _ (ofR _ 1) _) _) _) _) _) _) _) _ = _
    have lA2 := times_length h0 [x,y,z,w] ha
    have lA3 := times_length h0 (timesR [p,q,r,s] [x,y,z,w] [x,y,z,w]) ha
    rw [one4, times_add hk ha (ho _) ha, times_of hk _ ha, times_add hk (hp lA2 (hs _ ha)) (ho _) ha, times_add hk lA2 (hs _ ha) ha, times_of hk _ ha, times_scale hk _ ha ha]
    rw [times_add hk (hp (hp lA3 (hs _ lA2)) (hs _ ha)) (ho _) ha, times_add hk (hp lA3 (hs _ lA2)) (hs _ ha) ha, times_add hk lA3 (hs _ lA2) ha, times_of hk _ ha, times_scale hk _ ha ha, times_scale hk _ lA2 ha, ch4]
    obtain ⟨u0, u1, u2, u3, hu⟩ := len4 lA3
    obtain ⟨v0, v1, v2, v3, hv⟩ := len4 lA2
    rw [hu, hv]
    generalize ee44 (R := Rat) p q r s x y z w = e4
    generalize ee43 (R := Rat) p q r s x y z w = e3
    generalize ee42 (R := Rat) p q r s x y z w = e2
    generalize ee41 (R := Rat) p q r s x y z w = e1
    exact zero4
theorem trace_zeros {k : List Int} (hk : Deg k) : traceR k (zerosR k) = 0 := by
  have h := trace_scale hk 0 (zeros_length k)
  have e2 : scaleR 0 (zerosR k) = zerosR k := by simp [scaleR]
  rw [e2] at h
  rw [h]
  exact Rat.zero_mul _
theorem trace_flc {k : List Int} (hk : Deg k) {a : L} (ha : a.length = k.length) (j : Nat) : traceR k (flc k a (j + 1)) = ((k.length : Rat) - ((j : Rat) + 1)) * flco k a j := by
  have h0 : 1 ≤ k.length := by have := hk.1; omega
  rw [flc_succ, trace_add hk (times_length h0 _ ha) (ofR_length h0 _), trace_of hk]
  have e : flco k a j * ((j : Rat) + 1) = -(traceR k (timesR k (flc k a j) a)) := by
    unfold flco
    have : (((j : Int) + 1 : Int) : Rat) = (j : Rat) + 1 := by push_cast; rfl
    rw [this]
    have h2 : (j : Rat) + 1 ≠ 0 := by
      have : ((j : Rat)) + 1 = ((j + 1 : Nat) : Rat) := by push_cast; rfl
      rw [this]
      intro h
      have : (j + 1 : Nat) = 0 := by exact_mod_cast h
      omega
    grind
  grind
theorem plus_of_zero {k : List Int} (hk : Deg k) {b : L} (hb : b.length = k.length) : plusR b (ofR k 0) = b := by
  rcases hk.cases with ⟨p, q, rfl⟩ | ⟨p, q, r, rfl⟩ | ⟨p, q, r, s, rfl⟩
  · obtain ⟨x, y, rfl⟩ := len2 hb
    show [x + 0, y + 0] = _
    apply ext2 <;> exact Rat.add_zero _
  · obtain ⟨x, y, z, rfl⟩ := len3 hb
    show [x + 0, y + 0, z + 0] = _
    apply ext3 <;> exact Rat.add_zero _
  · obtain ⟨x, y, z, w, rfl⟩ := len4 hb
    show [x + 0, y + 0, z + 0, w + 0] = _
    apply ext4 <;> exact Rat.add_zero _
/-- **a number that isn't nothing has a last coefficient** -/
theorem last_ne {k : List Int} (hk : Deg k) (hi : Irr k) {a : L} (ha : a.length = k.length) (hz : a ≠ zerosR k) : flco k a (k.length - 1) ≠ 0 := by
  intro hc
  have h0 : 1 ≤ k.length := by have := hk.1; omega
  have step : ∀ j, flco k a j = 0 → flc k a (j + 1) = zerosR k → flc k a j = zerosR k := by
    intro j hj hl
    rw [flc_succ, hj, plus_of_zero hk (times_length h0 _ ha)] at hl
    rcases domain hk hi (flc_length hk ha j) ha hl with h | h
    · exact h
    · exact absurd h hz
  have down : ∀ m, ∀ j, j + m = k.length - 1 → flc k a j = zerosR k := by
    intro m
    induction m with
    | zero =>
      intro j hj
      have ej : j = k.length - 1 := by omega
      subst ej
      apply step _ hc
      have : k.length - 1 + 1 = k.length := by omega
      rw [this]
      exact cayley hk ha
    | succ m ih =>
      intro j hj
      have h1 := ih (j + 1) (by omega)
      apply step j _ h1
      have t := trace_flc hk ha j
      rw [h1, trace_zeros hk] at t
      have hne : ((k.length : Rat) - ((j : Rat) + 1)) ≠ 0 := by
        intro h
        have h2 : ((k.length : Nat) : Rat) = ((j + 1 : Nat) : Rat) := by push_cast; grind
        have : k.length = j + 1 := by exact_mod_cast h2
        omega
      grind
  have h1 := down (k.length - 1) 0 (by omega)
  have h2 : ofR k 1 = zerosR k := h1
  rcases hk.cases with ⟨p, q, rfl⟩ | ⟨p, q, r, rfl⟩ | ⟨p, q, r, s, rfl⟩
  · have : [(1 : Rat), 0] = [0, 0] := h2
    simp at this
  · have : [(1 : Rat), 0, 0] = [0, 0, 0] := h2
    simp at this
  · have : [(1 : Rat), 0, 0, 0] = [0, 0, 0, 0] := h2
    simp at this
theorem norm_ne {k : List Int} (hk : Deg k) (hi : Irr k) {a : L} (ha : a.length = k.length) (hz : a ≠ zerosR k) : normR k a ≠ 0 := by
  have h := last_ne hk hi ha hz
  have hc := char_flcs hk ha
  rcases hk.cases with ⟨p, q, rfl⟩ | ⟨p, q, r, rfl⟩ | ⟨p, q, r, s, rfl⟩
  · obtain ⟨x, y, rfl⟩ := len2 ha
    rw [char2] at hc
    have e := (List.cons.inj (show _ = flco [p,q] [x,y] 1 :: _ from hc)).1
    rw [norm2, e]
    exact h
  · obtain ⟨x, y, z, rfl⟩ := len3 ha
    rw [char3] at hc
    have e := (List.cons.inj (show _ = flco [p,q,r] [x,y,z] 2 :: _ from hc)).1
    rw [norm3]
    replace h : flco [p,q,r] [x,y,z] 2 ≠ 0 := h
    grind
  · obtain ⟨x, y, z, w, rfl⟩ := len4 ha
    rw [char4] at hc
    have e := (List.cons.inj (show _ = flco [p,q,r,s] [x,y,z,w] 3 :: _ from hc)).1
    rw [norm4, e]
    exact h
end Rf

set_option autoImplicit false
set_option maxHeartbeats 4000000
set_option maxRecDepth 100000
namespace Rf
/-! Whole numbers: the program's own reckoning, and what it is as rationals. -/
abbrev castL (l : List Int) : L := l.map fun (z : Int) => (z : Rat)
def upI (k a : List Int) : List Int := ((0 :: a.dropLast).zip k).map fun x => x.1 - a.getLastD 0 * x.2
def plusI (a b : List Int) : List Int := (a.zip b).map fun x => x.1 + x.2
def scaleI (c : Int) (a : List Int) : List Int := a.map (c * ·)
def timesI (k a b : List Int) : List Int := (a.foldl (fun (x : List Int × List Int) c => (plusI x.1 (scaleI c x.2), upI k x.2)) (List.replicate k.length 0, b)).1
def rowsI (k a : List Int) : List (List Int) := (List.range k.length).map fun i => (List.range i).foldl (fun b _ => upI k b) a
def detI : Nat → List (List Int) → Int
  | 0, _ => 1
  | n + 1, m => match m with
    | [] => 1
    | r :: s => (r.zipIdx.map fun x => (if x.2 % 2 = 0 then x.1 else -x.1) * (detI n (s.map fun q => q.eraseIdx x.2))).foldl (· + ·) 0
def traceI (k a : List Int) : Int := ((rowsI k a).zipIdx.map fun x => x.1.getD x.2 0).foldl (· + ·) 0
theorem plus_cast (a b : List Int) : plusR (castL a) (castL b) = castL (plusI a b) := by
  unfold plusR plusI castL
  rw [List.zip_map, List.map_map, List.map_map]
  apply List.map_congr_left
  intro x _
  show (x.1 : Rat) + (x.2 : Rat) = ((x.1 + x.2 : Int) : Rat)
  push_cast; rfl
theorem scale_cast (c : Int) (a : List Int) : scaleR (c : Rat) (castL a) = castL (scaleI c a) := by
  unfold scaleR scaleI castL
  rw [List.map_map, List.map_map]
  apply List.map_congr_left
  intro x _
  show (c : Rat) * (x : Rat) = ((c * x : Int) : Rat)
  push_cast; rfl
theorem getLastD_cast (a : List Int) : (castL a).getLastD 0 = ((a.getLastD 0 : Int) : Rat) := by
  rw [List.getLastD_eq_getLast?, List.getLastD_eq_getLast?, List.getLast?_map]
  cases a.getLast? <;> rfl
theorem getD_cast (a : List Int) (i : Nat) : (castL a).getD i 0 = ((a.getD i 0 : Int) : Rat) := by
  rw [List.getD_eq_getElem?_getD, List.getD_eq_getElem?_getD, List.getElem?_map]
  cases a[i]? <;> rfl
theorem up_cast (k a : List Int) : upR k (castL a) = castL (upI k a) := by
  unfold upR upI
  rw [getLastD_cast]
  unfold plusR castL
  rw [← List.map_dropLast]
  rw [show ((0 : Rat) :: List.map (fun (z : Int) => (z : Rat)) a.dropLast) = (0 :: a.dropLast).map (fun (z : Int) => (z : Rat)) from rfl]
  rw [List.zip_map, List.map_map, List.map_map]
  apply List.map_congr_left
  intro x _
  show (x.1 : Rat) + -(_ * (x.2 : Rat)) = ((x.1 - _ * x.2 : Int) : Rat)
  push_cast
  grind
theorem times_cast (k a b : List Int) : timesR k (castL a) (castL b) = castL (timesI k a b) := by
  unfold timesR timesI
  have h : ∀ (a x y : List Int), (castL a).foldl (fun (x : L × L) c => (plusR x.1 (scaleR c x.2), upR k x.2)) (castL x, castL y)
      = (castL (a.foldl (fun (x : List Int × List Int) c => (plusI x.1 (scaleI c x.2), upI k x.2)) (x, y)).1, castL (a.foldl (fun (x : List Int × List Int) c => (plusI x.1 (scaleI c x.2), upI k x.2)) (x, y)).2) := by
    intro a
    induction a with
    | nil => intro x y; rfl
    | cons c a ih =>
      intro x y
      show List.foldl _ (plusR (castL x) (scaleR (c : Rat) (castL y)), upR k (castL y)) (castL a) = _
      rw [scale_cast, plus_cast, up_cast]
      exact ih _ _
  have e : (List.replicate k.length (0 : Rat)) = castL (List.replicate k.length 0) := by
    unfold castL
    rw [List.map_replicate]; rfl
  rw [e, h]
theorem ups_cast (k : List Int) : ∀ (l : List Nat) (a : List Int), l.foldl (fun b _ => upR k b) (castL a) = castL (l.foldl (fun b _ => upI k b) a) := by
  intro l
  induction l with
  | nil => intro a; rfl
  | cons x l ih =>
    intro a
    rw [List.foldl_cons, List.foldl_cons, up_cast, ih]
theorem rows_cast (k a : List Int) : rowsR k (castL a) = (rowsI k a).map castL := by
  unfold rowsR rowsI
  rw [List.map_map]
  apply List.map_congr_left
  intro i _
  exact ups_cast k _ a
theorem sum_cast (l : List Int) (s : Int) : (castL l).foldl (· + ·) (s : Rat) = ((l.foldl (· + ·) s : Int) : Rat) := by
  induction l generalizing s with
  | nil => rfl
  | cons x l ih =>
    show List.foldl (· + ·) ((s : Rat) + (x : Rat)) (castL l) = _
    rw [← Rat.intCast_add, ih]
    rfl
theorem eraseIdx_cast (q : List Int) (i : Nat) : (castL q).eraseIdx i = castL (q.eraseIdx i) := by
  induction q generalizing i with
  | nil => rfl
  | cons x q ih =>
    cases i with
    | zero => rfl
    | succ i =>
      show (x : Rat) :: (castL q).eraseIdx i = (x : Rat) :: castL (q.eraseIdx i)
      rw [ih]
theorem det_cast : ∀ (n : Nat) (m : List (List Int)), detR n (m.map castL) = (detI n m : Int)
  | 0, _ => rfl
  | n + 1, [] => rfl
  | n + 1, r :: s => by
    show ((castL r).zipIdx.map fun x => (if x.2 % 2 = 0 then x.1 else -x.1) * (detR n ((s.map castL).map fun q => q.eraseIdx x.2))).foldl (· + ·) ((0 : Int) : Rat) = ((r.zipIdx.map fun x => (if x.2 % 2 = 0 then x.1 else -x.1) * (detI n (s.map fun q => q.eraseIdx x.2))).foldl (· + ·) 0 : Int)
    rw [← sum_cast, List.zipIdx_map, List.map_map]
    unfold castL
    rw [List.map_map]
    congr 1
    apply List.map_congr_left
    intro x _
    have e : ((s.map castL).map fun q => q.eraseIdx x.2) = (s.map fun q => q.eraseIdx x.2).map castL := by
      rw [List.map_map, List.map_map]
      apply List.map_congr_left
      intro q _
      exact eraseIdx_cast q x.2
    show (if x.2 % 2 = 0 then (x.1 : Rat) else -(x.1 : Rat)) * (detR n ((s.map castL).map fun q => q.eraseIdx x.2)) = (((if x.2 % 2 = 0 then x.1 else -x.1) * (detI n (s.map fun q => q.eraseIdx x.2)) : Int) : Rat)
    rw [e, det_cast n]
    split <;> push_cast <;> rfl
theorem trace_cast (k a : List Int) : traceR k (castL a) = (traceI k a : Int) := by
  unfold traceR traceI
  rw [rows_cast, ← sum_cast, List.zipIdx_map, List.map_map]
  unfold castL
  rw [List.map_map]
  congr 1
  apply List.map_congr_left
  intro x _
  exact getD_cast x.1 x.2
theorem norm_cast' (k a : List Int) : normR k (castL a) = (detI k.length (rowsI k a) : Int) := by
  unfold normR
  rw [rows_cast, det_cast]
/-! ### Numbers over one number below -/
def lcmOf (v : L) : Nat := v.foldl (fun m q => Nat.lcm m q.den) 1
def abvOf (v : L) : List Int := v.map fun q => q.num * ((lcmOf v / q.den : Nat) : Int)
theorem lcm_fold (v : L) : ∀ m, m ≠ 0 → (v.foldl (fun m q => Nat.lcm m q.den) m) ≠ 0 ∧ m ∣ (v.foldl (fun m q => Nat.lcm m q.den) m) ∧ ∀ q ∈ v, q.den ∣ (v.foldl (fun m q => Nat.lcm m q.den) m) := by
  induction v with
  | nil => intro m hm; exact ⟨hm, Nat.dvd_refl m, fun q hq => by cases hq⟩
  | cons x v ih =>
    intro m hm
    have hx := x.den_nz
    have hl : Nat.lcm m x.den ≠ 0 := Nat.lcm_ne_zero hm hx
    obtain ⟨h1, h2, h3⟩ := ih (Nat.lcm m x.den) hl
    refine ⟨h1, Nat.dvd_trans (Nat.dvd_lcm_left m x.den) h2, ?_⟩
    intro q hq
    cases hq with
    | head => exact Nat.dvd_trans (Nat.dvd_lcm_right m x.den) h2
    | tail _ hq => exact h3 q hq
theorem lcmOf_ne (v : L) : lcmOf v ≠ 0 := (lcm_fold v 1 (by decide)).1
theorem den_dvd {v : L} {q : Rat} (h : q ∈ v) : q.den ∣ lcmOf v := (lcm_fold v 1 (by decide)).2.2 q h
theorem lcmOf_cast_ne (v : L) : ((lcmOf v : Nat) : Rat) ≠ 0 := by
  intro h
  exact lcmOf_ne v (by exact_mod_cast h)
theorem abv_scale (v : L) : castL (abvOf v) = scaleR (lcmOf v : Rat) v := by
  unfold abvOf castL scaleR
  rw [List.map_map]
  apply List.map_congr_left
  intro q hq
  obtain ⟨c, hc⟩ := den_dvd hq
  show ((q.num * ((lcmOf v / q.den : Nat) : Int) : Int) : Rat) = (lcmOf v : Rat) * q
  rw [hc, Nat.mul_div_cancel_left c (Nat.pos_of_ne_zero q.den_nz)]
  push_cast
  rw [num_eq q]
  grind
theorem abv_length (v : L) : (abvOf v).length = v.length := by simp [abvOf]
theorem scale_scale (a b : Rat) (v : L) : scaleR a (scaleR b v) = scaleR (a * b) v := by
  unfold scaleR
  rw [List.map_map]
  apply List.map_congr_left
  intro x _
  show a * (b * x) = a * b * x
  grind
theorem scale_one (v : L) : scaleR 1 v = v := by
  unfold scaleR
  have : (fun x : Rat => 1 * x) = id := by funext x; exact Rat.one_mul x
  show v.map (fun x : Rat => 1 * x) = v
  rw [this, List.map_id]
theorem of_abv (v : L) : v = scaleR (1 / (lcmOf v : Rat)) (castL (abvOf v)) := by
  have h := lcmOf_cast_ne v
  rw [abv_scale, scale_scale]
  have : 1 / (lcmOf v : Rat) * (lcmOf v : Rat) = 1 := by grind
  rw [this, scale_one]
/-- whole numbers over one number below, as rationals -/
def overL (above : List Int) (below : Int) : L := above.map fun (z : Int) => (z : Rat) / (below : Rat)
theorem over_scale (above : List Int) (below : Int) : overL above below = scaleR (1 / (below : Rat)) (castL above) := by
  unfold overL scaleR castL
  rw [List.map_map]
  apply List.map_congr_left
  intro z _
  show (z : Rat) / (below : Rat) = 1 / (below : Rat) * (z : Rat)
  grind
end Rf

set_option autoImplicit false
set_option maxHeartbeats 4000000
set_option maxRecDepth 100000
namespace Rf
def frac (q : Rat) : List Int := [q.num, (q.den : Int)]
def placesQ (v : L) : List Int := v.flatMap frac
theorem nums_psi (v : L) : Nf01.nums (v.map psi) = placesQ v := by
  unfold Nf01.nums placesQ
  rw [List.flatMap_map]
  rfl
theorem one_ne : (1 : Rat) ≠ 0 := by decide
theorem sum_places (l r : L) (h : l.length = r.length) : overL (((abvOf l).zip (abvOf r)).map fun x => x.1 * ((lcmOf r : Nat) : Int) + x.2 * ((lcmOf l : Nat) : Int)) (((lcmOf l : Nat) : Int) * ((lcmOf r : Nat) : Int)) = plusR l r := by
  have hl := lcmOf_cast_ne l
  have hr := lcmOf_cast_ne r
  have e1 := abv_scale l
  have e2 := abv_scale r
  unfold overL plusR
  apply List.ext_getElem
  · simp [abv_length]
  · intro i h1 h2
    have hil : i < l.length := by simp at h2; omega
    have hir : i < r.length := by simp at h2; omega
    have g1 : (((abvOf l)[i]'(by rw [abv_length]; exact hil) : Int) : Rat) = (lcmOf l : Rat) * l[i] := by
      have := congrArg (fun m : L => m[i]?) e1
      simp only [castL, scaleR, List.getElem?_map] at this
      rw [List.getElem?_eq_getElem (by rw [abv_length]; exact hil), List.getElem?_eq_getElem hil] at this
      exact Option.some.inj this
    have g2 : (((abvOf r)[i]'(by rw [abv_length]; exact hir) : Int) : Rat) = (lcmOf r : Rat) * r[i] := by
      have := congrArg (fun m : L => m[i]?) e2
      simp only [castL, scaleR, List.getElem?_map] at this
      rw [List.getElem?_eq_getElem (by rw [abv_length]; exact hir), List.getElem?_eq_getElem hir] at this
      exact Option.some.inj this
    simp only [List.getElem_map, List.getElem_zip]
    push_cast
    rw [g1, g2]
    grind
theorem neg_places (r : L) : overL (abvOf r) (-((lcmOf r : Nat) : Int)) = minusR r := by
  have hr := lcmOf_cast_ne r
  rw [over_scale, abv_scale, scale_scale]
  unfold scaleR minusR
  apply List.map_congr_left
  intro x _
  push_cast
  grind
theorem times_scales {k : List Int} (hk : Deg k) {a b : L} (s t : Rat) (ha : a.length = k.length) (hb : b.length = k.length) : timesR k (scaleR s a) (scaleR t b) = scaleR (s * t) (timesR k a b) := by
  have hs : ∀ (s' : Rat) {b : L}, b.length = k.length → (scaleR s' b).length = k.length := fun s' b hb => by rw [scaleR_length]; exact hb
  rw [times_scale hk s ha (hs t hb), comm hk ha (hs t hb), times_scale hk t hb ha, scale_scale, comm hk hb ha]
theorem castL_length (l : List Int) : (castL l).length = l.length := by simp
theorem times_places {k : List Int} (hk : Deg k) (l r : L) (hl : l.length = k.length) (hr : r.length = k.length) : overL (timesI k (abvOf r) (abvOf l)) (((lcmOf l : Nat) : Int) * ((lcmOf r : Nat) : Int)) = timesR k l r := by
  have h1 := lcmOf_cast_ne l
  have h2 := lcmOf_cast_ne r
  rw [over_scale, ← times_cast, abv_scale, abv_scale, times_scales hk _ _ hr hl, scale_scale, comm hk hr hl]
  have : 1 / ((((lcmOf l : Nat) : Int) * ((lcmOf r : Nat) : Int) : Int) : Rat) * ((lcmOf r : Rat) * (lcmOf l : Rat)) = 1 := by
    push_cast
    grind
  rw [this, scale_one]
theorem norm_places {k : List Int} (hk : Deg k) (v : L) (hv : v.length = k.length) : ((detI k.length (rowsI k (abvOf v)) : Int) : Rat) / ((((lcmOf v : Nat) : Int) ^ k.length : Int) : Rat) = normR k v := by
  have h1 := lcmOf_cast_ne v
  rw [← norm_cast', abv_scale, norm_scale hk _ hv]
  push_cast
  have h2 : (lcmOf v : Rat) ^ k.length ≠ 0 := by
    intro h
    exact h1 (by
      rw [show ((lcmOf v : Nat) : Rat) ^ k.length = ((lcmOf v ^ k.length : Nat) : Rat) by push_cast; rfl] at h
      have h3 : lcmOf v ^ k.length = 0 := by exact_mod_cast h
      exact absurd h3 (Nat.pos_iff_ne_zero.mp (Nat.pow_pos (Nat.pos_of_ne_zero (lcmOf_ne v)))))
  grind
theorem trace_places {k : List Int} (hk : Deg k) (v : L) (hv : v.length = k.length) : ((traceI k (abvOf v) : Int) : Rat) / (((lcmOf v : Nat) : Int) : Rat) = traceR k v := by
  have h1 := lcmOf_cast_ne v
  rw [← trace_cast, abv_scale, trace_scale hk _ hv]
  push_cast
  grind
/-! ### The quotient, by Cramer's rule -/
/-- a row in the place of another -/
def cramI (k l r : List Int) (j : Nat) : Int := detI k.length ((rowsI k r).set j l)
def cramR (k : List Int) (l r : L) (j : Nat) : Rat := detR k.length ((rowsR k r).set j l)
theorem cram_cast (k l r : List Int) (j : Nat) : cramR k (castL l) (castL r) j = (cramI k l r j : Int) := by
  unfold cramR cramI
  rw [rows_cast, ← List.map_set, det_cast]
theorem solve2 (a b c d x y : Rat) : 
  (x*d - y*c)*a + (a*y - b*x)*c = (a*d - b*c)*x ∧ (x*d - y*c)*b + (a*y - b*x)*d = (a*d - b*c)*y := by
  constructor <;> grind
theorem solve3 (a b c d e f g h i x y z : Rat) :
  let D := a*(e*i-f*h) - b*(d*i-f*g) + c*(d*h-e*g)
  let X := x*(e*i-f*h) - y*(d*i-f*g) + z*(d*h-e*g)
  let Y := a*(y*i-z*h) - b*(x*i-z*g) + c*(x*h-y*g)
  let Z := a*(e*z-f*y) - b*(d*z-f*x) + c*(d*y-e*x)
  X*a + Y*d + Z*g = D*x ∧ X*b + Y*e + Z*h = D*y ∧ X*c + Y*f + Z*i = D*z := by
  intros
  refine ⟨?_, ?_, ?_⟩ <;> grind
theorem solve4 (a b c d e f g h i j k l m n o p x y z w : Rat) :
  let D := a*(f*(k*p-l*o) - g*(j*p-l*n) + h*(j*o-k*n)) - b*(e*(k*p-l*o)-g*(i*p-l*m)+h*(i*o-k*m)) + c*(e*(j*p-l*n)-f*(i*p-l*m)+h*(i*n-j*m)) - d*(e*(j*o-k*n)-f*(i*o-k*m)+g*(i*n-j*m))
  let D0 := x*(f*(k*p-l*o) - g*(j*p-l*n) + h*(j*o-k*n)) - y*(e*(k*p-l*o)-g*(i*p-l*m)+h*(i*o-k*m)) + z*(e*(j*p-l*n)-f*(i*p-l*m)+h*(i*n-j*m)) - w*(e*(j*o-k*n)-f*(i*o-k*m)+g*(i*n-j*m))
  let D1 := a*(y*(k*p-l*o) - z*(j*p-l*n) + w*(j*o-k*n)) - b*(x*(k*p-l*o)-z*(i*p-l*m)+w*(i*o-k*m)) + c*(x*(j*p-l*n)-y*(i*p-l*m)+w*(i*n-j*m)) - d*(x*(j*o-k*n)-y*(i*o-k*m)+z*(i*n-j*m))
  let D2 := a*(f*(z*p-w*o) - g*(y*p-w*n) + h*(y*o-z*n)) - b*(e*(z*p-w*o)-g*(x*p-w*m)+h*(x*o-z*m)) + c*(e*(y*p-w*n)-f*(x*p-w*m)+h*(x*n-y*m)) - d*(e*(y*o-z*n)-f*(x*o-z*m)+g*(x*n-y*m))
  let D3 := a*(f*(k*w-l*z) - g*(j*w-l*y) + h*(j*z-k*y)) - b*(e*(k*w-l*z)-g*(i*w-l*x)+h*(i*z-k*x)) + c*(e*(j*w-l*y)-f*(i*w-l*x)+h*(i*y-j*x)) - d*(e*(j*z-k*y)-f*(i*z-k*x)+g*(i*y-j*x))
  D0*a + D1*e + D2*i + D3*m = D*x ∧ D0*b + D1*f + D2*j + D3*n = D*y ∧ D0*c + D1*g + D2*k + D3*o = D*z ∧ D0*d + D1*h + D2*l + D3*p = D*w := by
  intros
  refine ⟨?_, ?_, ?_, ?_⟩ <;> grind
theorem times2' (p q : Int) (a b x y : Rat) : timesR [p,q] [a,b] [x,y] = [a*x + b*(-(y*p)), a*y + b*(x-y*q)] := by
  rw [times2]; apply ext2 <;> grind
theorem times3' (p q r : Int) (a b c x y z : Rat) : timesR [p,q,r] [a,b,c] [x,y,z] =
  [a*x + b*(-(z*p)) + c*(-((y-z*r)*p)), a*y + b*(x-z*q) + c*(-(z*p)-(y-z*r)*q), a*z + b*(y-z*r) + c*(x-z*q-(y-z*r)*r)] := by
  rw [times3]; apply ext3 <;> grind
theorem times4' (p q r s : Int) (a b c d x y z w : Rat) : timesR [p,q,r,s] [a,b,c,d] [x,y,z,w] = 
  [a*x + b*(-(w*p)) + c*(-((z-w*s)*p)) + d*(-((y-w*r-(z-w*s)*s)*p)),
   a*y + b*(x-w*q) + c*(-(w*p) - (z-w*s)*q) + d*(-((z-w*s)*p) - (y-w*r-(z-w*s)*s)*q),
   a*z + b*(y-w*r) + c*(x-w*q-(z-w*s)*r) + d*(-(w*p) - (z-w*s)*q - (y-w*r-(z-w*s)*s)*r),
   a*w + b*(z-w*s) + c*(y-w*r-(z-w*s)*s) + d*(x-w*q-(z-w*s)*r - (y-w*r-(z-w*s)*s)*s)] := by
  rw [times4]; apply ext4 <;> grind
theorem cramer {k : List Int} (hk : Deg k) {l r : L} (hl : l.length = k.length) (hr : r.length = k.length) : timesR k ((List.range k.length).map (cramR k l r)) r = scaleR (normR k r) l := by
  unfold cramR normR
  rcases hk.cases with ⟨p, q, rfl⟩ | ⟨p, q, s, rfl⟩ | ⟨p, q, s, t, rfl⟩
  · obtain ⟨x, y, rfl⟩ := len2 hl
    obtain ⟨u, v, rfl⟩ := len2 hr
    rw [rows2]
    show timesR _ [detR 2 [[x, y], _], detR 2 [_, [x, y]]] _ = [detR 2 _ * x, detR 2 _ * y]
    rw [times2', det2, det2, det2]
    have h := solve2 u v (-(v*p)) (u - v*q) x y
    exact ext2 h.1 h.2
  · obtain ⟨x, y, z, rfl⟩ := len3 hl
    obtain ⟨u, v, w, rfl⟩ := len3 hr
    rw [rows3]
    show timesR _ [detR 3 [[x, y, z], _, _], detR 3 [_, [x, y, z], _], detR 3 [_, _, [x, y, z]]] _ = [detR 3 _ * x, detR 3 _ * y, detR 3 _ * z]
    rw [times3', det3, det3, det3, det3]
    have h := solve3 u v w (-(w*p)) (u - w*q) (v - w*s) (-((v-w*s)*p)) (-(w*p)-(v-w*s)*q) (u-w*q-(v-w*s)*s) x y z
    simp only [] at h
    exact ext3 h.1 h.2.1 h.2.2
  · obtain ⟨x, y, z, a, rfl⟩ := len4 hl
    obtain ⟨u, v, w, b, rfl⟩ := len4 hr
    rw [rows4]
    show timesR _ [detR 4 [[x, y, z, a], _, _, _], detR 4 [_, [x, y, z, a], _, _], detR 4 [_, _, [x, y, z, a], _], detR 4 [_, _, _, [x, y, z, a]]] _ = [detR 4 _ * x, detR 4 _ * y, detR 4 _ * z, detR 4 _ * a]
    rw [times4', det4, det4, det4, det4, det4]
    have h := solve4 u v w b (-(b*p)) (u - b*q) (v - b*s) (w - b*t) (-((w-b*t)*p)) (-(b*p) - (w-b*t)*q) (u-b*q-(w-b*t)*s) (v-b*s-(w-b*t)*t) (-((v-b*s-(w-b*t)*t)*p)) (-((w-b*t)*p) - (v-b*s-(w-b*t)*t)*q) (-(b*p) - (w-b*t)*q - (v-b*s-(w-b*t)*t)*s) (u-b*q-(w-b*t)*s - (v-b*s-(w-b*t)*t)*t) x y z a
    simp only [] at h
    exact ext4 h.1 h.2.1 h.2.2.1 h.2.2.2
/-- **division**: there is one quotient -/
theorem quot_is {k : List Int} (hk : Deg k) {a l r : L} (ha : a.length = k.length) (hr : r.length = k.length) (hn : normR k r ≠ 0) (h : timesR k a r = l) : timesR k l (inverseR k r) = a := by
  have h0 : 1 ≤ k.length := by have := hk.1; omega
  have hi : (inverseR k r).length = k.length := by
    unfold inverseR
    rw [scaleR_length]
    have hf : ∀ (m b : L), b.length = k.length → (m.foldl (fun (b : L) x => plusR (timesR k b r) (ofR k x)) b).length = k.length := by
      intro m
      induction m with
      | nil => intro b hb; exact hb
      | cons x m ih =>
        intro b hb
        rw [List.foldl_cons]
        apply ih
        rw [plusR_length _ _ (by rw [times_length h0 _ hr, ofR_length h0])]
        exact times_length h0 _ hr
    exact hf _ _ (by simp)
  rw [← h, assoc hk ha hr hi, comm hk hr hi, inv_times hk hr hn, comm hk ha (ofR_length h0 1), times_of hk _ ha, scale_one]
theorem quot_places {k : List Int} (hk : Deg k) (l r : L) (hl : l.length = k.length) (hr : r.length = k.length) (hn : normR k r ≠ 0) :
    overL ((List.range k.length).map fun j => cramI k (abvOf l) (abvOf r) j * ((lcmOf r : Nat) : Int)) (detI k.length (rowsI k (abvOf r)) * ((lcmOf l : Nat) : Int)) = timesR k l (inverseR k r) := by
  have h1 := lcmOf_cast_ne l
  have h2 := lcmOf_cast_ne r
  have hcr : ((List.range k.length).map (cramR k (castL (abvOf l)) (castL (abvOf r)))).length = k.length := by simp
  have hc := cramer hk (l := castL (abvOf l)) (r := castL (abvOf r)) (by rw [castL_length, abv_length, hl]) (by rw [castL_length, abv_length, hr])
  have hd : normR k (castL (abvOf r)) ≠ 0 := by
    rw [abv_scale, norm_scale hk _ hr]
    have h3 : (lcmOf r : Rat) ^ k.length ≠ 0 := by
      intro h
      rw [show ((lcmOf r : Nat) : Rat) ^ k.length = ((lcmOf r ^ k.length : Nat) : Rat) by push_cast; rfl] at h
      have h3 : lcmOf r ^ k.length = 0 := by exact_mod_cast h
      exact absurd h3 (Nat.pos_iff_ne_zero.mp (Nat.pow_pos (Nat.pos_of_ne_zero (lcmOf_ne r))))
    grind
  have e : overL ((List.range k.length).map fun j => cramI k (abvOf l) (abvOf r) j * ((lcmOf r : Nat) : Int)) (detI k.length (rowsI k (abvOf r)) * ((lcmOf l : Nat) : Int))
      = scaleR ((lcmOf r : Rat) / (normR k (castL (abvOf r)) * (lcmOf l : Rat))) ((List.range k.length).map (cramR k (castL (abvOf l)) (castL (abvOf r)))) := by
    unfold overL scaleR
    rw [List.map_map, List.map_map]
    apply List.map_congr_left
    intro j _
    show (((cramI k (abvOf l) (abvOf r) j * ((lcmOf r : Nat) : Int)) : Int) : Rat) / ((detI k.length (rowsI k (abvOf r)) * ((lcmOf l : Nat) : Int) : Int) : Rat) = (lcmOf r : Rat) / (normR k (castL (abvOf r)) * (lcmOf l : Rat)) * cramR k (castL (abvOf l)) (castL (abvOf r)) j
    rw [cram_cast, norm_cast']
    push_cast
    rw [norm_cast'] at hd
    generalize ((detI k.length (rowsI k (abvOf r)) : Int) : Rat) = D at *
    grind
  rw [e]
  symm
  apply quot_is hk (by rw [scaleR_length]; exact hcr) hr hn
  have hx : timesR k (scaleR ((lcmOf r : Rat) / (normR k (castL (abvOf r)) * (lcmOf l : Rat))) ((List.range k.length).map (cramR k (castL (abvOf l)) (castL (abvOf r))))) r
      = scaleR (1 / (lcmOf r : Rat)) (timesR k (scaleR ((lcmOf r : Rat) / (normR k (castL (abvOf r)) * (lcmOf l : Rat))) ((List.range k.length).map (cramR k (castL (abvOf l)) (castL (abvOf r))))) (castL (abvOf r))) := by
    rw [abv_scale r]
    rw [comm hk (b := scaleR (lcmOf r : Rat) r) (by rw [scaleR_length]; simp) (by rw [scaleR_length]; exact hr), times_scale hk _ hr (by rw [scaleR_length]; simp), scale_scale]
    have : 1 / (lcmOf r : Rat) * (lcmOf r : Rat) = 1 := by grind
    rw [this, scale_one, comm hk hr (by rw [scaleR_length]; simp)]
  rw [hx, times_scale hk _ hcr (by rw [castL_length, abv_length, hr]), hc, scale_scale, scale_scale, abv_scale l, scale_scale]
  have : 1 / (lcmOf r : Rat) * ((lcmOf r : Rat) / (normR k (castL (abvOf r)) * (lcmOf l : Rat))) * normR k (castL (abvOf r)) * (lcmOf l : Rat) = 1 := by
    generalize normR k (castL (abvOf r)) = D at *
    grind
  rw [this, scale_one]
end Rf

set_option autoImplicit false
set_option maxHeartbeats 4000000
set_option maxRecDepth 100000
namespace Rf
/-! The polynomial of a number, over whole numbers. -/
def ofI (k : List Int) (x : Int) : List Int := x :: List.replicate (k.length - 1) 0
def flI (k A : List Int) : Nat → List Int × List Int
  | 0 => ([1], ofI k 1)
  | j + 1 =>
    let pr := timesI k (flI k A j).2 A
    let c := (-(traceI k pr)).fdiv ((j : Int) + 1)
    (c :: (flI k A j).1, (pr.headD 0 + c) :: pr.tail)
def wpolyI (k A : List Int) : List Int := (flI k A k.length).1
/-- coefficients, from that of x to the 0 on, each over a power of the number below -/
def wrd (b : Int) : List Int → L
  | [] => []
  | c :: r => (c : Rat) / ((b ^ r.length : Int) : Rat) :: wrd b r
theorem int_coef {k : List Int} (hk : Deg k) {A : List Int} (hA : A.length = k.length) : ∀ j, j < k.length → ∃ z : Int, flco k (castL A) j = (z : Rat) := by
  have hc := char_flcs hk (a := castL A) (by rw [castL_length, hA])
  rcases hk.cases with ⟨p, q, rfl⟩ | ⟨p, q, r, rfl⟩ | ⟨p, q, r, s, rfl⟩
  · obtain ⟨x, y, rfl⟩ := len2 hA
    have e : charR [p, q] (castL [x, y]) = _ := char2 p q x y
    rw [e] at hc
    have hc' : _ = [flco [p,q] (castL [x,y]) 1, flco [p,q] (castL [x,y]) 0, 1] := hc
    simp only [List.cons.injEq, and_true] at hc'
    intro j hj
    match j, hj with
    | 0, _ => exact ⟨-(ee21 (R := Int) p q x y), by rw [← hc'.2]; simp only [ee21]; push_cast; rfl⟩
    | 1, _ => exact ⟨ee22 (R := Int) p q x y, by rw [← hc'.1]; simp only [ee22]; push_cast; rfl⟩
  · obtain ⟨x, y, z, rfl⟩ := len3 hA
    have e : charR [p, q, r] (castL [x, y, z]) = _ := char3 p q r x y z
    rw [e] at hc
    have hc' : _ = [flco [p,q,r] (castL [x,y,z]) 2, flco [p,q,r] (castL [x,y,z]) 1, flco [p,q,r] (castL [x,y,z]) 0, 1] := hc
    simp only [List.cons.injEq, and_true] at hc'
    intro j hj
    match j, hj with
    | 0, _ => exact ⟨-(ee31 (R := Int) p q r x y z), by rw [← hc'.2.2]; simp only [ee31]; push_cast; rfl⟩
    | 1, _ => exact ⟨ee32 (R := Int) p q r x y z, by rw [← hc'.2.1]; simp only [ee32]; push_cast; rfl⟩
    | 2, _ => exact ⟨-(ee33 (R := Int) p q r x y z), by rw [← hc'.1]; simp only [ee33]; push_cast; rfl⟩
  · obtain ⟨x, y, z, w, rfl⟩ := len4 hA
    have e : charR [p, q, r, s] (castL [x, y, z, w]) = _ := char4 p q r s x y z w
    rw [e] at hc
    have hc' : _ = [flco [p,q,r,s] (castL [x,y,z,w]) 3, flco [p,q,r,s] (castL [x,y,z,w]) 2, flco [p,q,r,s] (castL [x,y,z,w]) 1, flco [p,q,r,s] (castL [x,y,z,w]) 0, 1] := hc
    simp only [List.cons.injEq, and_true] at hc'
    intro j hj
    match j, hj with
    | 0, _ => exact ⟨-(ee41 (R := Int) p q r s x y z w), by rw [← hc'.2.2.2]; simp only [ee41]; push_cast; rfl⟩
    | 1, _ => exact ⟨ee42 (R := Int) p q r s x y z w, by rw [← hc'.2.2.1]; simp only [ee42]; push_cast; rfl⟩
    | 2, _ => exact ⟨-(ee43 (R := Int) p q r s x y z w), by rw [← hc'.2.1]; simp only [ee43]; push_cast; rfl⟩
    | 3, _ => exact ⟨ee44 (R := Int) p q r s x y z w, by rw [← hc'.1]; simp only [ee44]; push_cast; rfl⟩
theorem plus_ofR {k : List Int} {b : L} (h0 : 1 ≤ k.length) (hb : b.length = k.length) (c : Rat) : plusR b (ofR k c) = (b.headD 0 + c) :: b.tail := by
  cases b with
  | nil => simp at hb; omega
  | cons x b =>
    show (x + c) :: plusR b (List.replicate (k.length - 1) 0) = (x + c) :: b
    congr 1
    have hl : b.length = k.length - 1 := by simp at hb; omega
    unfold plusR
    apply List.ext_getElem
    · simp [hl]
    · intro i h1 h2
      simp [Rat.add_zero]
theorem fl_cast {k : List Int} (hk : Deg k) {A : List Int} (hA : A.length = k.length) : ∀ j, j ≤ k.length → castL (flI k A j).1 = flcs k (castL A) j ∧ castL (flI k A j).2 = flc k (castL A) j := by
  have h0 : 1 ≤ k.length := by have := hk.1; omega
  have hA' : (castL A).length = k.length := by rw [castL_length, hA]
  intro j
  induction j with
  | zero =>
    intro _
    refine ⟨rfl, ?_⟩
    show castL (ofI k 1) = ofR k 1
    unfold castL ofI ofR
    rw [List.map_cons, List.map_replicate]
    rfl
  | succ j ih =>
    intro hj
    obtain ⟨i1, i2⟩ := ih (by omega)
    obtain ⟨z, hz⟩ := int_coef hk hA j (by omega)
    have e1 : castL (timesI k (flI k A j).2 A) = timesR k (flc k (castL A) j) (castL A) := by rw [← times_cast, i2]
    have e2 : ((traceI k (timesI k (flI k A j).2 A) : Int) : Rat) = -((z : Rat) * ((j : Rat) + 1)) := by
      rw [← trace_cast, e1]
      have h2 : (j : Rat) + 1 ≠ 0 := by
        have : ((j : Rat)) + 1 = ((j + 1 : Nat) : Rat) := by push_cast; rfl
        rw [this]
        intro h
        have : (j + 1 : Nat) = 0 := by exact_mod_cast h
        omega
      have h3 : flco k (castL A) j * ((j : Rat) + 1) = -(traceR k (timesR k (flc k (castL A) j) (castL A))) := by
        unfold flco
        have : (((j : Int) + 1 : Int) : Rat) = (j : Rat) + 1 := by push_cast; rfl
        rw [this]
        grind
      rw [hz] at h3
      grind
    have e3 : traceI k (timesI k (flI k A j).2 A) = -(z * ((j : Int) + 1)) := by
      have : ((traceI k (timesI k (flI k A j).2 A) : Int) : Rat) = ((-(z * ((j : Int) + 1)) : Int) : Rat) := by
        rw [e2]; push_cast; rfl
      exact_mod_cast this
    have e4 : (-(traceI k (timesI k (flI k A j).2 A))).fdiv ((j : Int) + 1) = z := by
      rw [e3, Int.neg_neg, Int.fdiv_eq_ediv_of_nonneg _ (by omega)]
      exact Int.mul_ediv_cancel z (by omega)
    constructor
    · show ((((-(traceI k (timesI k (flI k A j).2 A))).fdiv ((j : Int) + 1) : Int) : Rat) :: castL (flI k A j).1) = flco k (castL A) j :: flcs k (castL A) j
      rw [e4, i1, hz]
    · show castL (((timesI k (flI k A j).2 A).headD 0 + (-(traceI k (timesI k (flI k A j).2 A))).fdiv ((j : Int) + 1)) :: (timesI k (flI k A j).2 A).tail) = _
      rw [e4, flc_succ, hz, plus_ofR h0 (times_length h0 _ hA')]
      rw [← e1]
      unfold castL
      rw [List.map_cons, List.map_tail]
      cases (timesI k (flI k A j).2 A) with
      | nil => simp [Rat.zero_add]
      | cons x t => simp [Rat.intCast_add]
theorem flc_scale {k : List Int} (hk : Deg k) {a : L} (s : Rat) (ha : a.length = k.length) : ∀ j, flc k (scaleR s a) j = scaleR (s ^ j) (flc k a j) := by
  have h0 : 1 ≤ k.length := by have := hk.1; omega
  intro j
  induction j with
  | zero =>
    show ofR k 1 = scaleR (s ^ 0) (ofR k 1)
    rw [Rat.pow_zero, scale_one]
  | succ j ih =>
    have hl := flc_length hk ha j
    have e : timesR k (flc k (scaleR s a) j) (scaleR s a) = scaleR (s ^ (j + 1)) (timesR k (flc k a j) a) := by
      rw [ih, times_scales hk _ _ hl ha, Rat.pow_succ]
    rw [flc_succ, flc_succ]
    unfold flco
    rw [e, trace_scale hk _ (times_length h0 _ ha)]
    have hT := times_length h0 (flc k a j) ha
    generalize timesR k (flc k a j) a = T at *
    rw [plus_ofR h0 (by rw [scaleR_length]; exact hT), plus_ofR h0 hT]
    cases T with
    | nil => simp at hT; omega
    | cons x t =>
      show (s ^ (j+1) * x + _) :: scaleR (s ^ (j+1)) t = (s ^ (j+1) * (x + _)) :: scaleR (s ^ (j+1)) t
      congr 1
      grind
theorem flco_scale {k : List Int} (hk : Deg k) {a : L} (s : Rat) (ha : a.length = k.length) (j : Nat) : flco k (scaleR s a) j = s ^ (j + 1) * flco k a j := by
  have h0 : 1 ≤ k.length := by have := hk.1; omega
  unfold flco
  rw [flc_scale hk s ha, times_scales hk _ _ (flc_length hk ha j) ha, trace_scale hk _ (times_length h0 _ ha), Rat.pow_succ]
  grind
theorem flcs_length (k : List Int) (a : L) (j : Nat) : (flcs k a j).length = j + 1 := by
  induction j with
  | zero => rfl
  | succ j ih => show (flcs k a j).length + 1 = _; rw [ih]
/-- **the polynomial of a number**: by whole numbers, then over the powers of the number below -/
theorem poly_places {k : List Int} (hk : Deg k) (v : L) (hv : v.length = k.length) : wrd (lcmOf v : Int) (wpolyI k (abvOf v)) = charR k v := by
  have h1 := lcmOf_cast_ne v
  have hA : (abvOf v).length = k.length := by rw [abv_length, hv]
  have hA' : (castL (abvOf v)).length = k.length := by rw [castL_length, hA]
  rw [char_flcs hk hv]
  have h : ∀ j, j ≤ k.length → wrd (lcmOf v : Int) (flI k (abvOf v) j).1 = flcs k v j := by
    intro j
    induction j with
    | zero =>
      intro _
      show [((1 : Int) : Rat) / (((lcmOf v : Int) ^ 0 : Int) : Rat)] = [1]
      rw [Int.pow_zero]
      congr 1
      grind
    | succ j ih =>
      intro hj
      have e := (fl_cast hk hA (j + 1) hj).1
      obtain ⟨z, hz⟩ : ∃ z, (flI k (abvOf v) (j + 1)).1 = z :: (flI k (abvOf v) j).1 := ⟨_, rfl⟩
      have el : (flI k (abvOf v) j).1.length = j + 1 := by
        have := congrArg List.length (fl_cast hk hA j (by omega)).1
        rw [castL_length, flcs_length] at this
        exact this
      rw [hz] at e ⊢
      show (z : Rat) / (((lcmOf v : Int) ^ (flI k (abvOf v) j).1.length : Int) : Rat) :: wrd _ _ = flco k v j :: flcs k v j
      rw [ih (by omega), el]
      have ez : (z : Rat) = flco k (castL (abvOf v)) j := (List.cons.inj e).1
      rw [ez, abv_scale, flco_scale hk _ hv]
      congr 1
      push_cast
      have h2 : (lcmOf v : Rat) ^ (j + 1) ≠ 0 := by
        intro h
        rw [show ((lcmOf v : Nat) : Rat) ^ (j + 1) = ((lcmOf v ^ (j + 1) : Nat) : Rat) by push_cast; rfl] at h
        have h3 : lcmOf v ^ (j + 1) = 0 := by exact_mod_cast h
        exact absurd h3 (Nat.pos_iff_ne_zero.mp (Nat.pow_pos (Nat.pos_of_ne_zero (lcmOf_ne v))))
      generalize (lcmOf v : Rat) ^ (j + 1) = P at *
      grind
  exact h k.length (Nat.le_refl _)
end Rf

set_option autoImplicit false
set_option maxHeartbeats 4000000
set_option maxRecDepth 100000
namespace Rf
/-! Sizes, and polynomials as functions on the rationals. -/
def ab (x : Rat) : Rat := if x < 0 then -x else x
theorem ab_nonneg (x : Rat) : 0 ≤ ab x := by unfold ab; split <;> grind
theorem le_ab (x : Rat) : x ≤ ab x := by unfold ab; split <;> grind
theorem neg_le_ab (x : Rat) : -x ≤ ab x := by unfold ab; split <;> grind
theorem ab_le {x y : Rat} (h1 : x ≤ y) (h2 : -x ≤ y) : ab x ≤ y := by unfold ab; split <;> grind
theorem ab_mul (x y : Rat) : ab (x * y) = ab x * ab y := by
  unfold ab
  by_cases hx : x < 0 <;> by_cases hy : y < 0
  · have : 0 < x * y := by
      have := Rat.mul_pos (a := -x) (b := -y) (by grind) (by grind)
      grind
    rw [if_pos hx, if_pos hy, if_neg (by grind)]; grind
  · rw [if_pos hx, if_neg hy]
    by_cases hy0 : y = 0
    · subst hy0; rw [if_neg (by grind)]; grind
    · have := Rat.mul_pos (a := -x) (b := y) (by grind) (by grind)
      rw [if_pos (by grind)]; grind
  · rw [if_neg hx, if_pos hy]
    by_cases hx0 : x = 0
    · subst hx0; rw [if_neg (by grind)]; grind
    · have := Rat.mul_pos (a := x) (b := -y) (by grind) (by grind)
      rw [if_pos (by grind)]; grind
  · rw [if_neg hx, if_neg hy]
    have := Rat.mul_nonneg (a := x) (b := y) (by grind) (by grind)
    rw [if_neg (by grind)]
theorem ab_add (x y : Rat) : ab (x + y) ≤ ab x + ab y := by
  have := le_ab x; have := le_ab y; have := neg_le_ab x; have := neg_le_ab y
  apply ab_le <;> grind
theorem ab_neg (x : Rat) : ab (-x) = ab x := by unfold ab; grind
theorem ab_sub (x y : Rat) : ab (x - y) ≤ ab x + ab y := by
  have := ab_add x (-y)
  rw [ab_neg] at this
  have e : x - y = x + -y := by grind
  rw [e]; exact this
theorem ab_zero : ab 0 = 0 := rfl
theorem ab_pos {x : Rat} (h : x ≠ 0) : 0 < ab x := by unfold ab; split <;> grind
theorem mul_mono {a b c d : Rat} (h1 : a ≤ c) (h2 : b ≤ d) (hb : 0 ≤ b) (hc : 0 ≤ c) : a * b ≤ c * d := by
  have e1 : a * b ≤ c * b := Rat.mul_le_mul_of_nonneg_right h1 hb
  have e2 : c * b ≤ c * d := Rat.mul_le_mul_of_nonneg_left h2 hc
  grind
/-- bounded and without leaps, on whatever span -/
def Nice (g : Rat → Rat) : Prop := ∀ B : Rat, 0 < B → ∃ M : Rat, 0 < M ∧ (∀ x, ab x ≤ B → ab (g x) ≤ M) ∧ ∀ x y, ab x ≤ B → ab y ≤ B → ab (g x - g y) ≤ M * ab (x - y)
theorem nice_const (c : Rat) : Nice fun _ => c := by
  intro B hB
  refine ⟨ab c + 1, by have := ab_nonneg c; grind, fun x _ => by grind, fun x y _ _ => ?_⟩
  have : c - c = 0 := by grind
  rw [this, ab_zero]
  have h1 := ab_nonneg c
  have h2 := ab_nonneg (x - y)
  exact Rat.mul_nonneg (by grind) h2
theorem nice_id : Nice fun x => x := by
  intro B hB
  refine ⟨B + 1, by grind, fun x hx => by grind, fun x y _ _ => ?_⟩
  have h2 := ab_nonneg (x - y)
  have := Rat.mul_le_mul_of_nonneg_right (show 1 ≤ B + 1 by grind) h2
  grind
theorem nice_add {g h : Rat → Rat} (hg : Nice g) (hh : Nice h) : Nice fun x => g x + h x := by
  intro B hB
  obtain ⟨M, m0, m1, m2⟩ := hg B hB
  obtain ⟨N, n0, n1, n2⟩ := hh B hB
  refine ⟨M + N, by grind, fun x hx => ?_, fun x y hx hy => ?_⟩
  · have := ab_add (g x) (h x); have := m1 x hx; have := n1 x hx; grind
  · have e : g x + h x - (g y + h y) = (g x - g y) + (h x - h y) := by grind
    rw [e]
    have := ab_add (g x - g y) (h x - h y); have := m2 x y hx hy; have := n2 x y hx hy; grind
theorem nice_mul {g h : Rat → Rat} (hg : Nice g) (hh : Nice h) : Nice fun x => g x * h x := by
  intro B hB
  obtain ⟨M, m0, m1, m2⟩ := hg B hB
  obtain ⟨N, n0, n1, n2⟩ := hh B hB
  have mn := Rat.mul_pos m0 n0
  refine ⟨2 * (M * N), by grind, fun x hx => ?_, fun x y hx hy => ?_⟩
  · rw [ab_mul]
    have := mul_mono (m1 x hx) (n1 x hx) (ab_nonneg _) (by grind)
    grind
  · have e : g x * h x - g y * h y = g x * (h x - h y) + h y * (g x - g y) := by grind
    rw [e]
    have h1 := ab_add (g x * (h x - h y)) (h y * (g x - g y))
    rw [ab_mul, ab_mul] at h1
    have h2 := mul_mono (m1 x hx) (n2 x y hx hy) (ab_nonneg _) (by grind)
    have h3 := mul_mono (n1 y hy) (m2 x y hx hy) (ab_nonneg _) (by grind)
    grind
theorem nice_neg {g : Rat → Rat} (hg : Nice g) : Nice fun x => -(g x) := by
  have h := nice_mul (nice_const (-1)) hg
  have e : (fun x => -1 * g x) = fun x => -(g x) := by funext x; grind
  rw [← e]; exact h
theorem nice_sub {g h : Rat → Rat} (hg : Nice g) (hh : Nice h) : Nice fun x => g x - h x := by
  have e : (fun x => g x + -(h x)) = fun x => g x - h x := by funext x; grind
  rw [← e]; exact nice_add hg (nice_neg hh)
/-- a polynomial's value: coefficients from that of x to the 0 on -/
def ev (l : L) (x : Rat) : Rat := l.foldr (fun a v => a + x * v) 0
theorem ev_nil (x : Rat) : ev [] x = 0 := rfl
theorem ev_cons (a : Rat) (l : L) (x : Rat) : ev (a :: l) x = a + x * ev l x := rfl
theorem nice_ev : ∀ l : L, Nice (ev l)
  | [] => nice_const 0
  | a :: l => nice_add (nice_const a) (nice_mul nice_id (nice_ev l))
end Rf

set_option autoImplicit false
set_option maxHeartbeats 4000000
set_option maxRecDepth 100000
namespace Rf
/-! Sturm's theory over the rationals, cell by cell. -/
def flag (x : Rat) : Bool := decide (x < 0)
/-- how often the sign changes along functions -/
def chg : List (Rat → Rat) → Rat → Int
  | p :: q :: r, x => (if flag (p x) ≠ flag (q x) then 1 else 0) + chg (q :: r) x
  | _, _ => 0
/-- a chain of remainders, its signs turned -/
inductive SC : (Rat → Rat) → (Rat → Rat) → List (Rat → Rat) → Prop
  | last {p q : Rat → Rat} (hp : Nice p) (hq : Nice q) (s : Rat) (Q : Rat → Rat) (hs : 0 < s) (hQ : Nice Q) (h : ∀ x, s * p x = Q x * q x) : SC p q []
  | more {p q r : Rat → Rat} {l : List (Rat → Rat)} (hp : Nice p) (hq : Nice q) (s t : Rat) (Q : Rat → Rat) (hs : 0 < s) (ht : 0 < t) (hQ : Nice Q) (h : ∀ x, s * p x = Q x * q x - t * r x) (hl : SC q r l) : SC p q (r :: l)
/-- nothing in common -/
def Bz (p q : Rat → Rat) : Prop := ∃ u v : Rat → Rat, Nice u ∧ Nice v ∧ ∀ x, u x * p x + v x * q x = 1
theorem Bz.step {p q r : Rat → Rat} (hb : Bz p q) {s t : Rat} {Q : Rat → Rat} (hs : 0 < s) (hQ : Nice Q) (h : ∀ x, s * p x = Q x * q x - t * r x) : Bz q r := by
  obtain ⟨u, v, hu, hv, e⟩ := hb
  refine ⟨fun x => (1/s) * (u x * Q x) + v x, fun x => (-(t/s)) * u x, nice_add (nice_mul (nice_const _) (nice_mul hu hQ)) hv, nice_mul (nice_const _) hu, fun x => ?_⟩
  have e1 := e x
  have e2 := h x
  show ((1/s) * (u x * Q x) + v x) * q x + (-(t/s)) * u x * r x = 1
  have e3 : p x = (1/s) * (Q x * q x - t * r x) := by
    rw [← e2]; grind
  rw [e3] at e1
  grind
theorem flag_eq {x y : Rat} (h : ab (x - y) < ab x) : flag x = flag y := by
  unfold flag
  unfold ab at h
  have : (x < 0 ↔ y < 0) := by
    constructor
    · intro hx; split at h <;> grind
    · intro hy; split at h <;> grind
  simp only [this]
/-- of a flag that changes within a cell the value is small -/
theorem flag_ne {x y : Rat} (h : flag x ≠ flag y) : ab x ≤ ab (x - y) := by
  apply Rat.not_lt.mp
  intro h2
  exact h (flag_eq h2)
theorem ab_sub_comm (x y : Rat) : ab (x - y) = ab (y - x) := by
  have : x - y = -(y - x) := by grind
  rw [this, ab_neg]
theorem flag_ne' {x y : Rat} (h : flag x ≠ flag y) : ab y ≤ ab (x - y) := by
  rw [ab_sub_comm]
  exact flag_ne (fun e => h e.symm)
/-- where one of two without a common part changes its flag the other one is great -/
theorem great {p q : Rat → Rat} (hq : Nice q) (hb : Bz p q) (B : Rat) (hB : 0 < B) : ∃ ε δ : Rat, 0 < ε ∧ 0 < δ ∧ ∀ x y, ab x ≤ B → ab y ≤ B → ab (x - y) ≤ ε → flag (q x) ≠ flag (q y) → δ ≤ ab (p x) ∧ δ ≤ ab (p y) := by
  obtain ⟨u, v, hu, hv, e⟩ := hb
  obtain ⟨M, m0, m1, m2⟩ := hu B hB
  obtain ⟨N, n0, n1, n2⟩ := hv B hB
  obtain ⟨K, k0, k1, k2⟩ := hq B hB
  have hNK := Rat.mul_pos n0 k0
  refine ⟨1/(2*(N*K)), 1/(2*M), ?_, ?_, ?_⟩
  · have : 0 < 2 * (N*K) := by grind
    rw [Rat.div_def, Rat.one_mul]
    exact Rat.inv_pos.mpr this
  · have : 0 < 2 * M := by grind
    rw [Rat.div_def, Rat.one_mul]
    exact Rat.inv_pos.mpr this
  · intro x y hx hy hxy hf
    have aux : ∀ z, ab z ≤ B → ab (q z) ≤ ab (q x - q y) → 1/(2*M) ≤ ab (p z) := by
      intro z hz hqz
      have h1 := k2 x y hx hy
      have h2 : K * ab (x - y) ≤ K * (1/(2*(N*K))) := Rat.mul_le_mul_of_nonneg_left hxy (by grind)
      have h3 : ab (v z * q z) ≤ N * (K * (1/(2*(N*K)))) := by
        rw [ab_mul]
        exact mul_mono (n1 z hz) (by grind) (ab_nonneg _) (by grind)
      have h4 : N * (K * (1/(2*(N*K)))) = 1/2 := by grind
      have h5 := e z
      have h6 : ab (u z * p z) ≥ 1/2 := by
        have := le_ab (u z * p z)
        have := le_ab (v z * q z)
        grind
      rw [ab_mul] at h6
      have h7 : ab (u z) * ab (p z) ≤ M * ab (p z) := Rat.mul_le_mul_of_nonneg_right (m1 z hz) (ab_nonneg _)
      have h8 : 1/2 ≤ M * ab (p z) := by grind
      have h9 : (1/M) * (1/2) ≤ (1/M) * (M * ab (p z)) := Rat.mul_le_mul_of_nonneg_left h8 (by
        rw [Rat.div_def, Rat.one_mul]
        exact Rat.le_of_lt (Rat.inv_pos.mpr m0))
      have h10 : (1/M) * (M * ab (p z)) = ab (p z) := by grind
      have h11 : (1/M) * (1/2) = 1/(2*M) := by grind
      grind
    exact ⟨aux x hx (flag_ne hf), aux y hy (flag_ne' hf)⟩
theorem recip_pos {x : Rat} (h : 0 < x) : 0 < 1 / x := by
  rw [Rat.div_def, Rat.one_mul]
  exact Rat.inv_pos.mpr h
/-- a great one keeps its flag within a small cell -/
theorem keeps {p : Rat → Rat} (hp : Nice p) (B δ : Rat) (hB : 0 < B) (hδ : 0 < δ) : ∃ ε : Rat, 0 < ε ∧ ∀ x y, ab x ≤ B → ab y ≤ B → ab (x - y) ≤ ε → δ ≤ ab (p x) → flag (p x) = flag (p y) := by
  obtain ⟨M, m0, m1, m2⟩ := hp B hB
  refine ⟨δ * (1/(2*M)), Rat.mul_pos hδ (recip_pos (by grind)), fun x y hx hy hxy hd => ?_⟩
  apply flag_eq
  have h1 := m2 x y hx hy
  have h2 : M * ab (x - y) ≤ M * (δ * (1/(2*M))) := Rat.mul_le_mul_of_nonneg_left hxy (by grind)
  have h3 : M * (δ * (1/(2*M))) = δ / 2 := by grind
  grind
/-- around a change of the middle one the neighbours keep opposite flags -/
theorem triple {p q r : Rat → Rat} (hp : Nice p) (hq : Nice q) (hb : Bz p q) {s t : Rat} {Q : Rat → Rat} (hs : 0 < s) (ht : 0 < t) (hQ : Nice Q) (h : ∀ x, s * p x = Q x * q x - t * r x) (B : Rat) (hB : 0 < B) :
    ∃ ε : Rat, 0 < ε ∧ ∀ x y, ab x ≤ B → ab y ≤ B → ab (x - y) ≤ ε → flag (q x) ≠ flag (q y) → flag (p x) = flag (p y) ∧ flag (r x) = (!flag (p x)) ∧ flag (r y) = (!flag (p y)) := by
  obtain ⟨ε1, δ, e0, d0, h1⟩ := great hq hb B hB
  obtain ⟨ε2, e20, h2⟩ := keeps hp B δ hB d0
  obtain ⟨M, m0, m1, m2⟩ := hQ B hB
  obtain ⟨K, k0, k1, k2⟩ := hq B hB
  have hMK := Rat.mul_pos m0 k0
  let ε3 : Rat := s * δ * (1/(2*(M*K)))
  have e30 : 0 < ε3 := Rat.mul_pos (Rat.mul_pos hs d0) (recip_pos (by grind))
  let ε : Rat := if ε1 ≤ ε2 then (if ε1 ≤ ε3 then ε1 else ε3) else (if ε2 ≤ ε3 then ε2 else ε3)
  have l1 : ε ≤ ε1 := by show (if ε1 ≤ ε2 then (if ε1 ≤ ε3 then ε1 else ε3) else (if ε2 ≤ ε3 then ε2 else ε3)) ≤ _; clear_value ε3; grind
  have l2 : ε ≤ ε2 := by show (if ε1 ≤ ε2 then (if ε1 ≤ ε3 then ε1 else ε3) else (if ε2 ≤ ε3 then ε2 else ε3)) ≤ _; clear_value ε3; grind
  have l3 : ε ≤ ε3 := by show (if ε1 ≤ ε2 then (if ε1 ≤ ε3 then ε1 else ε3) else (if ε2 ≤ ε3 then ε2 else ε3)) ≤ _; clear_value ε3; grind
  have l0 : 0 < ε := by show 0 < (if ε1 ≤ ε2 then (if ε1 ≤ ε3 then ε1 else ε3) else (if ε2 ≤ ε3 then ε2 else ε3)); clear_value ε3; grind
  refine ⟨ε, l0, fun x y hx hy hxy hf => ?_⟩
  obtain ⟨g1, g2⟩ := h1 x y hx hy (Rat.le_trans hxy l1) hf
  have aux : ∀ z, ab z ≤ B → ab (q z) ≤ ab (q x - q y) → δ ≤ ab (p z) → flag (r z) = (!flag (p z)) := by
    intro z hz hqz hd
    have i1 := k2 x y hx hy
    have i2 : K * ab (x - y) ≤ K * ε3 := Rat.mul_le_mul_of_nonneg_left (Rat.le_trans hxy l3) (by grind)
    have i3 : ab (Q z * q z) ≤ M * (K * ε3) := by
      rw [ab_mul]
      exact mul_mono (m1 z hz) (by clear_value ε3; grind) (ab_nonneg _) (by grind)
    have i4 : M * (K * ε3) = s * δ / 2 := by
      show M * (K * (s * δ * (1/(2*(M*K))))) = s * δ / 2
      grind
    have i5 := h z
    have i6 : s * δ ≤ s * ab (p z) := Rat.mul_le_mul_of_nonneg_left hd (by grind)
    have i7 := le_ab (Q z * q z)
    have i8 := neg_le_ab (Q z * q z)
    have sd := Rat.mul_pos hs d0
    unfold flag
    by_cases hpz : p z < 0
    · have : ab (p z) = -(p z) := if_pos hpz
      rw [this] at i6
      have : 0 < t * r z := by grind
      have hr : 0 < r z := (Rat.mul_pos_iff_of_pos_left ht).mp this
      have : ¬ r z < 0 := by grind
      simp [hpz, this]
    · have : ab (p z) = p z := if_neg hpz
      rw [this] at i6
      have : t * r z < 0 := by grind
      have hr : r z < 0 := by
        apply Rat.not_le.mp
        intro h0
        have := Rat.mul_nonneg (Rat.le_of_lt ht) h0
        grind
      simp [hpz, hr]
  exact ⟨h2 x y hx hy (Rat.le_trans hxy l2) g1, aux x hx (flag_ne hf) g1, aux y hy (flag_ne' hf) g2⟩
end Rf

set_option autoImplicit false
set_option maxHeartbeats 4000000
set_option maxRecDepth 100000
namespace Rf
/-- some width below which it holds of each two points of the span -/
def Fine (B : Rat) (P : Rat → Rat → Prop) : Prop := ∃ ε : Rat, 0 < ε ∧ ∀ x y, ab x ≤ B → ab y ≤ B → ab (x - y) ≤ ε → P x y
theorem Fine.and {B : Rat} {P Q : Rat → Rat → Prop} (h1 : Fine B P) (h2 : Fine B Q) : Fine B fun x y => P x y ∧ Q x y := by
  obtain ⟨a, a0, ha⟩ := h1
  obtain ⟨b, b0, hb⟩ := h2
  refine ⟨if a ≤ b then a else b, by grind, fun x y hx hy hxy => ⟨ha x y hx hy (by grind), hb x y hx hy (by grind)⟩⟩
theorem Fine.imp {B : Rat} {P Q : Rat → Rat → Prop} (h1 : Fine B P) (h : ∀ x y, ab x ≤ B → ab y ≤ B → P x y → Q x y) : Fine B Q := by
  obtain ⟨a, a0, ha⟩ := h1
  exact ⟨a, a0, fun x y hx hy hxy => h x y hx hy (ha x y hx hy hxy)⟩
theorem Fine.of {B : Rat} {P : Rat → Rat → Prop} (h : ∀ x y, P x y) : Fine B P := ⟨1, by decide, fun x y _ _ _ => h x y⟩
theorem chg_two (p q : Rat → Rat) (x : Rat) : chg [p, q] x = if flag (p x) ≠ flag (q x) then 1 else 0 := by
  show (if flag (p x) ≠ flag (q x) then (1 : Int) else 0) + 0 = _
  omega
theorem chg_cons (p q : Rat → Rat) (l : List (Rat → Rat)) (x : Rat) : chg (p :: q :: l) x = (if flag (p x) ≠ flag (q x) then (1 : Int) else 0) + chg (q :: l) x := rfl
theorem unit_keeps {p q : Rat → Rat} (hq : Nice q) (hb : Bz p q) {s : Rat} {Q : Rat → Rat} (hs : 0 < s) (hQ : Nice Q) (h : ∀ x, s * p x = Q x * q x) (B : Rat) (hB : 0 < B) : Fine B fun x y => flag (q x) = flag (q y) := by
  have hb2 : Bz (fun _ => 0) q := by
    obtain ⟨u, v, hu, hv, e⟩ := hb
    refine ⟨fun _ => 0, fun x => (1/s) * (u x * Q x) + v x, nice_const 0, nice_add (nice_mul (nice_const _) (nice_mul hu hQ)) hv, fun x => ?_⟩
    have e1 := e x
    have e2 := h x
    have e3 : p x = (1/s) * (Q x * q x) := by rw [← e2]; grind
    rw [e3] at e1
    show 0 * 0 + ((1/s) * (u x * Q x) + v x) * q x = 1
    grind
  obtain ⟨ε, δ, e0, d0, hg⟩ := great hq hb2 B hB
  refine ⟨ε, e0, fun x y hx hy hxy => ?_⟩
  apply Decidable.byContradiction
  intro hf
  have := (hg x y hx hy hxy hf).1
  have h2 : ab ((fun _ : Rat => (0 : Rat)) x) = 0 := rfl
  rw [h2] at this
  grind
/-- **along a chain nothing changes but where the first one does** -/
theorem still {p q : Rat → Rat} {l : List (Rat → Rat)} (hc : SC p q l) (B : Rat) (hB : 0 < B) : Bz p q → 
    Fine B (fun x y => flag (p x) = flag (p y) → chg (p :: q :: l) x = chg (p :: q :: l) y) ∧ Fine B (fun x y => flag (q x) = flag (q y) → chg (q :: l) x = chg (q :: l) y) := by
  induction hc with
  | last hp hq s Q hs hQ h =>
    intro hb
    refine ⟨(unit_keeps hq hb hs hQ h B hB).imp fun x y _ _ e1 e2 => ?_, Fine.of fun x y _ => rfl⟩
    rw [chg_two, chg_two, e1, e2]
  | @more p q r l hp hq s t Q hs ht hQ h hl ih =>
    intro hb
    obtain ⟨i1, i2⟩ := ih (hb.step hs hQ h)
    refine ⟨((i1.and i2).and (triple hp hq hb hs ht hQ h B hB)).imp fun x y _ _ ⟨⟨j1, j2⟩, j3⟩ e => ?_, i1⟩
    by_cases hq' : flag (q x) = flag (q y)
    · rw [chg_cons p q (r :: l) x, chg_cons p q (r :: l) y, j1 hq', e, hq']
    · obtain ⟨t1, t2, t3⟩ := j3 hq'
      have hr : flag (r x) = flag (r y) := by rw [t2, t3, e]
      rw [chg_cons p q (r :: l) x, chg_cons q r l x, chg_cons p q (r :: l) y, chg_cons q r l y, j2 hr, t2, t3, e]
      clear j1 j2 j3
      revert hq'
      generalize flag (q x) = a
      generalize flag (q y) = b
      generalize flag (p y) = c
      intro hq'
      cases a <;> cases b <;> cases c <;> first | exact absurd rfl hq' | simp
end Rf

set_option autoImplicit false
set_option maxHeartbeats 4000000
set_option maxRecDepth 100000
namespace Rf
theorem nat_above (q : Rat) : ∃ n : Nat, q ≤ (n : Rat) := by
  refine ⟨q.num.natAbs, ?_⟩
  have h := num_eq q
  have hd : (1 : Rat) ≤ (q.den : Rat) := by
    have h1 : 1 ≤ q.den := Nat.one_le_iff_ne_zero.mpr q.den_nz
    have : ((1 : Nat) : Rat) ≤ (q.den : Rat) := by exact_mod_cast h1
    exact this
  have hn : (q.num : Rat) ≤ (q.num.natAbs : Rat) := by
    have : q.num ≤ (q.num.natAbs : Int) := by omega
    have h2 : (q.num : Rat) ≤ ((q.num.natAbs : Int) : Rat) := by exact_mod_cast this
    exact h2
  by_cases hq : q ≤ 0
  · have : (0 : Rat) ≤ (q.num.natAbs : Rat) := by
      have h0 : (0 : Int) ≤ (q.num.natAbs : Int) := by omega
      have : ((0 : Int) : Rat) ≤ ((q.num.natAbs : Int) : Rat) := by exact_mod_cast h0
      exact this
    exact Rat.le_trans hq this
  · have h3 : q * 1 ≤ q * (q.den : Rat) := Rat.mul_le_mul_of_nonneg_left hd (by grind)
    grind
theorem ab_between {x y z B : Rat} (hx : ab x ≤ B) (hy : ab y ≤ B) (h1 : x ≤ z) (h2 : z ≤ y) : ab z ≤ B := by
  have := neg_le_ab x
  have := le_ab y
  apply ab_le <;> grind
/-- **what goes on from cell to cell goes all the way** -/
theorem walk {B : Rat} {R : Rat → Rat → Prop} (hR : Fine B fun x y => x ≤ y → R x y) (hr : ∀ x, R x x) (ht : ∀ x y z, R x y → R y z → R x z) : ∀ x y, ab x ≤ B → ab y ≤ B → x ≤ y → R x y := by
  obtain ⟨ε, e0, hc⟩ := hR
  have h : ∀ (n : Nat) (x y : Rat), ab x ≤ B → ab y ≤ B → x ≤ y → y - x ≤ (n : Rat) * ε → R x y := by
    intro n
    induction n with
    | zero =>
      intro x y hx hy hxy hn
      have hn' : y - x ≤ 0 * ε := hn
      have : x = y := by grind
      rw [this]; exact hr y
    | succ n ih =>
      intro x y hx hy hxy hn
      by_cases hs : y - x ≤ ε
      · apply hc x y hx hy _ hxy
        apply ab_le <;> grind
      · have hz : ab (x + ε) ≤ B := ab_between hx hy (by grind) (by grind)
        apply ht x (x + ε) y
        · apply hc x (x + ε) hx hz _ (by grind)
          apply ab_le <;> grind
        · apply ih (x + ε) y hz hy (by grind)
          have e : ((n + 1 : Nat) : Rat) = (n : Rat) + 1 := by push_cast; rfl
          rw [e] at hn
          grind
  intro x y hx hy hxy
  obtain ⟨n, hn⟩ := nat_above ((y - x) / ε)
  apply h n x y hx hy hxy
  have := Rat.mul_le_mul_of_nonneg_right hn (Rat.le_of_lt e0)
  have e : (y - x) / ε * ε = y - x := by grind
  grind
/-- a slope -/
def Diff (f g : Rat → Rat) : Prop := ∀ B : Rat, 0 < B → ∃ M : Rat, 0 < M ∧ ∀ x y, ab x ≤ B → ab y ≤ B → ab (f y - f x - (y - x) * g x) ≤ M * (ab (y - x) * ab (y - x))
theorem Bz.symm {p q : Rat → Rat} (h : Bz p q) : Bz q p := by
  obtain ⟨u, v, hu, hv, e⟩ := h
  exact ⟨v, u, hv, hu, fun x => by have := e x; grind⟩
/-- **where the first one changes its flag, a chain with its slope loses one change** -/
theorem drop {f g : Rat → Rat} {l : List (Rat → Rat)} (hf : Nice f) (hg : Nice g) (hd : Diff f g) (hc : SC f g l) (hb : Bz f g) (B : Rat) (hB : 0 < B) :
    Fine B fun x y => x ≤ y → (flag (f x) = flag (f y) ∧ chg (f :: g :: l) x = chg (f :: g :: l) y) ∨ (flag (f x) ≠ flag (f y) ∧ chg (f :: g :: l) x = chg (f :: g :: l) y + 1 ∧ flag (f x) = !flag (g x)) := by
  obtain ⟨s1, s2⟩ := still hc B hB hb
  obtain ⟨ε1, δ, e10, d0, hgr⟩ := great hf hb.symm B hB
  obtain ⟨ε2, e20, hk⟩ := keeps hg B δ hB d0
  obtain ⟨M, m0, hM⟩ := hd B hB
  have hbig : Fine B fun x y => flag (f x) ≠ flag (f y) → δ ≤ ab (g x) ∧ flag (g x) = flag (g y) := by
    refine ⟨if ε1 ≤ ε2 then ε1 else ε2, by grind, fun x y hx hy hxy hne => ?_⟩
    have h1 := (hgr x y hx hy (by grind) hne).1
    exact ⟨h1, hk x y hx hy (by grind) h1⟩
  have hsmall : Fine B fun x y => M * ab (x - y) ≤ δ / 2 := by
    refine ⟨δ * (1/(2*M)), Rat.mul_pos d0 (recip_pos (by grind)), fun x y hx hy hxy => ?_⟩
    have h2 : M * ab (x - y) ≤ M * (δ * (1/(2*M))) := Rat.mul_le_mul_of_nonneg_left hxy (by grind)
    have h3 : M * (δ * (1/(2*M))) = δ / 2 := by grind
    grind
  refine ((s1.and s2).and (hbig.and hsmall)).imp fun x y hx hy ⟨⟨j1, j2⟩, ⟨j3, j4⟩⟩ hxy => ?_
  by_cases hfl : flag (f x) = flag (f y)
  · exact .inl ⟨hfl, j1 hfl⟩
  · obtain ⟨k1, k2⟩ := j3 hfl
    have hne : x ≠ y := fun e => hfl (by rw [e])
    have hlt : 0 < y - x := by grind
    have k3 := hM x y hx hy
    have e1 : ab (y - x) = y - x := if_neg (by grind)
    rw [ab_sub_comm, e1] at j4
    rw [e1] at k3
    have k4 : M * ((y - x) * (y - x)) ≤ (δ / 2) * (y - x) := by
      have := Rat.mul_le_mul_of_nonneg_right j4 (Rat.le_of_lt hlt)
      grind
    have k5 := le_ab (f y - f x - (y - x) * g x)
    have k6 := neg_le_ab (f y - f x - (y - x) * g x)
    have k8 : 0 < (y - x) * δ := Rat.mul_pos hlt d0
    right
    by_cases hgx : g x < 0
    · have e2 : ab (g x) = -(g x) := if_pos hgx
      rw [e2] at k1
      have k7 : (y - x) * δ ≤ (y - x) * -(g x) := Rat.mul_le_mul_of_nonneg_left k1 (Rat.le_of_lt hlt)
      have hlt2 : f y < f x := by grind
      have f1 : flag (g x) = true := decide_eq_true hgx
      have f2 : flag (f x) = false := by
        unfold flag at hfl ⊢
        apply decide_eq_false
        intro h
        apply hfl
        rw [decide_eq_true h, decide_eq_true (show f y < 0 by grind)]
      have f3 : flag (f y) = true := by
        rw [f2] at hfl
        cases h : flag (f y) with
        | true => rfl
        | false => rw [h] at hfl; exact absurd rfl hfl
      refine ⟨hfl, ?_, by rw [f1, f2]; rfl⟩
      rw [chg_cons, chg_cons, j2 k2, ← k2, f1, f2, f3]
      simp
      omega
    · have e2 : ab (g x) = g x := if_neg hgx
      rw [e2] at k1
      have k7 : (y - x) * δ ≤ (y - x) * (g x) := Rat.mul_le_mul_of_nonneg_left k1 (Rat.le_of_lt hlt)
      have hlt2 : f x < f y := by grind
      have f1 : flag (g x) = false := decide_eq_false hgx
      have f2 : flag (f x) = true := by
        unfold flag at hfl ⊢
        apply decide_eq_true
        apply Rat.not_le.mp
        intro h
        apply hfl
        rw [decide_eq_false (show ¬ f y < 0 by grind), decide_eq_false (show ¬ f x < 0 by grind)]
      have f3 : flag (f y) = false := by
        rw [f2] at hfl
        cases h : flag (f y) with
        | false => rfl
        | true => rw [h] at hfl; exact absurd rfl hfl
      refine ⟨hfl, ?_, by rw [f1, f2]; rfl⟩
      rw [chg_cons, chg_cons, j2 k2, ← k2, f1, f2, f3]
      simp
      omega
end Rf

set_option autoImplicit false
set_option maxHeartbeats 4000000
set_option maxRecDepth 100000
namespace Rf
/-- along the chain with the slope nothing comes back; where it stands still, so does each other chain -/
theorem same_still {f g h : Rat → Rat} {l m : List (Rat → Rat)} (hf : Nice f) (hg : Nice g) (hd : Diff f g) (hc : SC f g l) (hb : Bz f g) (hc2 : SC f h m) (hb2 : Bz f h) (B : Rat) (hB : 0 < B) {a b : Rat} (ha : ab a ≤ B) (hb' : ab b ≤ B) (hab : a ≤ b) :
    chg (f :: g :: l) b ≤ chg (f :: g :: l) a ∧ (chg (f :: g :: l) b = chg (f :: g :: l) a → chg (f :: h :: m) b = chg (f :: h :: m) a) := by
  apply walk (R := fun a b => chg (f :: g :: l) b ≤ chg (f :: g :: l) a ∧ (chg (f :: g :: l) b = chg (f :: g :: l) a → chg (f :: h :: m) b = chg (f :: h :: m) a)) _ _ _ a b ha hb' hab
  · refine ((drop hf hg hd hc hb B hB).and (still hc2 B hB hb2).1).imp fun x y _ _ ⟨h1, h2⟩ hxy => ?_
    rcases h1 hxy with ⟨h3, h4⟩ | ⟨_, h4, _⟩
    · exact ⟨by omega, fun _ => (h2 h3).symm⟩
    · exact ⟨by omega, fun e => by omega⟩
  · intro x
    exact ⟨Int.le_refl _, fun _ => rfl⟩
  · intro x y z ⟨h1, h2⟩ ⟨h3, h4⟩
    refine ⟨by omega, fun e => ?_⟩
    rw [h4 (by omega), h2 (by omega)]
/-- two chains of one function with the same one behind it, up to that function -/
theorem same_loss {f q q' E : Rat → Rat} {l m : List (Rat → Rat)} (hf : Nice f) (hq : Nice q) (hq' : Nice q') (hE : Nice E) {s t : Rat} (hs : 0 < s) (ht : 0 < t) (he : ∀ x, t * q' x = s * q x + f x * E x) (hc : SC f q l) (hc2 : SC f q' m) (hb : Bz f q) (hb2 : Bz f q') (a b : Rat) :
    chg (f :: q :: l) a - chg (f :: q :: l) b = chg (f :: q' :: m) a - chg (f :: q' :: m) b := by
  -- a span that holds both
  have key : ∀ (B : Rat), 0 < B → ∀ a b, ab a ≤ B → ab b ≤ B → a ≤ b → chg (f :: q :: l) a - chg (f :: q' :: m) a = chg (f :: q :: l) b - chg (f :: q' :: m) b := by
    intro B hB a b ha hb' hab
    apply walk (R := fun a b => chg (f :: q :: l) a - chg (f :: q' :: m) a = chg (f :: q :: l) b - chg (f :: q' :: m) b) _ _ _ a b ha hb' hab
    · obtain ⟨s1, s2⟩ := still hc B hB hb
      obtain ⟨r1, r2⟩ := still hc2 B hB hb2
      obtain ⟨ε1, δ, e10, d0, hgr⟩ := great hf hb.symm B hB
      obtain ⟨ε1', δ', e10', d0', hgr'⟩ := great hf hb2.symm B hB
      obtain ⟨ε2, e20, hk⟩ := keeps hq B δ hB d0
      obtain ⟨ε2', e20', hk'⟩ := keeps hq' B δ' hB d0'
      obtain ⟨M, m0, m1, m2⟩ := hE B hB
      obtain ⟨K, k0, k1, k2⟩ := hf B hB
      have hMK := Rat.mul_pos m0 k0
      have hsd := Rat.mul_pos hs d0
      have hbig : Fine B fun x y => flag (f x) ≠ flag (f y) → δ ≤ ab (q x) ∧ flag (q x) = flag (q y) ∧ flag (q' x) = flag (q' y) ∧ flag (q x) = flag (q' x) := by
        have c1 : Fine B fun x y => flag (f x) ≠ flag (f y) → δ ≤ ab (q x) := ⟨ε1, e10, fun x y hx hy hxy hne => (hgr x y hx hy hxy hne).1⟩
        have c2 : Fine B fun x y => flag (f x) ≠ flag (f y) → δ' ≤ ab (q' x) := ⟨ε1', e10', fun x y hx hy hxy hne => (hgr' x y hx hy hxy hne).1⟩
        have c3 : Fine B fun x y => δ ≤ ab (q x) → flag (q x) = flag (q y) := ⟨ε2, e20, hk⟩
        have c4 : Fine B fun x y => δ' ≤ ab (q' x) → flag (q' x) = flag (q' y) := ⟨ε2', e20', hk'⟩
        have c5 : Fine B fun x y => flag (f x) ≠ flag (f y) → ab (f x * E x) ≤ s * δ / 2 := by
          refine ⟨s * δ * (1/(2*(M*K))), Rat.mul_pos hsd (recip_pos (by grind)), fun x y hx hy hxy hne => ?_⟩
          rw [ab_mul]
          have i1 := k2 x y hx hy
          have i0 := flag_ne hne
          have i2 : K * ab (x - y) ≤ K * (s * δ * (1/(2*(M*K)))) := Rat.mul_le_mul_of_nonneg_left hxy (by grind)
          have i3 := mul_mono (show ab (f x) ≤ K * (s * δ * (1/(2*(M*K)))) by grind) (m1 x hx) (ab_nonneg _) (by
            have := ab_nonneg (f x); grind)
          have i4 : K * (s * δ * (1/(2*(M*K)))) * M = s * δ / 2 := by grind
          grind
        refine (((c1.and c2).and (c3.and c4)).and c5).imp fun x y _ _ ⟨⟨⟨d1, d2⟩, d3, d4⟩, d5⟩ hne => ?_
        have e1 := d1 hne
        refine ⟨e1, d3 e1, d4 (d2 hne), ?_⟩
        have e5 := d5 hne
        have e6 := he x
        have e7 := le_ab (f x * E x)
        have e8 := neg_le_ab (f x * E x)
        have e9 : s * δ ≤ s * ab (q x) := Rat.mul_le_mul_of_nonneg_left e1 (Rat.le_of_lt hs)
        unfold flag
        by_cases hqx : q x < 0
        · have : ab (q x) = -(q x) := if_pos hqx
          rw [this] at e9
          have h1 : t * q' x < 0 := by grind
          have h2 : q' x < 0 := by
            apply Rat.not_le.mp
            intro h0
            have := Rat.mul_nonneg (Rat.le_of_lt ht) h0
            grind
          simp [hqx, h2]
        · have : ab (q x) = q x := if_neg hqx
          rw [this] at e9
          have h1 : 0 < t * q' x := by grind
          have h2 : 0 < q' x := (Rat.mul_pos_iff_of_pos_left ht).mp h1
          have : ¬ q' x < 0 := by grind
          simp [hqx, this]
      refine (((s1.and s2).and (r1.and r2)).and hbig).imp fun x y _ _ ⟨⟨⟨p1, p2⟩, p3, p4⟩, p5⟩ _ => ?_
      by_cases hne : flag (f x) = flag (f y)
      · rw [p1 hne, p3 hne]
      · obtain ⟨_, n1, n2, n3⟩ := p5 hne
        rw [chg_cons, chg_cons, chg_cons, chg_cons, p2 n1, p4 n2, ← n1, ← n2, ← n3]
        omega
    · intro x; rfl
    · intro x y z h1 h2
      exact h1.trans h2
  have h1 := ab_nonneg a
  have h2 := ab_nonneg b
  have hB : 0 < ab a + ab b + 1 := by grind
  rcases (show a ≤ b ∨ b ≤ a from Rat.le_total) with h | h
  · have := key (ab a + ab b + 1) hB a b (by grind) (by grind) h
    omega
  · have := key (ab a + ab b + 1) hB b a (by grind) (by grind) h
    omega
/-- where the first one keeps its flag a chain stands still -/
theorem flag_still {f q : Rat → Rat} {l : List (Rat → Rat)} (hc : SC f q l) (hb : Bz f q) {a b : Rat} (hab : a ≤ b) (c : Bool) (h : ∀ x, a ≤ x → x ≤ b → flag (f x) = c) : chg (f :: q :: l) a = chg (f :: q :: l) b := by
  have h1 := ab_nonneg a
  have h2 := ab_nonneg b
  have hB : 0 < ab a + ab b + 1 := by grind
  have hh := walk (B := ab a + ab b + 1) (R := fun x y => x ≤ y ∧ (a ≤ x → y ≤ b → chg (f :: q :: l) x = chg (f :: q :: l) y)) ?_ ?_ ?_ a b (by grind) (by grind) hab
  · exact hh.2 (by grind) (by grind)
  · refine (still hc _ hB hb).1.imp fun x y _ _ h3 hxy => ⟨hxy, fun hx hy => h3 ?_⟩
    rw [h x hx (by grind), h y (by grind) hy]
  · intro x; exact ⟨by grind, fun _ _ => rfl⟩
  · intro x y z ⟨i1, i2⟩ ⟨i3, i4⟩
    exact ⟨by grind, fun hx hz => (i2 hx (by grind)).trans (i4 (by grind) hz)⟩
/-- **in a small span there is no more than one root** -/
theorem apart {f g W U : Rat → Rat} {l : List (Rat → Rat)} (hf : Nice f) (hg : Nice g) (hU : Nice U) (hd : Diff f g) (hc : SC f g l) (hb : Bz f g) {N : Rat} (hN : 1 ≤ ab N) (he : ∀ x, W x * g x + U x * f x = N) (B : Rat) (hB : 0 < B)
    {Wm Lm : Rat} (hWm : 0 < Wm) (hW : ∀ x, ab x ≤ B → ab (W x) ≤ Wm) (hL : ∀ x y, ab x ≤ B → ab y ≤ B → ab (g x - g y) ≤ Lm * ab (x - y)) (hL0 : 0 < Lm)
    {a b : Rat} (ha : ab a ≤ B) (hb' : ab b ≤ B) (hab : a ≤ b) (hs : (b - a) * (2 * Wm * Lm) < 1) : chg (f :: g :: l) a ≤ chg (f :: g :: l) b + 1 := by
  obtain ⟨M, m0, m1, m2⟩ := hU B hB
  obtain ⟨K, k0, k1, k2⟩ := hf B hB
  have hMK := Rat.mul_pos m0 k0
  have hbig : Fine B fun x y => flag (f x) ≠ flag (f y) → 1/(2*Wm) ≤ ab (g x) := by
    refine ⟨1/(2*(M*K)), recip_pos (by grind), fun x y hx hy hxy hne => ?_⟩
    have i1 := k2 x y hx hy
    have i0 := flag_ne hne
    have i2 : K * ab (x - y) ≤ K * (1/(2*(M*K))) := Rat.mul_le_mul_of_nonneg_left hxy (by grind)
    have i3 : ab (U x * f x) ≤ M * (K * (1/(2*(M*K)))) := by
      rw [ab_mul]
      exact mul_mono (m1 x hx) (by grind) (ab_nonneg _) (by grind)
    have i4 : M * (K * (1/(2*(M*K)))) = 1/2 := by grind
    have i5 := he x
    have i6 : ab N ≤ ab (W x * g x) + ab (U x * f x) := by rw [← i5]; exact ab_add _ _
    have i7 : ab (W x * g x) ≤ Wm * ab (g x) := by
      rw [ab_mul]
      exact Rat.mul_le_mul_of_nonneg_right (hW x hx) (ab_nonneg _)
    have i8 : 1/2 ≤ Wm * ab (g x) := by grind
    have i9 := Rat.mul_le_mul_of_nonneg_left i8 (Rat.le_of_lt (recip_pos hWm))
    have i10 : 1/Wm * (Wm * ab (g x)) = ab (g x) := by grind
    have i11 : 1/Wm * (1/2) = 1/(2*Wm) := by grind
    grind
  have hsame : ∀ x, a ≤ x → x ≤ b → 1/(2*Wm) ≤ ab (g x) → flag (g x) = flag (g a) := by
    intro x hx hxb hgx
    apply flag_eq
    have hxB := ab_between ha hb' hx hxb
    have i1 := hL x a hxB ha
    have e1 : ab (x - a) = x - a := if_neg (by grind)
    rw [e1] at i1
    have i2 : Lm * (x - a) ≤ Lm * (b - a) := Rat.mul_le_mul_of_nonneg_left (by grind) (Rat.le_of_lt hL0)
    have i3 : (Lm * (b - a)) * (2 * Wm) < 1 := by grind
    have i4 : Lm * (b - a) < 1/(2*Wm) := by
      apply Rat.not_le.mp
      intro h
      have i5 := Rat.mul_le_mul_of_nonneg_right h (show 0 ≤ 2 * Wm by grind)
      have i6 : 1/(2*Wm) * (2 * Wm) = 1 := by grind
      grind
    grind
  have hh := walk (B := B) (R := fun x y => x ≤ y ∧ (a ≤ x → y ≤ b → (flag (f x) = flag (f y) ∧ chg (f :: g :: l) x = chg (f :: g :: l) y) ∨ (chg (f :: g :: l) x = chg (f :: g :: l) y + 1 ∧ flag (f x) = !flag (g a) ∧ flag (f y) = flag (g a)))) ?_ ?_ ?_ a b ha hb' hab
  · rcases hh.2 (by grind) (by grind) with ⟨_, h⟩ | ⟨h, _⟩ <;> omega
  · refine ((drop hf hg hd hc hb B hB).and hbig).imp fun x y _ _ ⟨j1, j2⟩ hxy => ⟨hxy, fun hx hy => ?_⟩
    rcases j1 hxy with h | ⟨h1, h2, h3⟩
    · exact .inl h
    · right
      have h4 := hsame x hx (by grind) (j2 h1)
      rw [h4] at h3
      refine ⟨h2, h3, ?_⟩
      rw [h3] at h1
      revert h1
      cases flag (f y) <;> cases flag (g a) <;> simp
  · intro x; exact ⟨by grind, fun _ _ => .inl ⟨rfl, rfl⟩⟩
  · intro x y z ⟨i1, i2⟩ ⟨i3, i4⟩
    refine ⟨by grind, fun hx hz => ?_⟩
    rcases i2 hx (by grind) with ⟨u1, u2⟩ | ⟨u1, u2, u3⟩
    · rcases i4 (by grind) hz with ⟨w1, w2⟩ | ⟨w1, w2, w3⟩
      · exact .inl ⟨u1.trans w1, u2.trans w2⟩
      · exact .inr ⟨u2.trans w1, u1.trans w2, w3⟩
    · rcases i4 (by grind) hz with ⟨w1, w2⟩ | ⟨w1, w2, w3⟩
      · exact .inr ⟨by omega, u2, w1 ▸ u3⟩
      · exfalso
        rw [u3] at w2
        revert w2
        cases flag (g a) <;> simp
end Rf

set_option autoImplicit false
set_option maxHeartbeats 4000000
set_option maxRecDepth 100000
namespace Rf
/-! Polynomials with whole coefficients as functions. -/
def evZ (l : List Int) (x : Rat) : Rat := ev (castL l) x
theorem evZ_nil (x : Rat) : evZ [] x = 0 := rfl
theorem evZ_cons (a : Int) (l : List Int) (x : Rat) : evZ (a :: l) x = (a : Rat) + x * evZ l x := rfl
theorem nice_evZ (l : List Int) : Nice (evZ l) := nice_ev _
theorem evZ_trim (l : List Int) (x : Rat) : evZ (Re02.trim l) x = evZ l x := by
  induction l with
  | nil => rfl
  | cons a l ih =>
    show evZ (if a = 0 ∧ Re02.trim l = [] then [] else a :: Re02.trim l) x = _
    rw [evZ_cons]
    split
    · next h =>
      rw [h.2, evZ_nil] at ih
      rw [← ih, h.1, evZ_nil]
      push_cast
      grind
    · rw [evZ_cons, ih]
theorem evZ_scale (c : Int) (l : List Int) (x : Rat) : evZ (Re02.scale c l) x = (c : Rat) * evZ l x := by
  induction l with
  | nil => show (0 : Rat) = c * 0; grind
  | cons a l ih =>
    show evZ (c * a :: Re02.scale c l) x = _
    rw [evZ_cons, evZ_cons, ih]
    push_cast
    grind
theorem evZ_plus (f g : List Int) (x : Rat) : evZ (Re02.plus f g) x = evZ f x + evZ g x := by
  induction f generalizing g with
  | nil => rw [show Re02.plus [] g = g from by cases g <;> rfl, evZ_nil]; grind
  | cons a f ih =>
    cases g with
    | nil => show evZ (a :: f) x = _; rw [evZ_nil]; grind
    | cons b g =>
      show evZ ((a + b) :: Re02.plus f g) x = _
      rw [evZ_cons, evZ_cons, evZ_cons, ih]
      push_cast
      grind
theorem evZ_shift (m : Nat) (l : List Int) (x : Rat) : evZ (List.replicate m 0 ++ l) x = x ^ m * evZ l x := by
  induction m with
  | zero => show evZ l x = _; rw [Rat.pow_zero]; grind
  | succ m ih =>
    rw [List.replicate_succ, List.cons_append, evZ_cons, ih, Rat.pow_succ]
    push_cast
    grind
theorem evZ_times (f g : List Int) (x : Rat) : evZ (Re02.times f g) x = evZ f x * evZ g x := by
  induction f with
  | nil => show (0 : Rat) = 0 * _; grind
  | cons a f ih =>
    show evZ (Re02.plus (Re02.scale a g) (0 :: Re02.times f g)) x = _
    rw [evZ_plus, evZ_scale, evZ_cons, evZ_cons, ih]
    push_cast
    grind
theorem content_dvd (l : List Int) : ∀ n : Nat, (l.foldl (fun n a => Nat.gcd n a.natAbs) n) ∣ n ∧ ∀ a ∈ l, (((l.foldl (fun n a => Nat.gcd n a.natAbs) n) : Nat) : Int) ∣ a := by
  induction l with
  | nil => intro n; exact ⟨Nat.dvd_refl n, fun a h => by cases h⟩
  | cons b l ih =>
    intro n
    obtain ⟨h1, h2⟩ := ih (Nat.gcd n b.natAbs)
    refine ⟨Nat.dvd_trans h1 (Nat.gcd_dvd_left _ _), fun a ha => ?_⟩
    cases ha with
    | head => exact Int.ofNat_dvd_left.mpr (Nat.dvd_trans h1 (Nat.gcd_dvd_right _ _))
    | tail _ ha => exact h2 a ha
/-- by its content: something above 0 times the plain one is what it was -/
theorem evZ_plain (l : List Int) : ∃ t : Rat, 0 < t ∧ ∀ x, evZ l x = t * evZ (Re02.plain l) x := by
  by_cases h : Re02.content l = 0
  · refine ⟨1, by decide, fun x => ?_⟩
    have e : Re02.plain l = [] := if_pos h
    rw [e, evZ_nil]
    have h2 := (content_dvd l 0).2
    have h3 : ∀ a ∈ l, a = 0 := fun a ha => by
      have := h2 a ha
      rw [show (l.foldl (fun n a => Nat.gcd n a.natAbs) 0) = 0 from h] at this
      simpa using this
    have h4 : ∀ m : List Int, (∀ a ∈ m, a = 0) → evZ m x = 0 := by
      intro m
      induction m with
      | nil => intro _; rfl
      | cons b m ih =>
        intro hm
        rw [evZ_cons, hm b (List.mem_cons_self ..), ih (fun a ha => hm a (List.mem_cons_of_mem _ ha))]
        push_cast
        grind
    rw [h4 l h3]
    grind
  · refine ⟨(Re02.content l : Rat), ?_, fun x => ?_⟩
    · have : 0 < Re02.content l := Nat.pos_of_ne_zero h
      have h2 : ((0 : Nat) : Rat) < (Re02.content l : Rat) := by exact_mod_cast this
      exact h2
    · have e : Re02.plain l = l.map fun a => a / (Re02.content l : Int) := if_neg h
      rw [e]
      have h2 := (content_dvd l 0).2
      have h4 : ∀ m : List Int, (∀ a ∈ m, (Re02.content l : Int) ∣ a) → evZ m x = (Re02.content l : Rat) * evZ (m.map fun a => a / (Re02.content l : Int)) x := by
        intro m
        induction m with
        | nil => intro _; show (0 : Rat) = _ * 0; grind
        | cons b m ih =>
          intro hm
          rw [evZ_cons, List.map_cons, evZ_cons, ih (fun a ha => hm a (List.mem_cons_of_mem _ ha))]
          obtain ⟨c, hc⟩ := hm b (List.mem_cons_self ..)
          have : b / (Re02.content l : Int) = c := by
            rw [hc]
            exact Int.mul_ediv_cancel_left c (by omega)
          rw [this, hc]
          push_cast
          grind
      exact h4 l h2
/-! lengths -/
theorem trim_length (l : List Int) : (Re02.trim l).length ≤ l.length := by
  induction l with
  | nil => exact Nat.le_refl 0
  | cons a l ih =>
    show (if a = 0 ∧ Re02.trim l = [] then [] else a :: Re02.trim l).length ≤ _
    split
    · simp
    · simp; exact ih
/-- trimmed: the last one isn't 0 -/
def Trim (l : List Int) : Prop := ∀ h : l ≠ [], l.getLast h ≠ 0
theorem trim_trim (l : List Int) : Trim (Re02.trim l) := by
  induction l with
  | nil => intro h; exact absurd rfl h
  | cons a l ih =>
    show Trim (if a = 0 ∧ Re02.trim l = [] then [] else a :: Re02.trim l)
    split
    · intro h; exact absurd rfl h
    · next hn =>
      intro h
      by_cases hl : Re02.trim l = []
      · have ha : a ≠ 0 := fun e => hn ⟨e, hl⟩
        simp [hl, ha]
      · rw [List.getLast_cons hl]
        exact ih hl
theorem trim_last_zero {l : List Int} (h : l ≠ []) (h0 : l.getLast h = 0) : (Re02.trim l).length < l.length := by
  induction l with
  | nil => exact absurd rfl h
  | cons a l ih =>
    show (if a = 0 ∧ Re02.trim l = [] then [] else a :: Re02.trim l).length < _
    by_cases hl : l = []
    · subst hl
      have : a = 0 := h0
      rw [if_pos ⟨this, rfl⟩]
      simp
    · rw [List.getLast_cons hl] at h0
      have := ih hl h0
      split
      · simp
      · simp; exact this
theorem lead_eq {l : List Int} (h : l ≠ []) : Re02.lead l = l.getLast h := by
  unfold Re02.lead
  rw [List.getLastD_eq_getLast?, List.getLast?_eq_some_getLast h]
  rfl
end Rf

set_option autoImplicit false
set_option maxHeartbeats 4000000
set_option maxRecDepth 100000
namespace Rf
/-! Functions that are polynomials; what is of a lower degree is no multiple. -/
def addL : L → L → L
  | [], g => g
  | f, [] => f
  | a :: f, b :: g => (a + b) :: addL f g
theorem ev_addL (f g : L) (x : Rat) : ev (addL f g) x = ev f x + ev g x := by
  induction f generalizing g with
  | nil => rw [show addL [] g = g from by cases g <;> rfl, ev_nil]; grind
  | cons a f ih =>
    cases g with
    | nil => show ev (a :: f) x = _; rw [ev_nil]; grind
    | cons b g =>
      show ev ((a + b) :: addL f g) x = _
      rw [ev_cons, ev_cons, ev_cons, ih]
      grind
theorem ev_scaleR (c : Rat) (l : L) (x : Rat) : ev (scaleR c l) x = c * ev l x := by
  induction l with
  | nil => show (0 : Rat) = c * 0; grind
  | cons a l ih =>
    show ev (c * a :: scaleR c l) x = _
    rw [ev_cons, ev_cons, ih]
    grind
def mulL : L → L → L
  | [], _ => []
  | a :: f, g => addL (scaleR a g) (0 :: mulL f g)
theorem ev_mulL (f g : L) (x : Rat) : ev (mulL f g) x = ev f x * ev g x := by
  induction f with
  | nil => show (0 : Rat) = 0 * _; grind
  | cons a f ih =>
    show ev (addL (scaleR a g) (0 :: mulL f g)) x = _
    rw [ev_addL, ev_scaleR, ev_cons, ev_cons, ih]
    grind
def PolyF (g : Rat → Rat) : Prop := ∃ l : L, ∀ x, g x = ev l x
theorem PolyF.nice {g : Rat → Rat} (h : PolyF g) : Nice g := by
  obtain ⟨l, hl⟩ := h
  have : g = ev l := funext hl
  rw [this]; exact nice_ev l
theorem poly_const (c : Rat) : PolyF fun _ => c := ⟨[c], fun x => by rw [ev_cons, ev_nil]; grind⟩
theorem poly_id : PolyF fun x => x := ⟨[0, 1], fun x => by rw [ev_cons, ev_cons, ev_nil]; grind⟩
theorem poly_add {g h : Rat → Rat} (hg : PolyF g) (hh : PolyF h) : PolyF fun x => g x + h x := by
  obtain ⟨l, hl⟩ := hg
  obtain ⟨m, hm⟩ := hh
  exact ⟨addL l m, fun x => by rw [ev_addL, ← hl, ← hm]⟩
theorem poly_mul {g h : Rat → Rat} (hg : PolyF g) (hh : PolyF h) : PolyF fun x => g x * h x := by
  obtain ⟨l, hl⟩ := hg
  obtain ⟨m, hm⟩ := hh
  exact ⟨mulL l m, fun x => by rw [ev_mulL, ← hl, ← hm]⟩
theorem poly_sub {g h : Rat → Rat} (hg : PolyF g) (hh : PolyF h) : PolyF fun x => g x - h x := by
  have h2 := poly_add hg (poly_mul (poly_const (-1)) hh)
  have e : (fun x => g x + (-1) * h x) = fun x => g x - h x := by funext x; grind
  rw [← e]; exact h2
theorem poly_evZ (l : List Int) : PolyF (evZ l) := ⟨castL l, fun _ => rfl⟩
theorem poly_pow (m : Nat) : PolyF fun x => x ^ m := by
  induction m with
  | zero => 
    have e : (fun x : Rat => x ^ 0) = fun _ => 1 := by funext x; exact Rat.pow_zero x
    rw [e]; exact poly_const 1
  | succ m ih =>
    have e : (fun x : Rat => x ^ (m + 1)) = fun x => x ^ m * x := by funext x; exact Rat.pow_succ ..
    rw [e]; exact poly_mul ih poly_id
/-- one that has a coefficient grows, or stays, far out -/
theorem grows (l : L) (h : ∃ a ∈ l, a ≠ 0) : ∃ X δ : Rat, 1 ≤ X ∧ 0 < δ ∧ ∀ x, X ≤ x → δ ≤ ab (ev l x) := by
  induction l with
  | nil => obtain ⟨a, h1, _⟩ := h; cases h1
  | cons b l ih =>
    by_cases hl : ∃ a ∈ l, a ≠ 0
    · obtain ⟨X, δ, hX, hδ, hg⟩ := ih hl
      have hb := ab_nonneg b
      let Y : Rat := (ab b + 1) / δ
      refine ⟨if X ≤ Y then Y else X, 1, by clear_value Y; grind, by decide, fun x hx => ?_⟩
      have hx1 : X ≤ x := by clear_value Y; grind
      have hx2 : Y ≤ x := by clear_value Y; grind
      have h1 := hg x hx1
      have h2 : Y * δ ≤ x * δ := Rat.mul_le_mul_of_nonneg_right hx2 (Rat.le_of_lt hδ)
      have h3 : Y * δ = ab b + 1 := by show (ab b + 1) / δ * δ = _; grind
      have h4 : x * δ ≤ x * ab (ev l x) := Rat.mul_le_mul_of_nonneg_left h1 (by grind)
      have h5 : ab x = x := if_neg (by grind)
      have h6 : ab (x * ev l x) = x * ab (ev l x) := by rw [ab_mul, h5]
      rw [ev_cons]
      have h7 := ab_sub (b + x * ev l x) b
      have h8 : b + x * ev l x - b = x * ev l x := by grind
      rw [h8, h6] at h7
      clear_value Y
      grind
    · have hz : ∀ a ∈ l, a = 0 := fun a ha => Decidable.byContradiction fun hn => hl ⟨a, ha, hn⟩
      have hb : b ≠ 0 := by
        obtain ⟨a, h1, h2⟩ := h
        cases h1 with
        | head => exact h2
        | tail _ h1 => exact absurd (hz a h1) h2
      refine ⟨1, ab b, by decide, ab_pos hb, fun x _ => ?_⟩
      have h4 : ∀ m : L, (∀ a ∈ m, a = 0) → ev m x = 0 := by
        intro m
        induction m with
        | nil => intro _; rfl
        | cons c m ih =>
          intro hm
          rw [ev_cons, hm c (List.mem_cons_self ..), ih (fun a ha => hm a (List.mem_cons_of_mem _ ha))]
          grind
      rw [ev_cons, h4 l hz]
      have : b + x * 0 = b := by grind
      rw [this]
      exact Rat.le_refl
theorem ev_zero_all {l : L} (h : ∀ a ∈ l, a = 0) (x : Rat) : ev l x = 0 := by
  induction l with
  | nil => rfl
  | cons c m ih =>
    rw [ev_cons, h c (List.mem_cons_self ..), ih (fun a ha => h a (List.mem_cons_of_mem _ ha))]
    grind
theorem vanish {l : L} (h : ∀ x, ev l x = 0) : ∀ a ∈ l, a = 0 := by
  intro a ha
  apply Decidable.byContradiction
  intro hn
  obtain ⟨X, δ, hX, hδ, hg⟩ := grows l ⟨a, ha, hn⟩
  have := hg X Rat.le_refl
  rw [h X, ab_zero] at this
  grind
theorem one_le_pow {x : Rat} (h : 1 ≤ x) (m : Nat) : 1 ≤ x ^ m := by
  induction m with
  | zero => rw [Rat.pow_zero]; exact Rat.le_refl
  | succ m ih =>
    rw [Rat.pow_succ]
    have := mul_mono ih h (by grind) (by grind)
    grind
theorem pow_add' (x : Rat) (m n : Nat) : x ^ (m + n) = x ^ m * x ^ n := by
  induction n with
  | zero => rw [Nat.add_zero, Rat.pow_zero]; grind
  | succ n ih => rw [← Nat.add_assoc, Rat.pow_succ, Rat.pow_succ, ih]; grind
theorem slow (l : L) : ∃ C : Rat, 0 ≤ C ∧ ∀ x, 1 ≤ x → ab (ev l x) * x ≤ C * x ^ l.length := by
  induction l with
  | nil => exact ⟨0, Rat.le_refl, fun x _ => by rw [ev_nil, ab_zero]; grind⟩
  | cons b l ih =>
    obtain ⟨C, hC, h⟩ := ih
    have hb := ab_nonneg b
    refine ⟨ab b + C, by grind, fun x hx => ?_⟩
    have h1 := h x hx
    have h2 := one_le_pow hx l.length
    rw [ev_cons, List.length_cons, Rat.pow_succ]
    have h3 := ab_add b (x * ev l x)
    have h5 : ab x = x := if_neg (by grind)
    rw [ab_mul, h5] at h3
    have h6 := Rat.mul_le_mul_of_nonneg_right h3 (show 0 ≤ x by grind)
    have h7 := Rat.mul_le_mul_of_nonneg_right h1 (show 0 ≤ x by grind)
    have h8 : ab b * x * 1 ≤ ab b * x * x ^ l.length := Rat.mul_le_mul_of_nonneg_left h2 (Rat.mul_nonneg hb (by grind))
    grind
theorem evZ_append_one (k : List Int) (x : Rat) : evZ (k ++ [1]) x = evZ k x + x ^ k.length := by
  induction k with
  | nil => 
    rw [List.nil_append, evZ_cons, evZ_nil, List.length_nil, Rat.pow_zero]
    push_cast
    grind
  | cons a k ih =>
    rw [List.cons_append, evZ_cons, evZ_cons, ih, List.length_cons, Rat.pow_succ]
    grind
/-- **what is of a lower degree is no multiple** -/
theorem no_multiple {k : List Int} {P : Rat → Rat} (hP : PolyF P) {R : L} (hl : R.length ≤ k.length) (h : ∀ x, P x * evZ (k ++ [1]) x = ev R x) : ∀ x, ev R x = 0 := by
  obtain ⟨l, hP⟩ := hP
  by_cases hz : ∃ a ∈ l, a ≠ 0
  · exfalso
    obtain ⟨X, δ, hX, hδ, hg⟩ := grows l hz
    obtain ⟨C, hC, hs⟩ := slow (castL k)
    obtain ⟨D, hD, hr⟩ := slow R
    -- far out f is half of its highest power at least
    let x : Rat := X + 2 * C + 2 * D / δ + 1
    have hDδ : 0 ≤ 2 * D / δ := by
      rw [Rat.div_def]
      exact Rat.mul_nonneg (by grind) (Rat.le_of_lt (Rat.inv_pos.mpr hδ))
    have hx1 : X ≤ x := by show X ≤ X + 2 * C + 2 * D / δ + 1; grind
    have hx2 : 1 ≤ x := by grind
    have hx3 : 2 * C ≤ x := by show 2 * C ≤ X + 2 * C + 2 * D / δ + 1; grind
    have hx4 : 2 * D / δ + 1 ≤ x := by show 2 * D / δ + 1 ≤ X + 2 * C + 2 * D / δ + 1; grind
    clear_value x
    have hp := one_le_pow hx2 k.length
    have h1 := hs x hx2
    rw [castL_length] at h1
    have h2 := hr x hx2
    have h3 := hg x hx1
    have h4 := h x
    rw [hP, evZ_append_one] at h4
    -- the lower part
    have h5 : ab (evZ k x) * x ≤ x ^ k.length / 2 * x := by
      have := Rat.mul_le_mul_of_nonneg_right hx3 (show 0 ≤ x ^ k.length / 2 by grind)
      have e : ab (evZ k x) = ab (ev (castL k) x) := rfl
      rw [e]
      grind
    have h6 : ab (evZ k x) ≤ x ^ k.length / 2 := by
      apply Rat.not_lt.mp
      intro hh
      have := Rat.mul_lt_mul_of_pos_right hh (show 0 < x by grind)
      grind
    have h7 : x ^ k.length / 2 ≤ ab (evZ k x + x ^ k.length) := by
      have i1 := neg_le_ab (evZ k x)
      have i2 := le_ab (evZ k x + x ^ k.length)
      grind
    have h8 : ab (ev R x) = ab (ev l x) * ab (evZ k x + x ^ k.length) := by rw [← h4, ab_mul]
    have h9 : δ * (x ^ k.length / 2) ≤ ab (ev R x) := by
      rw [h8]
      exact mul_mono h3 h7 (by grind) (ab_nonneg _)
    have h10 : x ^ R.length ≤ x ^ k.length := by
      obtain ⟨d, hd⟩ := Nat.exists_eq_add_of_le hl
      have i1 := one_le_pow hx2 d
      have i2 := one_le_pow hx2 R.length
      have e : x ^ k.length = x ^ R.length * x ^ d := by
        rw [hd, pow_add']
      rw [e]
      have := Rat.mul_le_mul_of_nonneg_left i1 (show 0 ≤ x ^ R.length by grind)
      grind
    have h11 : δ * (x ^ k.length / 2) * x ≤ D * x ^ k.length := by
      have i1 := Rat.mul_le_mul_of_nonneg_right h9 (show 0 ≤ x by grind)
      have i2 := Rat.mul_le_mul_of_nonneg_left h10 hD
      grind
    have h12 : (2 * D / δ + 1) * (δ * (x ^ k.length / 2)) ≤ x * (δ * (x ^ k.length / 2)) := Rat.mul_le_mul_of_nonneg_right hx4 (Rat.mul_nonneg (Rat.le_of_lt hδ) (by grind))
    have h13 : (2 * D / δ + 1) * (δ * (x ^ k.length / 2)) = D * x ^ k.length + δ * (x ^ k.length / 2) := by grind
    have h14 := Rat.mul_pos hδ (show 0 < x ^ k.length / 2 by grind)
    grind
  · intro x
    have hz' : ∀ a ∈ l, a = 0 := fun a ha => Decidable.byContradiction fun hn => hz ⟨a, ha, hn⟩
    rw [← h x, hP, ev_zero_all hz']
    grind
end Rf

set_option autoImplicit false
set_option maxHeartbeats 4000000
set_option maxRecDepth 100000
namespace Rf
/-! Rests of divisions; the chains made of them. -/
/-- what a rest has to keep -/
structure RestOk (f g r : List Int) : Prop where
  short : r.length < g.length
  trim : Trim f → Trim r
  eq : ∃ (s t : Rat) (Q : Rat → Rat), 0 < s ∧ 0 < t ∧ PolyF Q ∧ ∀ x, s * evZ f x = Q x * evZ g x + t * evZ r x
theorem evZ_head_zero (l : List Int) : evZ (0 :: l) = fun x => x * evZ l x := by
  funext x; rw [evZ_cons]; push_cast; grind
theorem last_plus {f g : List Int} (h : f.length = g.length) (hf : f ≠ []) (hg : g ≠ []) : ∃ hn : Re02.plus f g ≠ [], (Re02.plus f g).getLast hn = f.getLast hf + g.getLast hg ∧ (Re02.plus f g).length = f.length := by
  induction f generalizing g with
  | nil => exact absurd rfl hf
  | cons a f ih =>
    cases g with
    | nil => exact absurd rfl hg
    | cons b g =>
      refine ⟨by simp [Re02.plus], ?_⟩
      by_cases h1 : f = []
      · subst h1
        have : g = [] := by simpa using h.symm
        subst this
        exact ⟨rfl, rfl⟩
      · have h2 : g ≠ [] := by
          intro e; subst e
          simp at h
          exact h1 h
        obtain ⟨hn, e1, e2⟩ := ih (g := g) (by simpa using h) h1 h2
        refine ⟨?_, by show (Re02.plus f g).length + 1 = f.length + 1; rw [e2]⟩
        show ((a + b) :: Re02.plus f g).getLast _ = _
        rw [List.getLast_cons hn, e1, List.getLast_cons h1, List.getLast_cons h2]
theorem plain_length (l : List Int) : (Re02.plain l).length ≤ l.length := by
  unfold Re02.plain
  split <;> simp
theorem plain_trim {l : List Int} (h : Trim l) : Trim (Re02.plain l) := by
  unfold Re02.plain
  split
  · intro h; exact absurd rfl h
  · next hc =>
    intro hn
    have hl : l ≠ [] := by intro e; subst e; exact hn rfl
    have h1 := h hl
    rw [List.getLast_map]
    have hd := (content_dvd l 0).2 (l.getLast hl) (List.getLast_mem hl)
    obtain ⟨c, hc2⟩ := hd
    intro h2
    apply h1
    have e : (l.foldl (fun n a => Nat.gcd n a.natAbs) 0) = Re02.content l := rfl
    rw [e] at hc2
    have h3 : l.getLast hl / (Re02.content l : Int) = c := by
      rw [hc2]
      exact Int.mul_ediv_cancel_left c (by omega)
    rw [h3] at h2
    rw [hc2, h2, Int.mul_zero]
/-- the specification's rest -/
theorem rest_ok : ∀ (n : Nat) (f g : List Int), f.length ≤ n → g ≠ [] → Trim g → RestOk f g (Re02.rest n f g)
  | 0, f, g, hn, hg, _ => by
    have e : f = [] := by simpa using hn
    subst e
    refine ⟨?_, fun h => h, 1, 1, fun _ => 0, by decide, by decide, poly_const 0, fun x => ?_⟩
    · show (0 : Nat) < g.length
      cases g with
      | nil => exact absurd rfl hg
      | cons _ _ => simp
    · show 1 * (0 : Rat) = 0 * _ + 1 * 0
      grind
  | n + 1, f, g, hn, hg, ht => by
    by_cases hs : f.length < g.length
    · have e : Re02.rest (n + 1) f g = f := if_pos (.inl hs)
      rw [e]
      exact ⟨hs, fun h => h, 1, 1, fun _ => 0, by decide, by decide, poly_const 0, fun x => by grind⟩
    · have e : Re02.rest (n + 1) f g = Re02.rest n (Re02.plain (Re02.trim (Re02.plus (Re02.scale (Re02.lead g).natAbs f) (Re02.scale (-1) (List.replicate (f.length - g.length) 0 ++ Re02.scale (if 0 < Re02.lead g then Re02.lead f else 0 - Re02.lead f) g))))) g := if_neg (fun h => h.elim hs hg)
      have hf : f ≠ [] := by
        intro e2; subst e2
        apply hs
        cases g with
        | nil => exact absurd rfl hg
        | cons _ _ => simp
      have hlg := ht hg
      rw [← lead_eq hg] at hlg
      generalize hc : (if 0 < Re02.lead g then Re02.lead f else 0 - Re02.lead f) = c at e
      have l1 : (Re02.scale ((Re02.lead g).natAbs : Int) f) ≠ [] := by simpa [Re02.scale] using hf
      have l2 : (Re02.scale (-1) (List.replicate (f.length - g.length) 0 ++ Re02.scale c g)) ≠ [] := by simp [Re02.scale, hg]
      have l3 : (Re02.scale ((Re02.lead g).natAbs : Int) f).length = (Re02.scale (-1) (List.replicate (f.length - g.length) 0 ++ Re02.scale c g)).length := by simp [Re02.scale]; omega
      obtain ⟨p1, p2, p3⟩ := last_plus l3 l1 l2
      have a1 : (Re02.scale ((Re02.lead g).natAbs : Int) f).getLast l1 = ((Re02.lead g).natAbs : Int) * Re02.lead f := by
        rw [lead_eq hf]
        exact List.getLast_map l1
      have a2 : (Re02.scale (-1) (List.replicate (f.length - g.length) 0 ++ Re02.scale c g)).getLast l2 = -(c * Re02.lead g) := by
        have h1 : (List.replicate (f.length - g.length) 0 ++ Re02.scale c g) ≠ [] := by simp [Re02.scale, hg]
        have h2 : (Re02.scale c g) ≠ [] := by simpa [Re02.scale] using hg
        have h3 : (Re02.scale (-1) (List.replicate (f.length - g.length) 0 ++ Re02.scale c g)).getLast l2 = -1 * (List.replicate (f.length - g.length) 0 ++ Re02.scale c g).getLast h1 := List.getLast_map l2
        rw [h3, List.getLast_append_of_ne_nil _ h2]
        have h4 : (Re02.scale c g).getLast h2 = c * g.getLast hg := List.getLast_map h2
        rw [h4, lead_eq hg]
        omega
      have hz : (Re02.plus (Re02.scale ((Re02.lead g).natAbs : Int) f) (Re02.scale (-1) (List.replicate (f.length - g.length) 0 ++ Re02.scale c g))).getLast p1 = 0 := by
        rw [p2, a1, a2, ← hc]
        split
        · next h => 
          have : ((Re02.lead g).natAbs : Int) = Re02.lead g := by omega
          rw [this, Int.mul_comm]; omega
        · next h =>
          have : ((Re02.lead g).natAbs : Int) = -Re02.lead g := by omega
          rw [this, Int.sub_mul, Int.mul_comm (Re02.lead f)]
          rw [Int.neg_mul]
          omega
      have hlt := trim_last_zero p1 hz
      rw [p3] at hlt
      have hlf : (Re02.scale ((Re02.lead g).natAbs : Int) f).length = f.length := by simp [Re02.scale]
      rw [hlf] at hlt
      generalize hF : Re02.plus (Re02.scale ((Re02.lead g).natAbs : Int) f) (Re02.scale (-1) (List.replicate (f.length - g.length) 0 ++ Re02.scale c g)) = F at *
      have hpl := plain_length (Re02.trim F)
      have ih := rest_ok n (Re02.plain (Re02.trim F)) g (by omega) hg ht
      rw [e]
      refine ⟨ih.short, fun _ => ih.trim (plain_trim (trim_trim _)), ?_⟩
      obtain ⟨s, t, Q, hs0, ht0, hQ, heq⟩ := ih.eq
      obtain ⟨u, hu, hpe⟩ := evZ_plain (Re02.trim F)
      have hna : (0 : Rat) < ((Re02.lead g).natAbs : Rat) := by
        have : 0 < (Re02.lead g).natAbs := by omega
        have h2 : ((0 : Nat) : Rat) < ((Re02.lead g).natAbs : Rat) := by exact_mod_cast this
        exact h2
      refine ⟨s * ((Re02.lead g).natAbs : Rat), u * t, fun x => u * Q x + s * ((c : Rat) * x ^ (f.length - g.length)), Rat.mul_pos hs0 hna, Rat.mul_pos hu ht0, poly_add (poly_mul (poly_const u) hQ) (poly_mul (poly_const s) (poly_mul (poly_const _) (poly_pow _))), fun x => ?_⟩
      have h1 := heq x
      have h2 := hpe x
      rw [evZ_trim, ← hF, evZ_plus, evZ_scale, evZ_scale, evZ_shift, evZ_scale] at h2
      have e3 : (((Re02.lead g).natAbs : Int) : Rat) = ((Re02.lead g).natAbs : Rat) := rfl
      rw [e3] at h2
      push_cast at h2
      grind
/-- a chain by a way of taking rests -/
def chainG (R : List Int → List Int → List Int) : Nat → List Int → List Int → List (List Int)
  | 0, f, _ => [f]
  | n + 1, f, g => if g = [] then [f] else f :: chainG R n g (Re02.scale (-1) (R f g))
theorem chainFrom_is : ∀ (n : Nat) (f g : List Int), Re02.chainFrom n f g = chainG (fun f g => Re02.rest f.length f g) n f g
  | 0, _, _ => rfl
  | n + 1, f, g => by
    show (if g = [] then [f] else f :: Re02.chainFrom n g (Re02.scale (-1) (Re02.rest f.length f g))) = (if g = [] then [f] else f :: chainG _ n g _)
    rw [chainFrom_is n]
theorem trim_neg {l : List Int} (h : Trim l) : Trim (Re02.scale (-1) l) := by
  intro hn
  have hl : l ≠ [] := by intro e; subst e; exact hn rfl
  have e : (Re02.scale (-1) l).getLast hn = -1 * l.getLast hl := List.getLast_map hn
  rw [e]
  have := h hl
  omega
theorem chain_ok {R : List Int → List Int → List Int} (hR : ∀ f g, g ≠ [] → Trim g → RestOk f g (R f g)) : ∀ (n : Nat) (f g : List Int), g ≠ [] → Trim f → Trim g → g.length + 1 ≤ n → ∃ l, chainG R n f g = f :: g :: l ∧ SC (evZ f) (evZ g) (l.map evZ) ∧ ∀ h ∈ l, h ≠ [] ∧ Trim h
  | 0, _, _, _, _, _, h => by omega
  | n + 1, f, g, hg, hf, ht, hn => by
    have ok := hR f g hg ht
    obtain ⟨s, t, Q, hs, ht0, hQ, he⟩ := ok.eq
    have e : chainG R (n + 1) f g = f :: chainG R n g (Re02.scale (-1) (R f g)) := if_neg hg
    have hlen : (Re02.scale (-1) (R f g)).length = (R f g).length := by simp [Re02.scale]
    have hsh := ok.short
    by_cases hr : Re02.scale (-1) (R f g) = []
    · have e2 : chainG R n g (Re02.scale (-1) (R f g)) = [g] := by
        rw [hr]
        cases n with
        | zero => rfl
        | succ n => exact if_pos rfl
      refine ⟨[], by rw [e, e2], .last (nice_evZ f) (nice_evZ g) s Q hs hQ.nice fun x => ?_, fun h hh => by cases hh⟩
      have h2 : evZ (R f g) x = 0 := by
        have : R f g = [] := by simpa [Re02.scale] using hr
        rw [this]; rfl
      have := he x
      grind
    · obtain ⟨l, e2, hsc, hl⟩ := chain_ok hR n g (Re02.scale (-1) (R f g)) hr ht (trim_neg (ok.trim hf)) (by omega)
      refine ⟨Re02.scale (-1) (R f g) :: l, by rw [e, e2], .more (nice_evZ f) (nice_evZ g) s t Q hs ht0 hQ.nice (fun x => ?_) hsc, fun h hh => ?_⟩
      · rw [evZ_scale]
        have := he x
        push_cast
        grind
      · cases hh with
        | head => exact ⟨hr, trim_neg (ok.trim hf)⟩
        | tail _ hh => exact hl h hh
end Rf

set_option autoImplicit false
set_option maxHeartbeats 4000000
set_option maxRecDepth 100000
namespace Rf
/-! The program's way of taking rests. -/
def sgnP (d : List Int) : Int := if 0 < Re02.lead d then 1 else -1
def stepP (r d : List Int) : List Int :=
  Re02.trim ((r.zip (List.replicate (r.length - d.length) 0 ++ d)).map fun x => ((Re02.lead d).natAbs : Int) * x.1 - sgnP d * Re02.lead r * x.2)
def restP : Nat → List Int → List Int → List Int
  | 0, r, _ => r
  | n + 1, r, d => if r.length < d.length then r else restP n (stepP r d) d
theorem zip_last {r e : List Int} (h : r.length = e.length) (hr : r ≠ []) (he : e ≠ []) (a b : Int) : ∃ hn : ((r.zip e).map fun x => a * x.1 - b * x.2) ≠ [], ((r.zip e).map fun x => a * x.1 - b * x.2).getLast hn = a * r.getLast hr - b * e.getLast he := by
  induction r generalizing e with
  | nil => exact absurd rfl hr
  | cons x r ih =>
    cases e with
    | nil => exact absurd rfl he
    | cons y e =>
      refine ⟨by simp, ?_⟩
      by_cases h1 : r = []
      · subst h1
        have : e = [] := by simpa using h.symm
        subst this
        rfl
      · have h2 : e ≠ [] := by
          intro q; subst q
          simp at h
          exact h1 h
        obtain ⟨hn, e1⟩ := ih (e := e) (by simpa using h) h1 h2
        show ((a * x - b * y) :: (r.zip e).map fun x => a * x.1 - b * x.2).getLast _ = _
        rw [List.getLast_cons hn, e1, List.getLast_cons h1, List.getLast_cons h2]
theorem evZ_zip {r e : List Int} (h : r.length = e.length) (a b : Int) (x : Rat) : evZ ((r.zip e).map fun x => a * x.1 - b * x.2) x = (a : Rat) * evZ r x - (b : Rat) * evZ e x := by
  induction r generalizing e with
  | nil =>
    have : e = [] := by simpa using h.symm
    subst this
    show (0 : Rat) = a * 0 - b * 0
    grind
  | cons y r ih =>
    cases e with
    | nil => simp at h
    | cons z e =>
      show evZ ((a * y - b * z) :: (r.zip e).map fun x => a * x.1 - b * x.2) x = _
      rw [evZ_cons, evZ_cons, evZ_cons, ih (by simpa using h)]
      push_cast
      grind
theorem stepP_short {r d : List Int} (hd : d ≠ []) (hs : d.length ≤ r.length) : (stepP r d).length < r.length := by
  have hr : r ≠ [] := by
    intro e; subst e
    cases d with
    | nil => exact hd rfl
    | cons _ _ => simp at hs
  have hl : r.length = (List.replicate (r.length - d.length) 0 ++ d).length := by simp; omega
  have he : (List.replicate (r.length - d.length) 0 ++ d) ≠ [] := by simp [hd]
  obtain ⟨hn, e⟩ := zip_last hl hr he ((Re02.lead d).natAbs : Int) (sgnP d * Re02.lead r)
  have hz : ((r.zip (List.replicate (r.length - d.length) 0 ++ d)).map fun x => ((Re02.lead d).natAbs : Int) * x.1 - sgnP d * Re02.lead r * x.2).getLast hn = 0 := by
    rw [e, List.getLast_append_of_ne_nil _ hd, ← lead_eq hr, ← lead_eq hd]
    unfold sgnP
    split
    · next h =>
      have : ((Re02.lead d).natAbs : Int) = Re02.lead d := by omega
      rw [this, Int.one_mul, Int.mul_comm]; omega
    · next h =>
      have : ((Re02.lead d).natAbs : Int) = -Re02.lead d := by omega
      rw [this, Int.neg_mul, Int.neg_mul, Int.one_mul, Int.mul_comm, Int.neg_mul]; omega
  have := trim_last_zero hn hz
  simp at this
  unfold stepP
  omega
theorem restP_ok : ∀ (n : Nat) (f g : List Int), f.length ≤ n → g ≠ [] → Trim g → RestOk f g (restP n f g)
  | 0, f, g, hn, hg, _ => by
    have e : f = [] := by simpa using hn
    subst e
    refine ⟨?_, fun h => h, 1, 1, fun _ => 0, by decide, by decide, poly_const 0, fun x => ?_⟩
    · show (0 : Nat) < g.length
      cases g with
      | nil => exact absurd rfl hg
      | cons _ _ => simp
    · show 1 * (0 : Rat) = 0 * _ + 1 * 0
      grind
  | n + 1, f, g, hn, hg, ht => by
    by_cases hs : f.length < g.length
    · have e : restP (n + 1) f g = f := if_pos hs
      rw [e]
      exact ⟨hs, fun h => h, 1, 1, fun _ => 0, by decide, by decide, poly_const 0, fun x => by grind⟩
    · have e : restP (n + 1) f g = restP n (stepP f g) g := if_neg hs
      have hlt := stepP_short hg (r := f) (by omega)
      have ih := restP_ok n (stepP f g) g (by omega) hg ht
      rw [e]
      refine ⟨ih.short, fun _ => ih.trim (trim_trim _), ?_⟩
      obtain ⟨s, t, Q, hs0, ht0, hQ, heq⟩ := ih.eq
      have hlg := ht hg
      rw [← lead_eq hg] at hlg
      have hna : (0 : Rat) < ((Re02.lead g).natAbs : Rat) := by
        have : 0 < (Re02.lead g).natAbs := by omega
        have h2 : ((0 : Nat) : Rat) < ((Re02.lead g).natAbs : Rat) := by exact_mod_cast this
        exact h2
      refine ⟨s * ((Re02.lead g).natAbs : Rat), t, fun x => Q x + s * (((sgnP g * Re02.lead f : Int) : Rat) * x ^ (f.length - g.length)), Rat.mul_pos hs0 hna, ht0, poly_add hQ (poly_mul (poly_const s) (poly_mul (poly_const _) (poly_pow _))), fun x => ?_⟩
      have h1 := heq x
      have h2 : evZ (stepP f g) x = ((Re02.lead g).natAbs : Rat) * evZ f x - ((sgnP g * Re02.lead f : Int) : Rat) * (x ^ (f.length - g.length) * evZ g x) := by
        unfold stepP
        rw [evZ_trim, evZ_zip (by simp; omega), evZ_shift]
        rfl
      rw [h2] at h1
      generalize evZ (restP n (stepP f g) g) x = z at *
      generalize ((sgnP g * Re02.lead f : Int) : Rat) = c at *
      show s * ((Re02.lead g).natAbs : Rat) * evZ f x = (Q x + s * (c * x ^ (f.length - g.length))) * evZ g x + t * z
      grind
/-- the slope of the field's polynomial, as many as its degree -/
def slopeI (k : List Int) : List Int := Re02.slope (k ++ [1])
/-- the program's chain, weighed by a number with whole places -/
def chainP (k above : List Int) : List (List Int) :=
  chainG (fun f g => restP f.length f g) (k.length + 2) (k ++ [1]) (Re02.trim (timesI k above (slopeI k)))
theorem slope2 (p q : Int) : slopeI [p, q] = [q, 2] := by
  show [((1 : Nat) : Int) * q, ((2 : Nat) : Int) * 1] = _
  simp
theorem slope3 (p q r : Int) : slopeI [p, q, r] = [q, 2 * r, 3] := by
  show [((1 : Nat) : Int) * q, ((2 : Nat) : Int) * r, ((3 : Nat) : Int) * 1] = _
  simp
theorem slope4 (p q r s : Int) : slopeI [p, q, r, s] = [q, 2 * r, 3 * s, 4] := by
  show [((1 : Nat) : Int) * q, ((2 : Nat) : Int) * r, ((3 : Nat) : Int) * s, ((4 : Nat) : Int) * 1] = _
  simp
/-- a product in the field is the product of the functions, but for a multiple of the polynomial -/
theorem evZ_up {k : List Int} (hk : 1 ≤ k.length) {b : L} (hb : b.length = k.length) (x : Rat) : ev (upR k b) x = x * ev b x - b.getLastD 0 * evZ (k ++ [1]) x := by
  have hbn : b ≠ [] := by intro e; subst e; simp at hb; omega
  have e1 : b = b.dropLast ++ [b.getLast hbn] := (List.dropLast_concat_getLast hbn).symm
  have e2 : b.getLastD 0 = b.getLast hbn := by rw [List.getLastD_eq_getLast?, List.getLast?_eq_some_getLast hbn]; rfl
  have h1 : ∀ (u : L) (v : List Int) (c : Rat), u.length = v.length → ev (plusR u (v.map fun (z : Int) => -(c * (z : Rat)))) x = ev u x - c * evZ v x := by
    intro u
    induction u with
    | nil =>
      intro v c h
      have : v = [] := by simpa using h.symm
      subst this
      show (0 : Rat) = 0 - c * 0
      grind
    | cons a u ih =>
      intro v c h
      cases v with
      | nil => simp at h
      | cons z v =>
        show ev ((a + -(c * (z : Rat))) :: plusR u (v.map fun (z : Int) => -(c * (z : Rat)))) x = _
        rw [ev_cons, ih v c (by simpa using h), ev_cons, evZ_cons]
        grind
  have h2 : ∀ (u : L) (c : Rat), ev (u ++ [c]) x = ev u x + c * x ^ u.length := by
    intro u c
    induction u with
    | nil => rw [List.nil_append, ev_cons, ev_nil, List.length_nil, Rat.pow_zero]; grind
    | cons a u ih => rw [List.cons_append, ev_cons, ev_cons, ih, List.length_cons, Rat.pow_succ]; grind
  unfold upR
  rw [h1 _ _ _ (by simp [hb]; omega), ev_cons, e2, evZ_append_one]
  have e3 : ev b x = ev b.dropLast x + b.getLast hbn * x ^ b.dropLast.length := by
    conv => lhs; rw [e1]
    exact h2 _ _
  rw [e3]
  have e4 : b.dropLast.length + 1 = k.length := by simp [hb]; omega
  have e5 : x ^ k.length = x ^ b.dropLast.length * x := by rw [← e4, Rat.pow_succ]
  rw [e5]
  grind
theorem ev_plusR {a b : L} (h : a.length = b.length) (x : Rat) : ev (plusR a b) x = ev a x + ev b x := by
  induction a generalizing b with
  | nil =>
    have : b = [] := by simpa using h.symm
    subst this
    show (0 : Rat) = 0 + 0
    grind
  | cons c a ih =>
    cases b with
    | nil => simp at h
    | cons d b =>
      show ev ((c + d) :: plusR a b) x = _
      rw [ev_cons, ev_cons, ev_cons, ih (by simpa using h)]
      grind
theorem ev_zeros (n : Nat) (x : Rat) : ev (List.replicate n 0) x = 0 := ev_zero_all (fun a ha => by simpa using (List.mem_replicate.mp ha).2) x
theorem ev_times {k : List Int} (hk : 1 ≤ k.length) (a : L) {b : L} (hb : b.length = k.length) : ∃ E : Rat → Rat, PolyF E ∧ ∀ x, ev (timesR k a b) x = ev a x * ev b x + evZ (k ++ [1]) x * E x := by
  have h : ∀ (a acc b : L), acc.length = k.length → b.length = k.length → ∃ E : Rat → Rat, PolyF E ∧ ∀ x, ev (a.foldl (fun (x : L × L) c => (plusR x.1 (scaleR c x.2), upR k x.2)) (acc, b)).1 x = ev acc x + ev a x * ev b x + evZ (k ++ [1]) x * E x := by
    intro a
    induction a with
    | nil => intro acc b _ _; exact ⟨fun _ => 0, poly_const 0, fun x => by rw [List.foldl_nil, ev_nil]; grind⟩
    | cons c a ih =>
      intro acc b hacc hb
      obtain ⟨E, hE, he⟩ := ih (plusR acc (scaleR c b)) (upR k b) (by rw [plusR_length _ _ (by rw [scaleR_length, hacc, hb]), hacc]) (upR_length hk hb)
      refine ⟨fun x => E x - b.getLastD 0 * ev a x, poly_sub hE (poly_mul (poly_const _) ⟨a, fun _ => rfl⟩), fun x => ?_⟩
      rw [List.foldl_cons]
      have := he x
      rw [this, ev_plusR (by rw [scaleR_length, hacc, hb]), ev_scaleR, evZ_up hk hb, ev_cons]
      grind
  obtain ⟨E, hE, he⟩ := h a (List.replicate k.length 0) b (by simp) hb
  refine ⟨E, hE, fun x => ?_⟩
  have := he x
  rw [ev_zeros] at this
  unfold timesR
  rw [this]
  grind
end Rf

set_option autoImplicit false
set_option maxHeartbeats 4000000
set_option maxRecDepth 100000
namespace Rf
/-! The slope; what has nothing in common with the field's polynomial. -/
def dev : L → Rat → Rat
  | [], _ => 0
  | _ :: l, x => ev l x + x * dev l x
theorem nice_dev : ∀ l : L, Nice (dev l)
  | [] => nice_const 0
  | _ :: l => nice_add (nice_ev l) (nice_mul nice_id (nice_dev l))
theorem diff_ev : ∀ l : L, Diff (ev l) (dev l)
  | [] => by
    intro B hB
    refine ⟨1, by decide, fun x y _ _ => ?_⟩
    have e : ev [] y - ev [] x - (y - x) * dev [] x = 0 := by show (0 : Rat) - 0 - (y - x) * 0 = 0; grind
    rw [e, ab_zero]
    have := Rat.mul_nonneg (ab_nonneg (y - x)) (ab_nonneg (y - x))
    grind
  | a :: l => by
    intro B hB
    obtain ⟨M, m0, hM⟩ := diff_ev l B hB
    obtain ⟨K, k0, _, k2⟩ := nice_ev l B hB
    have hBM := Rat.mul_pos hB m0
    refine ⟨B * M + K, by grind, fun x y hx hy => ?_⟩
    have e : ev (a :: l) y - ev (a :: l) x - (y - x) * dev (a :: l) x = x * (ev l y - ev l x - (y - x) * dev l x) + (y - x) * (ev l y - ev l x) := by
      rw [ev_cons, ev_cons]
      show _ - _ - (y - x) * (ev l x + x * dev l x) = _
      grind
    rw [e]
    have h1 := ab_add (x * (ev l y - ev l x - (y - x) * dev l x)) ((y - x) * (ev l y - ev l x))
    rw [ab_mul, ab_mul] at h1
    have h2 := mul_mono hx (hM x y hx hy) (ab_nonneg _) (Rat.le_of_lt hB)
    have h3 := Rat.mul_le_mul_of_nonneg_left (k2 y x hy hx) (ab_nonneg (y - x))
    grind
theorem dev_slope {k : List Int} (hk : Deg k) (x : Rat) : dev (castL (k ++ [1])) x = evZ (slopeI k) x := by
  rcases hk.cases with ⟨p, q, rfl⟩ | ⟨p, q, r, rfl⟩ | ⟨p, q, r, s, rfl⟩
  · rw [slope2]
    simp only [dev, evZ, castL, List.map, List.cons_append, List.nil_append, ev, List.foldr]
    push_cast
    grind
  · rw [slope3]
    simp only [dev, evZ, castL, List.map, List.cons_append, List.nil_append, ev, List.foldr]
    push_cast
    grind
  · rw [slope4]
    simp only [dev, evZ, castL, List.map, List.cons_append, List.nil_append, ev, List.foldr]
    push_cast
    grind
theorem diff_slope {k : List Int} (hk : Deg k) : Diff (evZ (k ++ [1])) (evZ (slopeI k)) := by
  have e : evZ (slopeI k) = dev (castL (k ++ [1])) := funext fun x => (dev_slope hk x).symm
  rw [e]
  exact diff_ev _
theorem slope_length {k : List Int} (hk : Deg k) : (slopeI k).length = k.length := by
  rcases hk.cases with ⟨p, q, rfl⟩ | ⟨p, q, r, rfl⟩ | ⟨p, q, r, s, rfl⟩
  · rw [slope2]; rfl
  · rw [slope3]; rfl
  · rw [slope4]; rfl
theorem slope_ne {k : List Int} (hk : Deg k) : castL (slopeI k) ≠ zerosR k := by
  rcases hk.cases with ⟨p, q, rfl⟩ | ⟨p, q, r, rfl⟩ | ⟨p, q, r, s, rfl⟩
  · rw [slope2]
    intro h
    have h2 := (List.cons.inj (List.cons.inj (show [(q : Rat), ((2 : Int) : Rat)] = [0, 0] from h)).2).1
    exact absurd h2 (by decide)
  · rw [slope3]
    intro h
    have h2 := (List.cons.inj (List.cons.inj (List.cons.inj (show [(q : Rat), ((2 * r : Int) : Rat), ((3 : Int) : Rat)] = [0, 0, 0] from h)).2).2).1
    exact absurd h2 (by decide)
  · rw [slope4]
    intro h
    have h2 := (List.cons.inj (List.cons.inj (List.cons.inj (List.cons.inj (show [(q : Rat), ((2 * r : Int) : Rat), ((3 * s : Int) : Rat), ((4 : Int) : Rat)] = [0, 0, 0, 0] from h)).2).2).2).1
    exact absurd h2 (by decide)
/-- no fraction is a root -/
theorem no_root {k : List Int} (hk : Deg k) (hi : Irr k) (x : Rat) : evZ (k ++ [1]) x ≠ 0 := by
  rcases hk.cases with ⟨p, q, rfl⟩ | ⟨p, q, r, rfl⟩ | ⟨p, q, r, s, rfl⟩
  · have h := hi x
    simp only [evZ, castL, List.map, List.cons_append, List.nil_append, ev, List.foldr]
    push_cast
    intro h2
    apply h
    grind
  · have h := hi x
    simp only [evZ, castL, List.map, List.cons_append, List.nil_append, ev, List.foldr]
    push_cast
    intro h2
    apply h
    grind
  · have h := hi.1 x
    simp only [evZ, castL, List.map, List.cons_append, List.nil_append, ev, List.foldr]
    push_cast
    intro h2
    apply h
    grind
theorem ev_ofR {k : List Int} (_ : 1 ≤ k.length) (c x : Rat) : ev (ofR k c) x = c := by
  show c + x * ev (List.replicate (k.length - 1) 0) x = c
  rw [ev_zeros]
  grind
/-- a number that isn't nothing has nothing in common with the polynomial -/
theorem bz_of {k : List Int} (hk : Deg k) (hi : Irr k) {a : L} (ha : a.length = k.length) (hz : a ≠ zerosR k) : Bz (evZ (k ++ [1])) (ev a) := by
  have h0 : 1 ≤ k.length := by have := hk.1; omega
  have h := inv_times hk ha (norm_ne hk hi ha hz)
  obtain ⟨E, hE, he⟩ := ev_times h0 (inverseR k a) ha
  refine ⟨E, ev (inverseR k a), hE.nice, nice_ev _, fun x => ?_⟩
  have := he x
  rw [h, ev_ofR h0] at this
  grind
theorem zeros_of_ev {k : List Int} {a : L} (ha : a.length = k.length) (h : ∀ x, ev a x = 0) : a = zerosR k := by
  exact List.eq_replicate_iff.mpr ⟨ha, vanish h⟩
end Rf

set_option autoImplicit false
set_option maxHeartbeats 4000000
set_option maxRecDepth 100000
namespace Rf
/-! The specification's turns of a chain at a fraction, and the changes there. -/
def sgnQ (x : Rat) : Int := if 0 < x then 1 else if x < 0 then -1 else 0
/-- the point that a fraction tells -/
def pt (x : Re02.Q) : Rat := (x.n : Rat) / (x.d : Rat)
theorem nat_pos_cast {d : Nat} (h : 0 < d) : (0 : Rat) < (d : Rat) := by
  have h2 : ((0 : Nat) : Rat) < (d : Rat) := by exact_mod_cast h
  exact h2
theorem foldl_add (l : List Int) (c : Int) : l.foldl (fun a b => a + b) c = c + l.foldl (fun a b => a + b) 0 := by
  induction l generalizing c with
  | nil => simp
  | cons a l ih => rw [List.foldl_cons, List.foldl_cons, ih (c + a), ih (0 + a)]; omega
theorem pow_pos' {x : Rat} (h : 0 < x) (m : Nat) : 0 < x ^ m := by
  induction m with
  | zero => rw [Rat.pow_zero]; decide
  | succ m ih => rw [Rat.pow_succ]; exact Rat.mul_pos ih h
theorem sum_is (n : Int) (d : Nat) (hd : 0 < d) : ∀ (l : List Int) (s L : Nat), L = s + l.length → 
    ((((l.zipIdx s).map fun y => y.1 * n ^ y.2 * (d : Int) ^ (L - 1 - y.2)).foldl (fun a b => a + b) 0 : Int) : Rat) * (d : Rat) = (n : Rat) ^ s * (d : Rat) ^ l.length * evZ l ((n : Rat) / (d : Rat)) := by
  have hd' := nat_pos_cast hd
  intro l
  induction l with
  | nil => intro s L _; rw [evZ_nil]; show ((0 : Int) : Rat) * _ = _; push_cast; grind
  | cons a l ih =>
    intro s L hL
    have ih' := ih (s + 1) L (by simp at hL; omega)
    rw [List.zipIdx_cons, List.map_cons, List.foldl_cons, foldl_add]
    have e : L - 1 - s = l.length := by simp at hL; omega
    rw [evZ_cons, List.length_cons]
    push_cast
    show ((0 : Int) + (a : Rat) * (n : Rat) ^ s * (d : Rat) ^ (L - 1 - s) + _) * (d : Rat) = _
    rw [e]
    rw [Rat.pow_succ] at ih' ⊢
    generalize ((((l.zipIdx (s + 1)).map fun y => y.1 * n ^ y.2 * (d : Int) ^ (L - 1 - y.2)).foldl (fun a b => a + b) 0 : Int) : Rat) = S at *
    have h0 : (((0 : Int)) : Rat) = 0 := rfl
    rw [h0]
    have hdd : (n : Rat) / (d : Rat) * (d : Rat) = (n : Rat) := by grind
    grind
theorem signAt_is (l : List Int) (x : Re02.Q) (hd : 0 < x.d) : Re02.signAt l x = sgnQ (evZ l (pt x)) := by
  have hd' := nat_pos_cast hd
  have h := sum_is x.n x.d hd l 0 l.length (by omega)
  unfold Re02.signAt pt
  generalize ((l.zipIdx.map fun y => y.1 * x.n ^ y.2 * (x.d : Int) ^ (l.length - 1 - y.2)).foldl (fun a b => a + b) 0) = S at *
  have hp := pow_pos' hd' l.length
  rw [Rat.pow_zero] at h
  generalize evZ l ((x.n : Rat) / (x.d : Rat)) = v at *
  unfold Re02.sgn sgnQ
  have e1 : 0 < S ↔ 0 < v := by
    constructor
    · intro hs
      have : (0 : Rat) < (S : Rat) := by
        have : ((0 : Int) : Rat) < (S : Rat) := by exact_mod_cast hs
        exact this
      have h2 := Rat.mul_pos this hd'
      rw [h] at h2
      have h3 : 0 < (x.d : Rat) ^ l.length * v := by grind
      exact (Rat.mul_pos_iff_of_pos_left hp).mp h3
    · intro hv
      have h2 := Rat.mul_pos hp hv
      have h3 : 0 < (S : Rat) * (x.d : Rat) := by grind
      have h4 : 0 < (x.d : Rat) * (S : Rat) := by grind
      have h5 := (Rat.mul_pos_iff_of_pos_left hd').mp h4
      have h6 : ((0 : Int) : Rat) < (S : Rat) := h5
      exact_mod_cast h6
  have e2 : S < 0 ↔ v < 0 := by
    constructor
    · intro hs
      have : (0 : Rat) < ((-S : Int) : Rat) := by
        have : ((0 : Int) : Rat) < ((-S : Int) : Rat) := by
          have : 0 < -S := by omega
          exact_mod_cast this
        exact this
      have h2 := Rat.mul_pos this hd'
      push_cast at h2
      have h3 : 0 < (x.d : Rat) ^ l.length * (-v) := by grind
      have := (Rat.mul_pos_iff_of_pos_left hp).mp h3
      grind
    · intro hv
      have h2 := Rat.mul_pos hp (show 0 < -v by grind)
      have h4 : 0 < (x.d : Rat) * ((-S : Int) : Rat) := by push_cast; grind
      have h5 := (Rat.mul_pos_iff_of_pos_left hd').mp h4
      have h6 : ((0 : Int) : Rat) < ((-S : Int) : Rat) := h5
      have : 0 < -S := by exact_mod_cast h6
      omega
  simp only [e1, e2]
theorem behind_is (l : List Int) (x : Re02.Q) (h : Re02.signAt l x ≠ 0) : Re02.signBehind l x = Re02.signAt l x := by
  show Re02.behind (l.length + 1) l x = _
  show (if Re02.signAt l x ≠ 0 then Re02.signAt l x else _) = _
  rw [if_pos h]
theorem turns_cons {a b : Int} (ha : a ≠ 0) (hb : b ≠ 0) (r : List Int) : Re02.turns (a :: b :: r) = (if a ≠ b then 1 else 0) + Re02.turns (b :: r) := by
  unfold Re02.turns
  have h1 : (a != 0) = true := by simpa using ha
  have h2 : (b != 0) = true := by simpa using hb
  simp only [List.filter_cons, h1, h2, if_true, List.drop_one, List.tail_cons, List.zip_cons_cons]
  by_cases h : a = b
  · subst h
    simp
  · have : (a != b) = true := by simpa using h
    simp [this, h]
    omega
theorem turns_skip {a : Int} (ha : a ≠ 0) (r : List Int) : Re02.turns (a :: 0 :: r) = Re02.turns (a :: r) := by
  unfold Re02.turns
  have h1 : (a != 0) = true := by simpa using ha
  have h2 : ((0 : Int) != 0) = false := by simp
  simp only [List.filter_cons, h1, h2, if_true]
  rfl
theorem turns_one (a : Int) : Re02.turns [a] = 0 := by
  unfold Re02.turns
  by_cases h : a = 0
  · subst h; rfl
  · have h1 : (a != 0) = true := by simpa using h
    simp [h1]
theorem sgnQ_flag {v : Rat} (h : v ≠ 0) : sgnQ v = if flag v = true then -1 else 1 := by
  unfold sgnQ flag
  by_cases h2 : v < 0
  · rw [if_neg (by grind), if_pos h2, if_pos (decide_eq_true h2)]
  · rw [if_pos (by grind), decide_eq_false h2]
    rfl
theorem sgnQ_ne {v : Rat} (h : v ≠ 0) : sgnQ v ≠ 0 := by
  rw [sgnQ_flag h]; split <;> decide
theorem turns_flag {u v : Rat} (hu : u ≠ 0) (hv : v ≠ 0) (r : List Int) : (Re02.turns (sgnQ u :: sgnQ v :: r) : Int) = (if flag u ≠ flag v then 1 else 0) + Re02.turns (sgnQ v :: r) := by
  rw [turns_cons (sgnQ_ne hu) (sgnQ_ne hv), sgnQ_flag hu, sgnQ_flag hv]
  cases flag u <;> cases flag v <;> simp
/-- a middle one that may be whatever sign, between two of opposite ones -/
theorem turns_mid {u w : Rat} (hu : u ≠ 0) (hw : w ≠ 0) (ho : flag w = !flag u) {m : Int} (hm : m = 0 ∨ m = 1 ∨ m = -1) (r : List Int) : (Re02.turns (sgnQ u :: m :: sgnQ w :: r) : Int) = 1 + Re02.turns (sgnQ w :: r) := by
  rcases hm with hm | hm | hm
  · subst hm
    rw [turns_skip (sgnQ_ne hu), turns_flag hu hw, ho]
    cases flag u <;> simp
  · subst hm
    rw [turns_cons (sgnQ_ne hu) (by decide), turns_cons (by decide) (sgnQ_ne hw)]
    rw [sgnQ_flag hu, sgnQ_flag hw, ho]
    cases flag u <;> simp
  · subst hm
    rw [turns_cons (sgnQ_ne hu) (by decide), turns_cons (by decide) (sgnQ_ne hw)]
    rw [sgnQ_flag hu, sgnQ_flag hw, ho]
    cases flag u <;> simp
theorem sgnQ_three (v : Rat) : sgnQ v = 0 ∨ sgnQ v = 1 ∨ sgnQ v = -1 := by
  unfold sgnQ
  split
  · exact .inr (.inl rfl)
  · split
    · exact .inr (.inr rfl)
    · exact .inl rfl
theorem behind_three (x : Re02.Q) (hd : 0 < x.d) : ∀ (n : Nat) (l : List Int), Re02.behind n l x = 0 ∨ Re02.behind n l x = 1 ∨ Re02.behind n l x = -1
  | 0, _ => .inl rfl
  | n + 1, l => by
    show (if Re02.signAt l x ≠ 0 then Re02.signAt l x else Re02.behind n (Re02.slope l) x) = 0 ∨ (if Re02.signAt l x ≠ 0 then Re02.signAt l x else Re02.behind n (Re02.slope l) x) = 1 ∨ (if Re02.signAt l x ≠ 0 then Re02.signAt l x else Re02.behind n (Re02.slope l) x) = -1
    split
    · rw [signAt_is l x hd]
      exact sgnQ_three _
    · exact behind_three x hd n _
theorem behind_sgn (l : List Int) (x : Re02.Q) (hd : 0 < x.d) (h : evZ l (pt x) ≠ 0) : Re02.signBehind l x = sgnQ (evZ l (pt x)) := by
  have e := signAt_is l x hd
  rw [behind_is l x (by rw [e]; exact sgnQ_ne h), e]
theorem Bz.at {p q : Rat → Rat} (h : Bz p q) {x : Rat} (hq : q x = 0) : p x ≠ 0 := by
  obtain ⟨u, v, _, _, e⟩ := h
  intro hp
  have := e x
  rw [hp, hq] at this
  have h2 : u x * 0 + v x * 0 = (0 : Rat) := by grind
  rw [h2] at this
  exact absurd this (by decide)
/-- **turns are changes**, where the first of the chain is not 0 -/
theorem turns_is (x : Re02.Q) (hd : 0 < x.d) : ∀ (l : List (List Int)) (p q : List Int), SC (evZ p) (evZ q) (l.map evZ) → Bz (evZ p) (evZ q) → 
    (evZ p (pt x) ≠ 0 → (Re02.turnsBehind (p :: q :: l) x : Int) = chg ((p :: q :: l).map evZ) (pt x)) ∧ (evZ q (pt x) ≠ 0 → (Re02.turnsBehind (q :: l) x : Int) = chg ((q :: l).map evZ) (pt x))
  | [], p, q, hc, hb => by
    have one : (Re02.turnsBehind [q] x : Int) = chg ([q].map evZ) (pt x) := by
      show (Re02.turns [_] : Int) = 0
      rw [turns_one]; rfl
    refine ⟨fun hp => ?_, fun _ => one⟩
    have hq : evZ q (pt x) ≠ 0 := by
      intro hq
      cases hc with
      | last _ _ s Q hs _ h =>
        have h1 := h (pt x)
        rw [hq] at h1
        have := Rat.mul_eq_zero.mp (show s * evZ p (pt x) = 0 by grind)
        rcases this with h2 | h2
        · grind
        · exact hp h2
    show (Re02.turns [Re02.signBehind p x, Re02.signBehind q x] : Int) = (if flag (evZ p (pt x)) ≠ flag (evZ q (pt x)) then 1 else 0) + 0
    rw [behind_sgn p x hd hp, behind_sgn q x hd hq, turns_flag hp hq, turns_one]
    rfl
  | r :: l, p, q, hc, hb => by
    cases hc with
    | more hnp hnq s t Q hs ht hQ h hl =>
      have hb2 := hb.step hs hQ h
      obtain ⟨i1, i2⟩ := turns_is x hd l q r hl hb2
      refine ⟨fun hp => ?_, i1⟩
      by_cases hq : evZ q (pt x) = 0
      · have h1 := h (pt x)
        rw [hq] at h1
        have hr : evZ r (pt x) ≠ 0 := by
          intro hr
          rw [hr] at h1
          have := Rat.mul_eq_zero.mp (show s * evZ p (pt x) = 0 by grind)
          rcases this with h2 | h2
          · grind
          · exact hp h2
        have ho : flag (evZ r (pt x)) = !flag (evZ p (pt x)) := by
          unfold flag
          by_cases hpx : evZ p (pt x) < 0
          · have h3 := Rat.mul_pos hs (show 0 < -(evZ p (pt x)) by grind)
            have h4 : 0 < t * evZ r (pt x) := by grind
            have h5 := (Rat.mul_pos_iff_of_pos_left ht).mp h4
            have h6 : ¬ evZ r (pt x) < 0 := by grind
            simp [hpx, h6]
          · have h3 := Rat.mul_pos hs (show 0 < evZ p (pt x) by grind)
            have h4 : 0 < t * -(evZ r (pt x)) := by grind
            have h5 := (Rat.mul_pos_iff_of_pos_left ht).mp h4
            have h6 : evZ r (pt x) < 0 := by grind
            simp [hpx, h6]
        have h2 := i2 hr
        show (Re02.turns (Re02.signBehind p x :: Re02.signBehind q x :: Re02.signBehind r x :: l.map fun p => Re02.signBehind p x) : Int) = (if flag (evZ p (pt x)) ≠ flag (evZ q (pt x)) then 1 else 0) + ((if flag (evZ q (pt x)) ≠ flag (evZ r (pt x)) then 1 else 0) + chg ((r :: l).map evZ) (pt x))
        have h2' : (Re02.turns (Re02.signBehind r x :: l.map fun p => Re02.signBehind p x) : Int) = chg ((r :: l).map evZ) (pt x) := h2
        rw [behind_sgn r x hd hr] at h2' ⊢
        rw [behind_sgn p x hd hp, turns_mid hp hr ho (show Re02.signBehind q x = 0 ∨ Re02.signBehind q x = 1 ∨ Re02.signBehind q x = -1 from behind_three x hd _ q), h2', hq, ho]
        have : flag 0 = false := rfl
        rw [this]
        cases flag (evZ p (pt x)) <;> simp
      · have h1 := i1 hq
        have h1' : (Re02.turns (Re02.signBehind q x :: Re02.signBehind r x :: l.map fun p => Re02.signBehind p x) : Int) = chg ((q :: r :: l).map evZ) (pt x) := h1
        show (Re02.turns (Re02.signBehind p x :: Re02.signBehind q x :: Re02.signBehind r x :: l.map fun p => Re02.signBehind p x) : Int) = (if flag (evZ p (pt x)) ≠ flag (evZ q (pt x)) then 1 else 0) + chg ((q :: r :: l).map evZ) (pt x)
        rw [behind_sgn q x hd hq] at h1' ⊢
        rw [behind_sgn p x hd hp, turns_flag hp hq, h1']
end Rf

set_option autoImplicit false
set_option maxHeartbeats 4000000
set_option maxRecDepth 100000
namespace Rf
/-! Sizes. -/
def Bd (M : Nat) (l : List Int) : Prop := ∀ a ∈ l, a.natAbs ≤ M
theorem Bd.mono {M N : Nat} {l : List Int} (h : Bd M l) (hm : M ≤ N) : Bd N l := fun a ha => Nat.le_trans (h a ha) hm
theorem natAbs_add_le {a b : Int} {m n : Nat} (ha : a.natAbs ≤ m) (hb : b.natAbs ≤ n) : (a + b).natAbs ≤ m + n := by omega
theorem natAbs_sub_le {a b : Int} {m n : Nat} (ha : a.natAbs ≤ m) (hb : b.natAbs ≤ n) : (a - b).natAbs ≤ m + n := by omega
theorem natAbs_mul_le {a b : Int} {m n : Nat} (ha : a.natAbs ≤ m) (hb : b.natAbs ≤ n) : (a * b).natAbs ≤ m * n := by
  rw [Int.natAbs_mul]; exact Nat.mul_le_mul ha hb
theorem plusI_bd {M N : Nat} {a b : List Int} (ha : Bd M a) (hb : Bd N b) : Bd (M + N) (plusI a b) := by
  intro c hc
  unfold plusI at hc
  obtain ⟨⟨x, y⟩, h1, rfl⟩ := List.mem_map.mp hc
  obtain ⟨h2, h3⟩ := List.of_mem_zip h1
  exact natAbs_add_le (ha x h2) (hb y h3)
theorem scaleI_bd {M C : Nat} {c : Int} {a : List Int} (hc : c.natAbs ≤ C) (ha : Bd M a) : Bd (C * M) (scaleI c a) := by
  intro d hd
  unfold scaleI at hd
  obtain ⟨x, h1, rfl⟩ := List.mem_map.mp hd
  exact natAbs_mul_le hc (ha x h1)
theorem last_bd {M : Nat} {a : List Int} (ha : Bd M a) : (a.getLastD 0).natAbs ≤ M := by
  rw [List.getLastD_eq_getLast?]
  cases h : a.getLast? with
  | none => simp
  | some x => exact ha x (List.mem_of_getLast? h)
theorem upI_bd {k : List Int} {M : Nat} (hk : Bd 20 k) {a : List Int} (ha : Bd M a) : Bd (21 * M) (upI k a) := by
  intro c hc
  unfold upI at hc
  obtain ⟨⟨x, y⟩, h1, rfl⟩ := List.mem_map.mp hc
  obtain ⟨h2, h3⟩ := List.of_mem_zip h1
  have hx : x.natAbs ≤ M := by
    rcases List.mem_cons.mp h2 with rfl | h
    · simp
    · exact ha x (List.dropLast_subset _ h)
  have h4 := natAbs_mul_le (last_bd ha) (hk y h3)
  have h5 := natAbs_sub_le hx h4
  show (x - a.getLastD 0 * y).natAbs ≤ _
  omega
theorem timesI_fold_bd {k : List Int} (hk : Bd 20 k) {A : Nat} : ∀ (a acc b : List Int) (S M : Nat), Bd A a → Bd S acc → Bd M b → Bd (S + A * M * 22 ^ a.length) (a.foldl (fun (x : List Int × List Int) c => (plusI x.1 (scaleI c x.2), upI k x.2)) (acc, b)).1 := by
  intro a
  induction a with
  | nil => intro acc b S M _ hS _; exact hS.mono (by omega)
  | cons c a ih =>
    intro acc b S M hA hS hM
    rw [List.foldl_cons]
    have h := ih (plusI acc (scaleI c b)) (upI k b) (S + A * M) (21 * M) (fun x hx => hA x (List.mem_cons_of_mem _ hx)) (plusI_bd hS (scaleI_bd (hA c (List.mem_cons_self ..)) hM)) (upI_bd hk hM)
    refine h.mono ?_
    rw [List.length_cons, Nat.pow_succ]
    have e1 : A * (21 * M) * 22 ^ a.length = 21 * (A * M * 22 ^ a.length) := by
      rw [Nat.mul_comm 21 M, ← Nat.mul_assoc, Nat.mul_right_comm, Nat.mul_comm 21]
    have e2 : A * M * (22 ^ a.length * 22) = 22 * (A * M * 22 ^ a.length) := by rw [← Nat.mul_assoc (A * M), Nat.mul_comm]
    have h1 : 1 ≤ 22 ^ a.length := Nat.one_le_pow _ _ (by decide)
    have h2 : A * M ≤ A * M * 22 ^ a.length := Nat.le_mul_of_pos_right _ h1
    rw [e1, e2]
    omega
theorem zeros_bd (n : Nat) : Bd 0 (List.replicate n 0) := fun a ha => by rw [(List.mem_replicate.mp ha).2]; simp
theorem pow22 {n : Nat} (h : n ≤ 4) : 22 ^ n ≤ 2 ^ 18 := by
  have : 22 ^ n ≤ 22 ^ 4 := Nat.pow_le_pow_right (by decide) h
  omega
theorem timesI_bd {k a b : List Int} (hk : Bd 20 k) {A M : Nat} (ha : Bd A a) (hb : Bd M b) (hl : a.length ≤ 4) : Bd (A * M * 2 ^ 18) (timesI k a b) := by
  have h := timesI_fold_bd hk a (List.replicate k.length 0) b 0 M ha (zeros_bd _) hb
  refine h.mono ?_
  rw [Nat.zero_add]
  exact Nat.mul_le_mul_left _ (pow22 hl)
theorem ups_bd {k : List Int} (hk : Bd 20 k) : ∀ (l : List Nat) (a : List Int) (M : Nat), Bd M a → Bd (21 ^ l.length * M) (l.foldl (fun b _ => upI k b) a)
  | [], a, M, h => by rw [List.length_nil, Nat.pow_zero, Nat.one_mul]; exact h
  | x :: l, a, M, h => by
    rw [List.foldl_cons, List.length_cons, Nat.pow_succ, Nat.mul_assoc]
    exact ups_bd hk l (upI k a) (21 * M) (upI_bd hk h)
theorem rowsI_bd {k : List Int} (hk : Bd 20 k) (hl : k.length ≤ 4) {a : List Int} {M : Nat} (ha : Bd M a) : ∀ r ∈ rowsI k a, Bd (2 ^ 18 * M) r := by
  intro r hr
  unfold rowsI at hr
  obtain ⟨i, hi, rfl⟩ := List.mem_map.mp hr
  have h := ups_bd hk (List.range i) a M ha
  refine h.mono (Nat.mul_le_mul_right _ ?_)
  have h1 : i ≤ 4 := by have := List.mem_range.mp hi; omega
  rw [List.length_range]
  have : 21 ^ i ≤ 21 ^ 4 := Nat.pow_le_pow_right (by decide) h1
  omega
theorem getD_bd {M : Nat} {l : List Int} (h : Bd M l) (i : Nat) : (l.getD i 0).natAbs ≤ M := by
  rw [List.getD_eq_getElem?_getD]
  cases e : l[i]? with
  | none => simp
  | some x => exact h x (List.mem_of_getElem? e)
theorem sum_bd {M : Nat} : ∀ (l : List Int) (s : Int) (S : Nat), s.natAbs ≤ S → Bd M l → (l.foldl (· + ·) s).natAbs ≤ S + l.length * M
  | [], s, S, h, _ => by simp; omega
  | x :: l, s, S, h, hl => by
    rw [List.foldl_cons, List.length_cons, Nat.add_mul]
    have := sum_bd l (s + x) (S + M) (natAbs_add_le h (hl x (List.mem_cons_self ..))) (fun y hy => hl y (List.mem_cons_of_mem _ hy))
    omega
theorem rowsI_length (k a : List Int) : (rowsI k a).length = k.length := by simp [rowsI]
theorem traceI_bd {k : List Int} (hk : Bd 20 k) (hl : k.length ≤ 4) {a : List Int} {M : Nat} (ha : Bd M a) : (traceI k a).natAbs ≤ 2 ^ 20 * M := by
  unfold traceI
  have h : Bd (2 ^ 18 * M) ((rowsI k a).zipIdx.map fun x => x.1.getD x.2 0) := by
    intro c hc
    obtain ⟨⟨r, i⟩, h1, rfl⟩ := List.mem_map.mp hc
    exact getD_bd (rowsI_bd hk hl ha r (List.fst_mem_of_mem_zipIdx h1)) i
  have := sum_bd _ 0 0 (by simp) h
  rw [List.length_map, List.length_zipIdx, rowsI_length] at this
  have h2 : k.length * (2 ^ 18 * M) ≤ 4 * (2 ^ 18 * M) := Nat.mul_le_mul_right _ hl
  omega
theorem fdiv_bd {a : Int} {n : Int} (hn : 0 < n) {M : Nat} (h : a.natAbs ≤ M) : (a.fdiv n).natAbs ≤ M := by
  rw [Int.fdiv_eq_ediv_of_nonneg _ (by omega)]
  have h1 : a / n * n ≤ a := Int.ediv_mul_le a (by omega)
  have h2 : a < (a / n + 1) * n := Int.lt_ediv_add_one_mul_self a hn
  rcases Int.lt_or_le a 0 with h0 | h0
  · have h3 : a / n < 0 := Int.ediv_neg_of_neg_of_pos h0 hn
    have h4 : a ≤ a / n := by
      have h5 : (a / n + 1) * n ≤ (a / n + 1) * 1 := by
        apply Int.mul_le_mul_of_nonpos_left
        · omega
        · omega
      omega
    omega
  · have h3 : 0 ≤ a / n := Int.ediv_nonneg h0 (by omega)
    have h4 : a / n ≤ a := Int.ediv_le_self _ h0
    omega
theorem flI_length {k : List Int} (hk : Deg k) {A : List Int} (hA : A.length = k.length) (j : Nat) (hj : j ≤ k.length) : (flI k A j).2.length = k.length := by
  have h := (fl_cast hk hA j hj).2
  have h2 := flc_length hk (a := castL A) (by rw [castL_length, hA]) j
  rw [← h, castL_length] at h2
  exact h2
theorem flI_bd {k : List Int} (hd : Deg k) (hk : Bd 20 k) {A : List Int} (hA : A.length = k.length) {M : Nat} (hM : 1 ≤ M) (ha : Bd M A) : ∀ j, j ≤ k.length → Bd ((M * 2 ^ 39) ^ j) (flI k A j).2 ∧ Bd ((M * 2 ^ 39) ^ j) (flI k A j).1
  | 0, _ => by
    constructor
    · show Bd _ (1 :: List.replicate _ 0)
      intro c hc
      rcases List.mem_cons.mp hc with rfl | h
      · simp
      · rw [(List.mem_replicate.mp h).2]; simp
    · intro c hc
      rcases List.mem_cons.mp hc with rfl | h
      · simp
      · cases h
  | j + 1, hj => by
    obtain ⟨h1, h2⟩ := flI_bd hd hk hA hM ha j (by omega)
    have hl := hd.2
    have hpr := timesI_bd hk h1 ha (by rw [flI_length hd hA j (by omega)]; exact hl)
    have htr := traceI_bd hk hl hpr
    have hcf := fdiv_bd (show (0 : Int) < (j : Int) + 1 by omega) (show (-(traceI k (timesI k (flI k A j).2 A))).natAbs ≤ _ by rw [Int.natAbs_neg]; exact htr)
    have hX : 1 ≤ (M * 2 ^ 39) ^ j := Nat.one_le_pow _ _ (by omega)
    have e1 : (M * 2 ^ 39) ^ (j + 1) = 2 ^ 39 * ((M * 2 ^ 39) ^ j * M) := by rw [Nat.pow_succ, ← Nat.mul_assoc, Nat.mul_comm]
    have hY : 1 ≤ (M * 2 ^ 39) ^ j * M := Nat.mul_le_mul hX hM
    generalize (M * 2 ^ 39) ^ j = X at *
    rw [e1]
    constructor
    · intro c hc
      have hc' : c ∈ ((timesI k (flI k A j).2 A).headD 0 + (-(traceI k (timesI k (flI k A j).2 A))).fdiv ((j : Int) + 1)) :: (timesI k (flI k A j).2 A).tail := hc
      rcases List.mem_cons.mp hc' with rfl | h
      · have h3 : ((timesI k (flI k A j).2 A).headD 0).natAbs ≤ X * M * 2 ^ 18 := by
          cases e : timesI k (flI k A j).2 A with
          | nil => simp
          | cons y t => rw [e] at hpr; exact hpr y (List.mem_cons_self ..)
        have := natAbs_add_le h3 hcf
        omega
      · have := hpr c (List.mem_of_mem_tail h)
        omega
    · intro c hc
      have hc' : c ∈ (-(traceI k (timesI k (flI k A j).2 A))).fdiv ((j : Int) + 1) :: (flI k A j).1 := hc
      rcases List.mem_cons.mp hc' with rfl | h
      · omega
      · have h3 := h2 c h
        have h4 : X * 1 ≤ X * M := Nat.mul_le_mul_left X hM
        omega
end Rf

set_option autoImplicit false
set_option maxHeartbeats 4000000
set_option maxRecDepth 100000
namespace Rf
theorem nat_cast_le {a b : Nat} (h : a ≤ b) : (a : Rat) ≤ (b : Rat) := by exact_mod_cast h
theorem ab_int (z : Int) {M : Nat} (h : z.natAbs ≤ M) : ab (z : Rat) ≤ (M : Rat) := by
  apply ab_le
  · have h1 : z ≤ (M : Int) := by omega
    have h2 : (z : Rat) ≤ ((M : Int) : Rat) := by exact_mod_cast h1
    exact h2
  · have h1 : -z ≤ (M : Int) := by omega
    have h2 : ((-z : Int) : Rat) ≤ ((M : Int) : Rat) := by exact_mod_cast h1
    push_cast at h2
    exact h2
theorem evZ_bd {M : Nat} : ∀ (l : List Int) {B : Rat}, Bd M l → 1 ≤ B → ∀ x, ab x ≤ B → ab (evZ l x) ≤ (M : Rat) * (l.length : Rat) * B ^ l.length
  | [], B, _, hB, x, _ => by
    rw [evZ_nil, ab_zero]
    show 0 ≤ (M : Rat) * ((0 : Nat) : Rat) * B ^ 0
    have : ((0 : Nat) : Rat) = 0 := rfl
    rw [this]
    grind
  | a :: l, B, h, hB, x, hx => by
    have ih := evZ_bd l (fun y hy => h y (List.mem_cons_of_mem _ hy)) hB x hx
    have ha := ab_int a (h a (List.mem_cons_self ..))
    have h1 := ab_add (a : Rat) (x * evZ l x)
    rw [ab_mul] at h1
    have h2 := mul_mono hx ih (ab_nonneg _) (by grind)
    have hp := one_le_pow hB (l.length + 1)
    have hM : (0 : Rat) ≤ (M : Rat) := nat_cast_le (Nat.zero_le M)
    have h3 := Rat.mul_le_mul_of_nonneg_left hp hM
    rw [evZ_cons, List.length_cons]
    have e : ((l.length + 1 : Nat) : Rat) = (l.length : Rat) + 1 := by push_cast; rfl
    rw [e]
    rw [Rat.pow_succ] at hp h3 ⊢
    grind
theorem evZ_lip {M : Nat} : ∀ (l : List Int) {B : Rat}, Bd M l → 1 ≤ B → ∀ x y, ab x ≤ B → ab y ≤ B → ab (evZ l x - evZ l y) ≤ (M : Rat) * ((l.length : Rat) * (l.length : Rat)) * B ^ l.length * ab (x - y)
  | [], B, _, hB, x, y, _, _ => by
    rw [evZ_nil, evZ_nil]
    have e : (0 : Rat) - 0 = 0 := by grind
    rw [e, ab_zero]
    show 0 ≤ (M : Rat) * (((0 : Nat) : Rat) * ((0 : Nat) : Rat)) * B ^ 0 * ab (x - y)
    have : ((0 : Nat) : Rat) = 0 := rfl
    rw [this]
    grind
  | a :: l, B, h, hB, x, y, hx, hy => by
    have hl : Bd M l := fun z hz => h z (List.mem_cons_of_mem _ hz)
    have ih := evZ_lip l hl hB x y hx hy
    have hb := evZ_bd l hl hB x hx
    have e1 : evZ (a :: l) x - evZ (a :: l) y = (x - y) * evZ l x + y * (evZ l x - evZ l y) := by
      rw [evZ_cons, evZ_cons]; grind
    rw [e1]
    have h1 := ab_add ((x - y) * evZ l x) (y * (evZ l x - evZ l y))
    rw [ab_mul, ab_mul] at h1
    have hd := ab_nonneg (x - y)
    have h2 := Rat.mul_le_mul_of_nonneg_left hb hd
    have h3 := mul_mono hy ih (ab_nonneg _) (by grind)
    have hM : (0 : Rat) ≤ (M : Rat) := nat_cast_le (Nat.zero_le M)
    have hn : (0 : Rat) ≤ (l.length : Rat) := nat_cast_le (Nat.zero_le _)
    have hp := one_le_pow hB l.length
    rw [List.length_cons]
    have e : ((l.length + 1 : Nat) : Rat) = (l.length : Rat) + 1 := by push_cast; rfl
    rw [e, Rat.pow_succ]
    generalize B ^ l.length = P at *
    generalize (l.length : Rat) = n at *
    generalize (M : Rat) = m at *
    generalize ab (x - y) = d at *
    -- d m n P + B m n n P d  ≤  m (n + 1)(n + 1) P B d
    have q0 : 0 ≤ m * n * P * d := Rat.mul_nonneg (Rat.mul_nonneg (Rat.mul_nonneg hM hn) (by grind)) hd
    have q00 : 0 ≤ m * P * d := Rat.mul_nonneg (Rat.mul_nonneg hM (by grind)) hd
    have q1 : m * n * P * d * 1 ≤ m * n * P * d * B := Rat.mul_le_mul_of_nonneg_left hB q0
    have q2 : 0 ≤ m * P * d * B := Rat.mul_nonneg q00 (by grind)
    grind
/-! ### far out -/
theorem far_right {m : Nat} : ∀ (k : List Int), Bd m k → ∀ x : Rat, (m : Rat) + 1 ≤ x → 1 ≤ evZ (k ++ [1]) x
  | [], _, x, _ => by
    show 1 ≤ evZ [1] x
    rw [evZ_cons, evZ_nil]
    push_cast
    grind
  | a :: k, h, x, hx => by
    have ih := far_right k (fun y hy => h y (List.mem_cons_of_mem _ hy)) x hx
    have ha := ab_int a (h a (List.mem_cons_self ..))
    have h1 := neg_le_ab (a : Rat)
    have hm : (0 : Rat) ≤ (m : Rat) := nat_cast_le (Nat.zero_le m)
    rw [List.cons_append, evZ_cons]
    have h2 := Rat.mul_le_mul_of_nonneg_left ih (show 0 ≤ x by grind)
    grind
theorem far_left {m : Nat} : ∀ (k : List Int), Bd m k → ∀ x : Rat, x ≤ -((m : Rat) + 1) → (k.length % 2 = 0 → 1 ≤ evZ (k ++ [1]) x) ∧ (k.length % 2 = 1 → evZ (k ++ [1]) x ≤ -1)
  | [], _, x, _ => by
    refine ⟨fun _ => ?_, fun h => by simp at h⟩
    show 1 ≤ evZ [1] x
    rw [evZ_cons, evZ_nil]
    push_cast
    grind
  | a :: k, h, x, hx => by
    obtain ⟨i1, i2⟩ := far_left k (fun y hy => h y (List.mem_cons_of_mem _ hy)) x hx
    have ha := ab_int a (h a (List.mem_cons_self ..))
    have h1 := neg_le_ab (a : Rat)
    have h1' := le_ab (a : Rat)
    have hm : (0 : Rat) ≤ (m : Rat) := nat_cast_le (Nat.zero_le m)
    rw [List.cons_append, evZ_cons, List.length_cons]
    constructor
    · intro hl
      have i3 := i2 (by omega)
      have h2 := Rat.mul_le_mul_of_nonneg_left (show 1 ≤ -(evZ (k ++ [1]) x) by grind) (show 0 ≤ -x by grind)
      grind
    · intro hl
      have i3 := i1 (by omega)
      have h2 := Rat.mul_le_mul_of_nonneg_left i3 (show 0 ≤ -x by grind)
      grind
end Rf

set_option autoImplicit false
set_option maxHeartbeats 4000000
set_option maxRecDepth 100000
namespace Rf
/-! The program's chain and the specification's. -/
theorem castL_zero_iff {k A : List Int} : castL A = zerosR k ↔ A = List.replicate k.length 0 := by
  constructor
  · intro h
    have hl : A.length = k.length := by rw [← castL_length, h]; simp
    apply List.eq_replicate_iff.mpr ⟨hl, fun a ha => ?_⟩
    have h2 : (a : Rat) ∈ castL A := List.mem_map.mpr ⟨a, ha, rfl⟩
    rw [h] at h2
    have h3 := (List.mem_replicate.mp h2).2
    have h4 : (a : Rat) = ((0 : Int) : Rat) := h3
    exact_mod_cast h4
  · intro h
    rw [h]
    unfold castL zerosR
    rw [List.map_replicate]
    rfl
/-- the second of the program's chain, not yet trimmed -/
def topP (k A : List Int) : List Int := timesI k A (slopeI k)
theorem topP_cast (k A : List Int) : castL (topP k A) = timesR k (castL A) (castL (slopeI k)) := (times_cast k A (slopeI k)).symm
theorem evZ_topP (k A : List Int) (x : Rat) : evZ (Re02.trim (topP k A)) x = ev (timesR k (castL A) (castL (slopeI k))) x := by
  rw [evZ_trim]
  unfold evZ
  rw [topP_cast]
theorem topP_ne {k A : List Int} (hk : Deg k) (hi : Irr k) (hA : A.length = k.length) (hz : castL A ≠ zerosR k) : timesR k (castL A) (castL (slopeI k)) ≠ zerosR k := by
  intro h
  rcases domain hk hi (by rw [castL_length, hA]) (by rw [castL_length, slope_length hk]) h with h | h
  · exact hz h
  · exact slope_ne hk h
theorem topP_length {k : List Int} (hk : Deg k) (A : List Int) : (topP k A).length = k.length := by
  rw [← castL_length, topP_cast]
  exact times_length (by have := hk.1; omega) _ (by rw [castL_length, slope_length hk])
theorem trim_f (k : List Int) : Trim (k ++ [1]) := by
  intro h
  simp
theorem chainP_ok {k A : List Int} (hk : Deg k) (hi : Irr k) (hA : A.length = k.length) (hz : castL A ≠ zerosR k) :
    ∃ l, chainP k A = (k ++ [1]) :: Re02.trim (topP k A) :: l ∧ SC (evZ (k ++ [1])) (evZ (Re02.trim (topP k A))) (l.map evZ) ∧ Bz (evZ (k ++ [1])) (evZ (Re02.trim (topP k A))) := by
  have h0 : 1 ≤ k.length := by have := hk.1; omega
  have hT := topP_ne hk hi hA hz
  have hlen : (timesR k (castL A) (castL (slopeI k))).length = k.length := times_length h0 _ (by rw [castL_length, slope_length hk])
  have hne : Re02.trim (topP k A) ≠ [] := by
    intro h
    apply hT
    apply zeros_of_ev hlen
    intro x
    rw [← evZ_topP, h]
    rfl
  obtain ⟨l, h1, h2, _⟩ := chain_ok (R := fun f g => restP f.length f g) (fun f g hg ht => restP_ok f.length f g (Nat.le_refl _) hg ht) (k.length + 2) (k ++ [1]) (Re02.trim (topP k A)) hne (trim_f k) (trim_trim _) (by have := trim_length (topP k A); rw [topP_length hk] at this; omega)
  refine ⟨l, h1, h2, ?_⟩
  have e : evZ (Re02.trim (topP k A)) = ev (timesR k (castL A) (castL (slopeI k))) := funext (evZ_topP k A)
  rw [e]
  exact bz_of hk hi hlen hT
/-- the specification's chain, weighed by a polynomial that is the same number -/
theorem chainS_ok {k A g : List Int} (hk : Deg k) (hi : Irr k) (hA : A.length = k.length) (hz : castL A ≠ zerosR k) (hg : ∀ x, evZ g x = evZ (slopeI k) x * evZ A x) (hgt : Trim g) :
    ∃ h l, Re02.chain (k ++ [1]) g = (k ++ [1]) :: h :: l ∧ SC (evZ (k ++ [1])) (evZ h) (l.map evZ) ∧ Bz (evZ (k ++ [1])) (evZ h) ∧
      ∃ (s t : Rat) (E : Rat → Rat), 0 < s ∧ 0 < t ∧ Nice E ∧ ∀ x, t * evZ h x = s * evZ (Re02.trim (topP k A)) x + evZ (k ++ [1]) x * E x := by
  have h0 : 1 ≤ k.length := by have := hk.1; omega
  have hT := topP_ne hk hi hA hz
  have hlen : (timesR k (castL A) (castL (slopeI k))).length = k.length := times_length h0 _ (by rw [castL_length, slope_length hk])
  have ok := rest_ok g.length g (k ++ [1]) (Nat.le_refl _) (by simp) (trim_f k)
  generalize hh : Re02.rest g.length g (k ++ [1]) = h at ok
  obtain ⟨s, t, Q, hs, ht, hQ, he⟩ := ok.eq
  obtain ⟨E, hE, hEe⟩ := ev_times h0 (castL A) (b := castL (slopeI k)) (by rw [castL_length, slope_length hk])
  have hrel : ∀ x, t * evZ h x = s * evZ (Re02.trim (topP k A)) x + evZ (k ++ [1]) x * (-(s * E x) - Q x) := by
    intro x
    have h1 := he x
    have h2 := hEe x
    rw [hg] at h1
    rw [evZ_topP, h2]
    show t * evZ h x = s * (evZ A x * evZ (slopeI k) x + evZ (k ++ [1]) x * E x) + evZ (k ++ [1]) x * (-(s * E x) - Q x)
    grind
  have hpol : PolyF fun x => -(s * E x) - Q x := by
    have h1 := poly_sub (poly_sub (poly_const 0) (poly_mul (poly_const s) hE)) hQ
    have e : (fun x => 0 - s * E x - Q x) = fun x => -(s * E x) - Q x := by funext x; grind
    rw [← e]; exact h1
  have hne : h ≠ [] := by
    intro h3
    apply hT
    apply zeros_of_ev hlen
    have hm := no_multiple (k := k) (P := fun x => -(1 / s) * (-(s * E x) - Q x)) (R := timesR k (castL A) (castL (slopeI k))) (poly_mul (poly_const _) hpol) (by rw [hlen]; exact Nat.le_refl _) (fun x => by
      have h4 := hrel x
      rw [h3, evZ_nil, evZ_topP] at h4
      grind)
    exact hm
  have hht : Trim h := ok.trim hgt
  have hsh := ok.short
  obtain ⟨l, h1, h2, _⟩ := chain_ok (R := fun f g => Re02.rest f.length f g) (fun f g hg ht => rest_ok f.length f g (Nat.le_refl _) hg ht) ((k ++ [1]).length + g.length + 1) (k ++ [1]) h hne (trim_f k) hht (by omega)
  refine ⟨h, l, ?_, h2, ?_, s, t, _, hs, ht, hpol.nice, hrel⟩
  · show Re02.chainFrom ((k ++ [1]).length + g.length + 1) (k ++ [1]) (Re02.rest g.length g (k ++ [1])) = _
    rw [hh, chainFrom_is, h1]
  · have e : evZ (Re02.trim (topP k A)) = ev (timesR k (castL A) (castL (slopeI k))) := funext (evZ_topP k A)
    obtain ⟨u, v, hu, hv, hb⟩ := bz_of hk hi hlen hT
    rw [← e] at hb
    -- T = (t h - f E) / s
    refine ⟨fun x => u x - v x * ((1 / s) * (-(s * E x) - Q x)), fun x => (t / s) * v x, nice_sub hu (nice_mul hv (nice_mul (nice_const _) hpol.nice)), nice_mul (nice_const _) hv, fun x => ?_⟩
    have h3 := hb x
    have h4 := hrel x
    have h5 : evZ (Re02.trim (topP k A)) x = (1 / s) * (t * evZ h x - evZ (k ++ [1]) x * (-(s * E x) - Q x)) := by rw [h4]; grind
    rw [h5] at h3
    show (u x - v x * ((1 / s) * (-(s * E x) - Q x))) * evZ (k ++ [1]) x + (t / s) * v x * evZ h x = 1
    grind
end Rf

set_option autoImplicit false
set_option maxHeartbeats 4000000
set_option maxRecDepth 100000
namespace Rf
/-! Roots counted, parted; a field's own constants. -/
/-- a field's coefficients that a call lets pass, of a polynomial that can't be parted -/
structure Fld (k : List Int) : Prop where
  deg : Deg k
  irr : Irr k
  bd : Bd 20 k
/-- the changes along the program's chains at a point -/
def V1 (k : List Int) (x : Rat) : Int := chg ((chainP k (ofI k 1)).map evZ) x
def VA (k A : List Int) (x : Rat) : Int := chg ((chainP k A).map evZ) x
theorem ofI_length {k : List Int} (hk : Deg k) (c : Int) : (ofI k c).length = k.length := by
  have := hk.1
  simp [ofI]; omega
theorem castL_ofI (k : List Int) (c : Int) : castL (ofI k c) = ofR k (c : Rat) := by
  unfold castL ofI ofR
  rw [List.map_cons, List.map_replicate]
  rfl
theorem one_ne_zeros {k : List Int} (hk : Deg k) : castL (ofI k 1) ≠ zerosR k := by
  rw [castL_ofI]
  intro h2
  rcases hk.cases with ⟨p, q, rfl⟩ | ⟨p, q, r, rfl⟩ | ⟨p, q, r, s, rfl⟩
  · exact absurd (List.cons.inj (show [((1 : Int) : Rat), 0] = [0, 0] from h2)).1 (by decide)
  · exact absurd (List.cons.inj (show [((1 : Int) : Rat), 0, 0] = [0, 0, 0] from h2)).1 (by decide)
  · exact absurd (List.cons.inj (show [((1 : Int) : Rat), 0, 0, 0] = [0, 0, 0, 0] from h2)).1 (by decide)
theorem chain1 {k : List Int} (hF : Fld k) : ∃ l, (chainP k (ofI k 1)).map evZ = evZ (k ++ [1]) :: evZ (slopeI k) :: l ∧ SC (evZ (k ++ [1])) (evZ (slopeI k)) l ∧ Bz (evZ (k ++ [1])) (evZ (slopeI k)) := by
  obtain ⟨l, h1, h2, h3⟩ := chainP_ok hF.deg hF.irr (ofI_length hF.deg 1) (one_ne_zeros hF.deg)
  have e : evZ (Re02.trim (topP k (ofI k 1))) = evZ (slopeI k) := by
    funext x
    rw [evZ_topP, castL_ofI, show ((1 : Int) : Rat) = 1 from rfl, times_of hF.deg _ (by rw [castL_length, slope_length hF.deg]), scale_one]
    rfl
  rw [e] at h2 h3
  refine ⟨l.map evZ, ?_, h2, h3⟩
  rw [h1, List.map_cons, List.map_cons, e]
theorem chainA {k A : List Int} (hF : Fld k) (hA : A.length = k.length) (hz : castL A ≠ zerosR k) : ∃ l, (chainP k A).map evZ = evZ (k ++ [1]) :: evZ (Re02.trim (topP k A)) :: l ∧ SC (evZ (k ++ [1])) (evZ (Re02.trim (topP k A))) l ∧ Bz (evZ (k ++ [1])) (evZ (Re02.trim (topP k A))) := by
  obtain ⟨l, h1, h2, h3⟩ := chainP_ok hF.deg hF.irr hA hz
  exact ⟨l.map evZ, by rw [h1]; rfl, h2, h3⟩
theorem V1_mono {k A : List Int} (hF : Fld k) (hA : A.length = k.length) (hz : castL A ≠ zerosR k) {a b : Rat} (hab : a ≤ b) : V1 k b ≤ V1 k a ∧ (V1 k b = V1 k a → VA k A b = VA k A a) := by
  obtain ⟨l, e1, c1, b1⟩ := chain1 hF
  obtain ⟨m, e2, c2, b2⟩ := chainA hF hA hz
  unfold V1 VA
  rw [e1, e2]
  have h1 := ab_nonneg a
  have h2 := ab_nonneg b
  exact same_still (nice_evZ _) (nice_evZ _) (diff_slope hF.deg) c1 b1 c2 b2 (ab a + ab b + 1) (by grind) (by grind) (by grind) hab
/-- beyond the bound nothing changes -/
theorem V1_right {k : List Int} (hF : Fld k) {m : Nat} (hm : Bd m k) {a b : Rat} (ha : (m : Rat) + 1 ≤ a) (hab : a ≤ b) : V1 k a = V1 k b := by
  obtain ⟨l, e1, c1, b1⟩ := chain1 hF
  unfold V1
  rw [e1]
  refine flag_still c1 b1 hab false fun x hx _ => ?_
  have := far_right k hm x (by grind)
  exact decide_eq_false (by grind)
theorem V1_left {k : List Int} (hF : Fld k) {m : Nat} (hm : Bd m k) {a b : Rat} (hb : b ≤ -((m : Rat) + 1)) (hab : a ≤ b) : V1 k a = V1 k b := by
  obtain ⟨l, e1, c1, b1⟩ := chain1 hF
  unfold V1
  rw [e1]
  refine flag_still c1 b1 hab (decide (k.length % 2 = 1)) fun x _ hx => ?_
  obtain ⟨h1, h2⟩ := far_left k hm x (by grind)
  by_cases hp : k.length % 2 = 1
  · have := h2 hp
    rw [decide_eq_true hp]
    exact decide_eq_true (by grind)
  · have := h1 (by omega)
    rw [decide_eq_false hp]
    exact decide_eq_false (by grind)
theorem slope_bd {k : List Int} (hk : Deg k) (hb : Bd 20 k) : Bd 80 (slopeI k) := by
  rcases hk.cases with ⟨p, q, rfl⟩ | ⟨p, q, r, rfl⟩ | ⟨p, q, r, s, rfl⟩
  · rw [slope2]
    have := hb q (by simp)
    intro a ha
    simp at ha
    rcases ha with rfl | rfl <;> omega
  · rw [slope3]
    have := hb q (by simp)
    have := hb r (by simp)
    intro a ha
    simp at ha
    rcases ha with rfl | rfl | rfl <;> omega
  · rw [slope4]
    have := hb q (by simp)
    have := hb r (by simp)
    have := hb s (by simp)
    intro a ha
    simp at ha
    rcases ha with rfl | rfl | rfl | rfl <;> omega
theorem evZ_bdN {M : Nat} (l : List Int) {B : Nat} (h : Bd M l) (hB : 1 ≤ B) (x : Rat) (hx : ab x ≤ (B : Rat)) : ab (evZ l x) ≤ ((M * l.length * B ^ l.length : Nat) : Rat) := by
  have := evZ_bd l h (nat_cast_le hB) x hx
  push_cast
  exact this
theorem evZ_lipN {M : Nat} (l : List Int) {B : Nat} (h : Bd M l) (hB : 1 ≤ B) (x y : Rat) (hx : ab x ≤ (B : Rat)) (hy : ab y ≤ (B : Rat)) : ab (evZ l x - evZ l y) ≤ ((M * (l.length * l.length) * B ^ l.length : Nat) : Rat) * ab (x - y) := by
  have := evZ_lip l h (nat_cast_le hB) x y hx hy
  push_cast
  exact this
/-- **roots are apart** -/
theorem V1_apart {k : List Int} (hF : Fld k) {a b : Rat} (ha : ab a ≤ ((82 : Nat) : Rat)) (hb : ab b ≤ ((82 : Nat) : Rat)) (hab : a ≤ b) (hs : (b - a) * ((2 ^ 204 : Nat) : Rat) < 1) : V1 k a ≤ V1 k b + 1 := by
  obtain ⟨l, e1, c1, b1⟩ := chain1 hF
  have hd := hF.deg
  have h0 : 1 ≤ k.length := by have := hd.1; omega
  have hS : (slopeI k).length = k.length := slope_length hd
  have hS' : (castL (slopeI k)).length = k.length := by rw [castL_length, hS]
  obtain ⟨m, hm⟩ : ∃ m, k.length = m + 1 := ⟨k.length - 1, by omega⟩
  obtain ⟨z, hz⟩ := int_coef hd hS m (by omega)
  have hzn : z ≠ 0 := by
    intro h
    apply last_ne hd hF.irr hS' (slope_ne hd)
    have : k.length - 1 = m := by omega
    rw [this, hz, h]
    rfl
  have hcay := cayley hd hS'
  rw [hm, flc_succ, hz] at hcay
  have hw := (fl_cast hd hS m (by omega)).2
  obtain ⟨E, hE, he⟩ := ev_times h0 (flc k (castL (slopeI k)) m) hS'
  have hN : ∀ x, evZ (flI k (slopeI k) m).2 x * evZ (slopeI k) x + E x * evZ (k ++ [1]) x = -(z : Rat) := by
    intro x
    have h1 := congrArg (fun l => ev l x) hcay
    have h1' : ev (plusR (timesR k (flc k (castL (slopeI k)) m) (castL (slopeI k))) (ofR k (z : Rat))) x = ev (zerosR k) x := h1
    rw [ev_plusR (by rw [times_length h0 _ hS', ofR_length h0]), ev_ofR h0, ev_zeros, he] at h1'
    have h2 : evZ (flI k (slopeI k) m).2 x = ev (flc k (castL (slopeI k)) m) x := by unfold evZ; rw [hw]
    rw [h2]
    have h3 : evZ (slopeI k) x = ev (castL (slopeI k)) x := rfl
    rw [h3]
    grind
  have hzab : 1 ≤ ab (-(z : Rat)) := by
    rw [ab_neg]
    rcases Int.lt_or_gt_of_ne hzn with h | h
    · have h1 : 1 ≤ -z := by omega
      have h2 : ((1 : Int) : Rat) ≤ ((-z : Int) : Rat) := by exact_mod_cast h1
      push_cast at h2
      have := neg_le_ab (z : Rat)
      exact Rat.le_trans h2 this
    · have h1 : 1 ≤ z := by omega
      have h2 : ((1 : Int) : Rat) ≤ (z : Rat) := by exact_mod_cast h1
      exact Rat.le_trans h2 (le_ab _)
  have hwb := (flI_bd hd hF.bd hS (M := 80) (by decide) (slope_bd hd hF.bd) m (by omega)).1
  have hwl := flI_length hd hS m (by omega)
  have hk4 := hd.2
  have hm3 : m ≤ 3 := by omega
  have hWm : ∀ x, ab x ≤ ((82 : Nat) : Rat) → ab (evZ (flI k (slopeI k) m).2 x) ≤ ((2 ^ 166 : Nat) : Rat) := by
    intro x hx
    refine Rat.le_trans (evZ_bdN _ hwb (by decide) x hx) (nat_cast_le ?_)
    rw [hwl]
    have i1 : (80 * 2 ^ 39) ^ m ≤ (80 * 2 ^ 39) ^ 3 := Nat.pow_le_pow_right (by decide) hm3
    have i2 : 82 ^ k.length ≤ 82 ^ 4 := Nat.pow_le_pow_right (by decide) hk4
    have i3 := Nat.mul_le_mul (Nat.mul_le_mul i1 hk4) i2
    exact Nat.le_trans i3 (by decide)
  have hLm : ∀ x y, ab x ≤ ((82 : Nat) : Rat) → ab y ≤ ((82 : Nat) : Rat) → ab (evZ (slopeI k) x - evZ (slopeI k) y) ≤ ((2 ^ 37 : Nat) : Rat) * ab (x - y) := by
    intro x y hx hy
    refine Rat.le_trans (evZ_lipN _ (slope_bd hd hF.bd) (by decide) x y hx hy) (Rat.mul_le_mul_of_nonneg_right (nat_cast_le ?_) (ab_nonneg _))
    rw [hS]
    have i2 : 82 ^ k.length ≤ 82 ^ 4 := Nat.pow_le_pow_right (by decide) hk4
    have i3 := Nat.mul_le_mul (Nat.mul_le_mul_left 80 (Nat.mul_le_mul hk4 hk4)) i2
    exact Nat.le_trans i3 (by decide)
  unfold V1
  rw [e1]
  refine apart (nice_evZ _) (nice_evZ _) hE.nice (diff_slope hd) c1 b1 hzab hN ((82 : Nat) : Rat) (by decide) (Wm := ((2 ^ 166 : Nat) : Rat)) (Lm := ((2 ^ 37 : Nat) : Rat)) (nat_pos_cast (Nat.two_pow_pos _)) hWm hLm (nat_pos_cast (Nat.two_pow_pos _)) ha hb hab ?_
  have e : (2 : Rat) * ((2 ^ 166 : Nat) : Rat) * ((2 ^ 37 : Nat) : Rat) = ((2 ^ 204 : Nat) : Rat) := by
    have h1 : 2 * 2 ^ 166 * 2 ^ 37 = 2 ^ 204 := by decide
    have h2 : ((2 * 2 ^ 166 * 2 ^ 37 : Nat) : Rat) = ((2 ^ 204 : Nat) : Rat) := by rw [h1]
    rw [← h2, Rat.natCast_mul, Rat.natCast_mul]
    rfl
  rw [e]
  exact hs
end Rf

set_option autoImplicit false
set_option maxHeartbeats 4000000
set_option maxRecDepth 100000
namespace Rf
/-! The specification's counts and spans. -/
theorem foldl_nat_add (l : List Int) : ∀ n : Nat, l.foldl (fun n a => n + a.natAbs) n = n + l.foldl (fun n a => n + a.natAbs) 0 := by
  induction l with
  | nil => intro n; simp
  | cons a l ih => intro n; rw [List.foldl_cons, List.foldl_cons, ih (n + a.natAbs), ih (0 + a.natAbs)]; omega
theorem far_bd {k : List Int} : Bd (Re02.far (k ++ [1]) - 1) k ∧ 1 ≤ Re02.far (k ++ [1]) := by
  unfold Re02.far
  refine ⟨?_, by omega⟩
  have h : ∀ l : List Int, Bd (l.foldl (fun n a => n + a.natAbs) 0) l := by
    intro l
    induction l with
    | nil => intro a h; cases h
    | cons b l ih =>
      intro a ha
      rw [List.foldl_cons, foldl_nat_add]
      rcases List.mem_cons.mp ha with rfl | h
      · omega
      · have := ih a h; omega
  intro a ha
  have := h (k ++ [1]) a (List.mem_append_left _ ha)
  omega
theorem far_le {k : List Int} (hd : Deg k) (hb : Bd 20 k) : Re02.far (k ++ [1]) ≤ 82 := by
  unfold Re02.far
  rcases hd.cases with ⟨p, q, rfl⟩ | ⟨p, q, r, rfl⟩ | ⟨p, q, r, s, rfl⟩
  · have := hb p (by simp); have := hb q (by simp)
    simp; omega
  · have := hb p (by simp); have := hb q (by simp); have := hb r (by simp)
    simp; omega
  · have := hb p (by simp); have := hb q (by simp); have := hb r (by simp); have := hb s (by simp)
    simp; omega
/-- how many roots lie at a point or below it -/
def U (k : List Int) (x : Rat) : Int := V1 k (-(Re02.far (k ++ [1]) : Rat)) - V1 k x
theorem U_mono {k : List Int} (hF : Fld k) {a b : Rat} (hab : a ≤ b) : U k a ≤ U k b := by
  have := (V1_mono hF (ofI_length hF.deg 1) (one_ne_zeros hF.deg) hab).1
  unfold U
  omega
theorem U_same {k A : List Int} (hF : Fld k) (hA : A.length = k.length) (hz : castL A ≠ zerosR k) {a b : Rat} (h : U k a = U k b) : VA k A a = VA k A b := by
  unfold U at h
  rcases (show a ≤ b ∨ b ≤ a from Rat.le_total) with h1 | h1
  · exact ((V1_mono hF hA hz h1).2 (by omega)).symm
  · exact (V1_mono hF hA hz h1).2 (by omega)
theorem slope_trim {k : List Int} (hd : Deg k) : Trim (slopeI k) := by
  rcases hd.cases with ⟨p, q, rfl⟩ | ⟨p, q, r, rfl⟩ | ⟨p, q, r, s, rfl⟩
  · rw [slope2]; intro h; simp
  · rw [slope3]; intro h; simp
  · rw [slope4]; intro h; simp
theorem evZ_one {k : List Int} (hd : Deg k) (x : Rat) : evZ (ofI k 1) x = 1 := by
  unfold evZ
  rw [castL_ofI, ev_ofR (by have := hd.1; omega)]
  rfl
theorem pt_whole (z : Int) : pt (Re02.whole z) = (z : Rat) := by
  show (z : Rat) / ((1 : Nat) : Rat) = z
  have : ((1 : Nat) : Rat) = 1 := rfl
  rw [this]
  grind
/-- the specification's own chain loses as the program's does -/
theorem turns_loss {k A g : List Int} (hF : Fld k) (hA : A.length = k.length) (hz : castL A ≠ zerosR k) (hg : ∀ x, evZ g x = evZ (slopeI k) x * evZ A x) (hgt : Trim g) (x y : Re02.Q) (hx : 0 < x.d) (hy : 0 < y.d) :
    (Re02.turnsBehind (Re02.chain (k ++ [1]) g) x : Int) - (Re02.turnsBehind (Re02.chain (k ++ [1]) g) y : Int) = VA k A (pt x) - VA k A (pt y) := by
  obtain ⟨h, l, e, c, b, s, t, E, hs, ht, hE, hr⟩ := chainS_ok hF.deg hF.irr hA hz hg hgt
  obtain ⟨m, e2, c2, b2⟩ := chainA hF hA hz
  rw [e]
  rw [(turns_is x hx l _ _ c b).1 (no_root hF.deg hF.irr _), (turns_is y hy l _ _ c b).1 (no_root hF.deg hF.irr _)]
  unfold VA
  rw [e2]
  exact (same_loss (nice_evZ _) (nice_evZ _) (nice_evZ _) hE hs ht hr c2 c b2 b (pt x) (pt y)).symm
theorem VA_one {k : List Int} (x : Rat) : VA k (ofI k 1) x = V1 k x := rfl
theorem upTo_is {k : List Int} (hF : Fld k) (x : Re02.Q) (hx : 0 < x.d) (h : -(Re02.far (k ++ [1]) : Rat) ≤ pt x) : (Re02.upToBy (k ++ [1]) (Re02.chain (k ++ [1]) (Re02.slope (k ++ [1]))) x : Int) = U k (pt x) := by
  have hl := turns_loss hF (ofI_length hF.deg 1) (one_ne_zeros hF.deg) (g := slopeI k) (fun y => by rw [evZ_one hF.deg]; grind) (slope_trim hF.deg) (Re02.whole (0 - (Re02.far (k ++ [1]) : Int))) x Nat.one_pos hx
  rw [VA_one, VA_one, pt_whole] at hl
  have hm := U_mono hF h
  have e : (((0 - (Re02.far (k ++ [1]) : Int)) : Int) : Rat) = -(Re02.far (k ++ [1]) : Rat) := by
    push_cast
    have : (((Re02.far (k ++ [1]) : Nat) : Int) : Rat) = ((Re02.far (k ++ [1]) : Nat) : Rat) := rfl
    grind
  rw [e] at hl
  unfold Re02.upToBy Re02.base
  show ((Re02.turnsBehind (Re02.chain (k ++ [1]) (slopeI k)) _ - Re02.turnsBehind (Re02.chain (k ++ [1]) (slopeI k)) _ : Nat) : Int) = _
  unfold U at hm ⊢
  omega
/-- how many there are -/
theorem count_is {k : List Int} (hF : Fld k) : (Re02.count (k ++ [1]) : Int) = U k (Re02.far (k ++ [1]) : Rat) := by
  have h := upTo_is hF (Re02.whole (Re02.far (k ++ [1]))) Nat.one_pos (by
    rw [pt_whole]
    have : (0 : Rat) ≤ (Re02.far (k ++ [1]) : Rat) := nat_cast_le (Nat.zero_le _)
    have e : (((Re02.far (k ++ [1]) : Nat) : Int) : Rat) = ((Re02.far (k ++ [1]) : Nat) : Rat) := rfl
    rw [e]
    grind)
  rw [pt_whole] at h
  exact h
/-- a point told by a power of two below -/
def ptj (j : Nat) (z : Int) : Rat := (z : Rat) / ((2 ^ j : Nat) : Rat)
theorem ptj_pt (j : Nat) (z : Int) : pt ⟨z, 2 ^ j⟩ = ptj j z := rfl
theorem ptj_two (j : Nat) (z : Int) : ptj (j + 1) (2 * z) = ptj j z := by
  unfold ptj
  have h : ((2 ^ (j + 1) : Nat) : Rat) = 2 * ((2 ^ j : Nat) : Rat) := by
    rw [Nat.pow_succ, Nat.mul_comm, Rat.natCast_mul]; rfl
  have h2 := nat_pos_cast (Nat.two_pow_pos j)
  rw [h]
  push_cast
  grind
theorem ptj_le {j : Nat} {z y : Int} : ptj j z ≤ ptj j y ↔ z ≤ y := by
  unfold ptj
  have h2 := nat_pos_cast (Nat.two_pow_pos j)
  have h3 := recip_pos h2
  generalize ((2 ^ j : Nat) : Rat) = P at *
  constructor
  · intro h
    have := Rat.mul_le_mul_of_nonneg_right h (Rat.le_of_lt h2)
    have e1 : (z : Rat) / P * P = z := by grind
    have e2 : (y : Rat) / P * P = y := by grind
    rw [e1, e2] at this
    exact_mod_cast this
  · intro h
    have h4 : (z : Rat) ≤ (y : Rat) := by exact_mod_cast h
    have := Rat.mul_le_mul_of_nonneg_right h4 (Rat.le_of_lt h3)
    grind
theorem ptj_sub (j : Nat) (z y : Int) : ptj j z - ptj j y = ((z - y : Int) : Rat) / ((2 ^ j : Nat) : Rat) := by
  unfold ptj
  push_cast
  grind
/-- narrow enough -/
theorem narrow {k : List Int} (hF : Fld k) {j : Nat} (hj : 212 ≤ j) {l r : Int} (hl : ab (ptj j l) ≤ ((82 : Nat) : Rat)) (hr : ab (ptj j r) ≤ ((82 : Nat) : Rat)) (hlr : l ≤ r) (hw : r - l ≤ 164) : U k (ptj j r) ≤ U k (ptj j l) + 1 := by
  have h := V1_apart hF hl hr (ptj_le.mpr hlr) (by
    rw [ptj_sub]
    have h2 := nat_pos_cast (Nat.two_pow_pos j)
    have h3 : ((r - l : Int) : Rat) ≤ ((164 : Int) : Rat) := by exact_mod_cast hw
    have h4 : ((164 * 2 ^ 204 : Nat) : Rat) < ((2 ^ j : Nat) : Rat) := by
      have : 164 * 2 ^ 204 < 2 ^ j := Nat.lt_of_lt_of_le (show 164 * 2 ^ 204 < 2 ^ 212 by decide) (Nat.pow_le_pow_right (by decide) hj)
      exact_mod_cast this
    rw [Rat.natCast_mul] at h4
    have h6 : ((164 : Nat) : Rat) = ((164 : Int) : Rat) := rfl
    rw [h6] at h4
    have h7 := recip_pos h2
    have h8 := nat_pos_cast (Nat.two_pow_pos 204)
    have h9 := Rat.mul_le_mul_of_nonneg_right h3 (Rat.le_of_lt h8)
    generalize ((2 ^ 204 : Nat) : Rat) = T at *
    generalize ((2 ^ j : Nat) : Rat) = P at *
    generalize ((r - l : Int) : Rat) = d at *
    have h10 : d * T < P := by grind
    have h11 := Rat.mul_lt_mul_of_pos_right h10 h7
    grind)
  unfold U
  omega
end Rf

set_option autoImplicit false
set_option maxHeartbeats 4000000
set_option maxRecDepth 100000
namespace Rf
/-- what a span has found: its ends, i - 1 roots ahead of it, the i-th in it -/
structure SpanOk (k : List Int) (i : Nat) (s : Re02.Q × Re02.Q) : Prop where
  d1 : 0 < s.1.d
  d2 : 0 < s.2.d
  u1 : U k (pt s.1) = (i : Int) - 1
  u2 : U k (pt s.2) = (i : Int)
theorem span_ok {k : List Int} (hF : Fld k) (i : Nat) : ∀ (n : Nat) (l r : Int) (e : Nat), 212 ≤ n + e → r - l = 2 * (Re02.far (k ++ [1]) : Int) → -(Re02.far (k ++ [1]) : Rat) ≤ ptj e l → ptj e r ≤ (Re02.far (k ++ [1]) : Rat) →
    U k (ptj e l) < (i : Int) → (i : Int) ≤ U k (ptj e r) → SpanOk k i (Re02.span (k ++ [1]) (Re02.chain (k ++ [1]) (Re02.slope (k ++ [1]))) i n l r e) := by
  intro n
  induction n with
  | zero =>
    intro l r e hn hw hl hr hul hur
    have h82 := nat_cast_le (far_le hF.deg hF.bd)
    have hlr : l ≤ r := by omega
    have hptlr := (ptj_le (j := e)).mpr hlr
    have h1 := narrow hF (j := e) (by omega) (l := l) (r := r) (ab_le (by grind) (by grind)) (ab_le (by grind) (by grind)) hlr (by have := far_le hF.deg hF.bd; omega)
    exact ⟨Nat.two_pow_pos e, Nat.two_pow_pos e, by show U k (ptj e l) = _; omega, by show U k (ptj e r) = _; omega⟩
  | succ n ih =>
    intro l r e hn hw hl hr hul hur
    have hlr : l ≤ r := by omega
    have hptlr := (ptj_le (j := e)).mpr hlr
    have hfar : (0 : Rat) ≤ (Re02.far (k ++ [1]) : Rat) := nat_cast_le (Nat.zero_le _)
    have el := upTo_is hF ⟨l, 2 ^ e⟩ (Nat.two_pow_pos e) (by rw [ptj_pt]; exact hl)
    have er := upTo_is hF ⟨r, 2 ^ e⟩ (Nat.two_pow_pos e) (by rw [ptj_pt]; grind)
    rw [ptj_pt] at el er
    have hmid1 : ptj e l ≤ ptj (e + 1) (l + r) := by rw [← ptj_two]; exact ptj_le.mpr (by omega)
    have hmid2 : ptj (e + 1) (l + r) ≤ ptj e r := by rw [← ptj_two e r]; exact ptj_le.mpr (by omega)
    have em := upTo_is hF ⟨l + r, 2 ^ (e + 1)⟩ (Nat.two_pow_pos _) (by rw [ptj_pt]; grind)
    rw [ptj_pt] at em
    have hmono := U_mono hF hptlr
    show SpanOk k i (if Re02.upToBy (k ++ [1]) (Re02.chain (k ++ [1]) (Re02.slope (k ++ [1]))) ⟨r, 2 ^ e⟩ - Re02.upToBy (k ++ [1]) (Re02.chain (k ++ [1]) (Re02.slope (k ++ [1]))) ⟨l, 2 ^ e⟩ ≤ 1 then (⟨l, 2 ^ e⟩, ⟨r, 2 ^ e⟩) else
      if i ≤ Re02.upToBy (k ++ [1]) (Re02.chain (k ++ [1]) (Re02.slope (k ++ [1]))) ⟨l + r, 2 ^ (e + 1)⟩ then Re02.span (k ++ [1]) (Re02.chain (k ++ [1]) (Re02.slope (k ++ [1]))) i n (2 * l) (l + r) (e + 1) else Re02.span (k ++ [1]) (Re02.chain (k ++ [1]) (Re02.slope (k ++ [1]))) i n (l + r) (2 * r) (e + 1))
    split
    · exact ⟨Nat.two_pow_pos e, Nat.two_pow_pos e, by show U k (ptj e l) = _; omega, by show U k (ptj e r) = _; omega⟩
    · split
      · apply ih (2 * l) (l + r) (e + 1) (by omega) (by omega)
        · rw [ptj_two]; exact hl
        · grind
        · rw [ptj_two]; exact hul
        · omega
      · apply ih (l + r) (2 * r) (e + 1) (by omega) (by omega)
        · grind
        · rw [ptj_two]; exact hr
        · omega
        · rw [ptj_two]; exact hur
theorem ptj_zero (z : Int) : ptj 0 z = (z : Rat) := by
  unfold ptj
  have : ((2 ^ 0 : Nat) : Rat) = 1 := rfl
  rw [this]
  grind
theorem U_start {k : List Int} : U k (-(Re02.far (k ++ [1]) : Rat)) = 0 := by unfold U; omega
theorem spanOf_ok {k : List Int} (hF : Fld k) (i : Nat) (h0 : 0 < i) (h1 : i ≤ Re02.count (k ++ [1])) : SpanOk k i (Re02.spanOf (k ++ [1]) i) := by
  have hc := count_is hF
  unfold Re02.spanOf Re02.spanBy
  have e1 : (((0 - (Re02.far (k ++ [1]) : Int)) : Int) : Rat) = -(Re02.far (k ++ [1]) : Rat) := by
    push_cast
    have : (((Re02.far (k ++ [1]) : Nat) : Int) : Rat) = ((Re02.far (k ++ [1]) : Nat) : Rat) := rfl
    grind
  apply span_ok hF i
  · decide
  · omega
  · rw [ptj_zero, e1]; exact Rat.le_refl
  · rw [ptj_zero]; exact Rat.le_refl
  · rw [ptj_zero, e1, U_start]; omega
  · rw [ptj_zero]
    show _ ≤ U k (Re02.far (k ++ [1]) : Rat)
    omega
/-! ### the polynomial that tells a number -/
theorem clear_psi (v : L) : Nf01.clear (v.map psi) = abvOf v := by
  unfold Nf01.clear abvOf lcmOf
  rw [List.foldl_map, List.map_map]
  rfl
theorem plus_last {u v : List Int} (h : u.length < v.length) (hv : v ≠ []) : ∃ hn : Re02.plus u v ≠ [], (Re02.plus u v).getLast hn = v.getLast hv ∧ (Re02.plus u v).length = v.length := by
  induction u generalizing v with
  | nil =>
    have e : Re02.plus [] v = v := by cases v <;> rfl
    exact ⟨by rw [e]; exact hv, by simp only [e], by rw [e]⟩
  | cons a u ih =>
    cases v with
    | nil => exact absurd rfl hv
    | cons b v =>
      have hv2 : v ≠ [] := by intro e; subst e; simp at h
      obtain ⟨hn, e1, e2⟩ := ih (v := v) (by simpa using h) hv2
      refine ⟨by simp [Re02.plus], ?_, by show (Re02.plus u v).length + 1 = v.length + 1; rw [e2]⟩
      show ((a + b) :: Re02.plus u v).getLast _ = _
      rw [List.getLast_cons hn, e1, List.getLast_cons hv2]
theorem times_last {f g : List Int} (hf : f ≠ []) (hg : g ≠ []) : ∃ hn : Re02.times f g ≠ [], (Re02.times f g).getLast hn = f.getLast hf * g.getLast hg ∧ (Re02.times f g).length + 1 = f.length + g.length := by
  induction f with
  | nil => exact absurd rfl hf
  | cons a f ih =>
    by_cases h1 : f = []
    · subst h1
      have e : Re02.times [a] g = Re02.scale a g := by
        show Re02.plus (Re02.scale a g) [0] = _
        cases g with
        | nil => exact absurd rfl hg
        | cons b g =>
          show (a * b + 0) :: Re02.plus (Re02.scale a g) [] = a * b :: Re02.scale a g
          rw [Int.add_zero]
          congr 1
          cases g <;> rfl
      have hn : Re02.scale a g ≠ [] := by simpa [Re02.scale] using hg
      refine ⟨by rw [e]; exact hn, ?_, by rw [e]; simp [Re02.scale]; omega⟩
      simp only [e]
      exact List.getLast_map hn
    · obtain ⟨hn, e1, e2⟩ := ih h1
      have hfl : 1 ≤ f.length := by
        cases f with
        | nil => exact absurd rfl h1
        | cons _ _ => simp
      obtain ⟨hn2, e3, e4⟩ := plus_last (u := Re02.scale a g) (v := 0 :: Re02.times f g) (by simp [Re02.scale]; omega) (by simp)
      refine ⟨hn2, ?_, ?_⟩
      · show (Re02.plus (Re02.scale a g) (0 :: Re02.times f g)).getLast _ = _
        rw [e3, List.getLast_cons hn, e1, List.getLast_cons h1]
      · show (Re02.plus (Re02.scale a g) (0 :: Re02.times f g)).length + 1 = _
        rw [e4]
        simp
        omega
theorem times_trim {f g : List Int} (hf : Trim f) (hg : Trim g) (hgn : g ≠ []) : Trim (Re02.times f g) := by
  intro hn
  have hfn : f ≠ [] := by intro e; subst e; exact hn rfl
  obtain ⟨hn2, e, _⟩ := times_last hfn hgn
  rw [e]
  exact Int.mul_ne_zero (hf hfn) (hg hgn)
/-- **the sign of a number at a root**, by the program's chain at whatever two points around that root -/
theorem sign_is {k : List Int} (hF : Fld k) {v : L} (hv : v.length = k.length) (hz : v ≠ zerosR k) (i : Nat) (h0 : 0 < i) (h1 : i ≤ Re02.count (k ++ [1])) {a b : Rat} (ha : U k a = (i : Int) - 1) (hb : U k b = (i : Int)) :
    Nf01.sign k (v.map psi) i = VA k (abvOf v) a - VA k (abvOf v) b := by
  have hA : (abvOf v).length = k.length := by rw [abv_length, hv]
  have hzA : castL (abvOf v) ≠ zerosR k := by
    intro h
    apply hz
    rw [of_abv v, h]
    simp [scaleR]
  have hs := spanOf_ok hF i h0 h1
  have hne : Re02.trim (abvOf v) ≠ [] := by
    intro h
    apply hzA
    apply zeros_of_ev (by rw [castL_length, hA])
    intro x
    show evZ (abvOf v) x = 0
    rw [← evZ_trim, h]
    rfl
  have hl := turns_loss hF hA hzA (g := Re02.times (slopeI k) (Re02.trim (abvOf v))) (fun x => by rw [evZ_times, evZ_trim]) (times_trim (slope_trim hF.deg) (trim_trim _) hne) (Re02.spanOf (k ++ [1]) i).1 (Re02.spanOf (k ++ [1]) i).2 hs.d1 hs.d2
  show Re02.signThere (k ++ [1]) i (Re02.trim (Nf01.clear (v.map psi))) = _
  rw [clear_psi]
  unfold Re02.signThere Re02.signOver
  rw [U_same hF hA hzA (hs.u1.trans ha.symm), U_same hF hA hzA (hs.u2.trans hb.symm)] at hl
  exact hl
end Rf

set_option autoImplicit false
set_option maxHeartbeats 4000000
set_option maxRecDepth 100000
namespace Rf
theorem abv_zeros (k : List Int) : abvOf (zerosR k) = List.replicate k.length 0 := by
  unfold abvOf
  rw [List.map_replicate]
  congr 1
  exact Int.zero_mul _
theorem trim_zeros (n : Nat) : Re02.trim (List.replicate n 0) = [] := by
  induction n with
  | zero => rfl
  | succ n ih =>
    rw [List.replicate_succ]
    show (if (0 : Int) = 0 ∧ Re02.trim (List.replicate n 0) = [] then [] else _) = []
    rw [if_pos ⟨rfl, ih⟩]
theorem chain_zero {k : List Int} (hd : Deg k) : Re02.chain (k ++ [1]) (Re02.times (Re02.slope (k ++ [1])) []) = [k ++ [1], List.replicate k.length 0] := by
  rcases hd.cases with ⟨p, q, rfl⟩ | ⟨p, q, r, rfl⟩ | ⟨p, q, r, s, rfl⟩
  · have e : Re02.times (Re02.slope ([p, q] ++ [1])) [] = [0, 0] := rfl
    rw [e]
    simp [Re02.chain, Re02.chainFrom, Re02.rest, Re02.lead, Re02.scale, Re02.plus, Re02.trim, Re02.plain, Re02.content, List.replicate]
  · have e : Re02.times (Re02.slope ([p, q, r] ++ [1])) [] = [0, 0, 0] := rfl
    rw [e]
    simp [Re02.chain, Re02.chainFrom, Re02.rest, Re02.lead, Re02.scale, Re02.plus, Re02.trim, Re02.plain, Re02.content, List.replicate]
  · have e : Re02.times (Re02.slope ([p, q, r, s] ++ [1])) [] = [0, 0, 0, 0] := rfl
    rw [e]
    simp [Re02.chain, Re02.chainFrom, Re02.rest, Re02.lead, Re02.scale, Re02.plus, Re02.trim, Re02.plain, Re02.content, List.replicate]
theorem behind_zeros (x : Re02.Q) : ∀ (n m : Nat), Re02.behind n (List.replicate m 0) x = 0
  | 0, _ => rfl
  | n + 1, m => by
    have hs : Re02.signAt (List.replicate m 0) x = 0 := by
      unfold Re02.signAt
      have : ∀ (l : List (Int × Nat)) (L : Nat), (∀ y ∈ l, y.1 = 0) → (l.map fun y => y.1 * x.n ^ y.2 * (x.d : Int) ^ (L - 1 - y.2)).foldl (fun a b => a + b) 0 = 0 := by
        intro l L
        induction l with
        | nil => intro _; rfl
        | cons y l ih =>
          intro h
          rw [List.map_cons, List.foldl_cons, h y (List.mem_cons_self ..), Int.zero_mul, Int.zero_mul]
          exact ih (fun z hz => h z (List.mem_cons_of_mem _ hz))
      rw [this]
      · rfl
      · intro y hy
        have := List.fst_mem_of_mem_zipIdx hy
        exact (List.mem_replicate.mp this).2
    show (if Re02.signAt (List.replicate m 0) x ≠ 0 then _ else Re02.behind n (Re02.slope (List.replicate m 0)) x) = 0
    rw [if_neg (by rw [hs]; simp)]
    have : Re02.slope (List.replicate m 0) = List.replicate (m - 1) 0 := by
      apply List.eq_replicate_iff.mpr
      constructor
      · simp [Re02.slope]
      · intro b hb
        unfold Re02.slope at hb
        obtain ⟨y, hy, rfl⟩ := List.mem_map.mp hb
        have h1 := List.mem_of_mem_drop hy
        have h2 := List.fst_mem_of_mem_zipIdx h1
        rw [(List.mem_replicate.mp h2).2, Int.mul_zero]
    rw [this]
    exact behind_zeros x n (m - 1)
theorem sign_zero {k : List Int} (hd : Deg k) (i : Nat) : Nf01.sign k ((zerosR k).map psi) i = 0 := by
  show Re02.signOver (Re02.chain (k ++ [1]) (Re02.times (Re02.slope (k ++ [1])) (Re02.trim (Nf01.clear ((zerosR k).map psi))))) _ = 0
  rw [clear_psi, abv_zeros, trim_zeros, chain_zero hd]
  have h : ∀ x, Re02.turnsBehind [k ++ [1], List.replicate k.length 0] x = 0 := by
    intro x
    show Re02.turns [Re02.signBehind (k ++ [1]) x, Re02.signBehind (List.replicate k.length 0) x] = 0
    have e : Re02.signBehind (List.replicate k.length 0) x = 0 := behind_zeros x _ _
    rw [e]
    by_cases h : Re02.signBehind (k ++ [1]) x = 0
    · rw [h]; rfl
    · rw [turns_skip h, turns_one]
  unfold Re02.signOver
  rw [h, h]
  rfl
theorem times_zerosI {k : List Int} (hd : Deg k) : topP k (List.replicate k.length 0) = List.replicate k.length 0 := by
  apply castL_zero_iff.mp
  rw [topP_cast, castL_zero_iff.mpr rfl]
  exact times_zero hd (by rw [castL_length, slope_length hd])
theorem VA_zero {k : List Int} (hd : Deg k) (x : Rat) : VA k (List.replicate k.length 0) x = 0 := by
  unfold VA chainP
  have e : timesI k (List.replicate k.length 0) (slopeI k) = List.replicate k.length 0 := times_zerosI hd
  rw [e, trim_zeros]
  rfl
/-- the sign, of whatever number -/
theorem sign_all {k : List Int} (hF : Fld k) {v : L} (hv : v.length = k.length) (i : Nat) (h0 : 0 < i) (h1 : i ≤ Re02.count (k ++ [1])) {a b : Rat} (ha : U k a = (i : Int) - 1) (hb : U k b = (i : Int)) :
    Nf01.sign k (v.map psi) i = VA k (abvOf v) a - VA k (abvOf v) b := by
  by_cases hz : v = zerosR k
  · rw [hz, sign_zero hF.deg, abv_zeros, VA_zero hF.deg, VA_zero hF.deg]
    rfl
  · exact sign_is hF hv hz i h0 h1 ha hb
/-! ### The program's gaps -/
def boundI (k : List Int) : Nat := 1 + (k ++ [1]).foldl (fun (m : Nat) (a : Int) => max m a.natAbs) 0
theorem max_fold (l : List Int) : ∀ m : Nat, m ≤ l.foldl (fun m a => max m a.natAbs) m ∧ ∀ a ∈ l, a.natAbs ≤ l.foldl (fun m a => max m a.natAbs) m := by
  induction l with
  | nil => intro m; exact ⟨Nat.le_refl m, fun a h => by cases h⟩
  | cons b l ih =>
    intro m
    obtain ⟨h1, h2⟩ := ih (max m b.natAbs)
    rw [List.foldl_cons]
    refine ⟨by omega, fun a ha => ?_⟩
    rcases List.mem_cons.mp ha with rfl | h
    · omega
    · exact h2 a h
theorem bound_bd {k : List Int} : Bd (boundI k - 1) k := by
  intro a ha
  have := (max_fold (k ++ [1]) 0).2 a (List.mem_append_left _ ha)
  unfold boundI
  omega
theorem max_le_sum (l : List Int) : ∀ m n : Nat, m ≤ n → l.foldl (fun m a => max m a.natAbs) m ≤ l.foldl (fun n a => n + a.natAbs) n := by
  induction l with
  | nil => intro m n h; exact h
  | cons b l ih => intro m n h; rw [List.foldl_cons, List.foldl_cons]; exact ih _ _ (by omega)
theorem bound_le_far (k : List Int) : boundI k ≤ Re02.far (k ++ [1]) := by
  have := max_le_sum (k ++ [1]) 0 0 (Nat.le_refl 0)
  unfold boundI Re02.far
  omega
theorem U_bound_left {k : List Int} (hF : Fld k) : U k (-(boundI k : Rat)) = 0 := by
  have h1 := nat_cast_le (bound_le_far k)
  have e : ((boundI k - 1 : Nat) : Rat) + 1 = (boundI k : Rat) := by
    have h : boundI k - 1 + 1 = boundI k := by unfold boundI; omega
    have h2 : ((boundI k - 1 + 1 : Nat) : Rat) = (boundI k : Rat) := by rw [h]
    rw [← h2]
    push_cast
    rfl
  have := V1_left hF bound_bd (a := -(Re02.far (k ++ [1]) : Rat)) (b := -(boundI k : Rat)) (by rw [e]; exact Rat.le_refl) (by grind)
  unfold U
  omega
theorem U_bound_right {k : List Int} (hF : Fld k) : U k (boundI k : Rat) = (Re02.count (k ++ [1]) : Int) := by
  have h1 := nat_cast_le (bound_le_far k)
  have e : ((boundI k - 1 : Nat) : Rat) + 1 = (boundI k : Rat) := by
    have h : boundI k - 1 + 1 = boundI k := by unfold boundI; omega
    have h2 : ((boundI k - 1 + 1 : Nat) : Rat) = (boundI k : Rat) := by rw [h]
    rw [← h2]
    push_cast
    rfl
  have := V1_right hF bound_bd (a := (boundI k : Rat)) (b := (Re02.far (k ++ [1]) : Rat)) (by rw [e]; exact Rat.le_refl) h1
  rw [count_is hF]
  unfold U
  omega
/-- **how many real roots** -/
theorem reals_is {k : List Int} (hF : Fld k) : V1 k (-(boundI k : Rat)) - V1 k (boundI k : Rat) = (Nf01.reals k : Int) := by
  have h1 := U_bound_left hF
  have h2 := U_bound_right hF
  show _ = (Re02.count (k ++ [1]) : Int)
  unfold U at h1 h2
  omega
def halves (g : List (Int × Int)) : List (Int × Int) := g.flatMap fun p => [(2 * p.1, p.1 + p.2), (p.1 + p.2, 2 * p.2)]
def gapsAt (k : List Int) : Nat → List (Int × Int)
  | 0 => [(-(boundI k : Int), (boundI k : Int))]
  | j + 1 => (halves (gapsAt k j)).filter fun p => decide (V1 k (ptj (j + 1) p.1) ≠ V1 k (ptj (j + 1) p.2))
/-- gaps one behind another: what is counted at the first, and at the last; each has a root at least -/
def Lin (k : List Int) (j : Nat) : List (Int × Int) → Int → Int → Prop
  | [], u, w => u = w
  | g :: l, u, w => U k (ptj j g.1) = u ∧ u < U k (ptj j g.2) ∧ Lin k j l (U k (ptj j g.2)) w
theorem Lin.append {k : List Int} {j : Nat} : ∀ {l m : List (Int × Int)} {u v w : Int}, Lin k j l u v → Lin k j m v w → Lin k j (l ++ m) u w
  | [], _, _, _, _, h1, h2 => by
    have e : _ = _ := h1
    subst e
    exact h2
  | g :: l, m, u, v, w, ⟨h1, h2, h3⟩, h4 => ⟨h1, h2, Lin.append h3 h4⟩
/-- one gap's halves -/
theorem lin_half {k : List Int} (hF : Fld k) {j : Nat} {p : Int × Int} (hp : p.1 ≤ p.2) : Lin k (j + 1) ([(2 * p.1, p.1 + p.2), (p.1 + p.2, 2 * p.2)].filter fun p => decide (V1 k (ptj (j + 1) p.1) ≠ V1 k (ptj (j + 1) p.2))) (U k (ptj j p.1)) (U k (ptj j p.2)) := by
  have h1 : U k (ptj (j + 1) (2 * p.1)) ≤ U k (ptj (j + 1) (p.1 + p.2)) := U_mono hF (ptj_le.mpr (by omega))
  have h2 : U k (ptj (j + 1) (p.1 + p.2)) ≤ U k (ptj (j + 1) (2 * p.2)) := U_mono hF (ptj_le.mpr (by omega))
  have d1 : V1 k (ptj (j + 1) (2 * p.1)) ≠ V1 k (ptj (j + 1) (p.1 + p.2)) ↔ U k (ptj (j + 1) (2 * p.1)) < U k (ptj (j + 1) (p.1 + p.2)) := by unfold U at h1 ⊢; omega
  have d2 : V1 k (ptj (j + 1) (p.1 + p.2)) ≠ V1 k (ptj (j + 1) (2 * p.2)) ↔ U k (ptj (j + 1) (p.1 + p.2)) < U k (ptj (j + 1) (2 * p.2)) := by unfold U at h2 ⊢; omega
  simp only [List.filter_cons, List.filter_nil, d1, d2, decide_eq_true_eq]
  rw [← ptj_two j p.1, ← ptj_two j p.2]
  by_cases c1 : U k (ptj (j + 1) (2 * p.1)) < U k (ptj (j + 1) (p.1 + p.2)) <;> by_cases c2 : U k (ptj (j + 1) (p.1 + p.2)) < U k (ptj (j + 1) (2 * p.2))
  · rw [if_pos c1, if_pos c2]; exact ⟨rfl, c1, rfl, c2, rfl⟩
  · rw [if_pos c1, if_neg c2]; exact ⟨rfl, c1, by show U k (ptj (j + 1) (p.1 + p.2)) = U k (ptj (j + 1) (2 * p.2)); omega⟩
  · rw [if_neg c1, if_pos c2]; exact ⟨by show U k (ptj (j + 1) (p.1 + p.2)) = U k (ptj (j + 1) (2 * p.1)); omega, by show U k (ptj (j + 1) (2 * p.1)) < U k (ptj (j + 1) (2 * p.2)); omega, rfl⟩
  · rw [if_neg c1, if_neg c2]; show U k (ptj (j + 1) (2 * p.1)) = U k (ptj (j + 1) (2 * p.2)); omega
end Rf

set_option autoImplicit false
set_option maxHeartbeats 4000000
set_option maxRecDepth 100000
namespace Rf
def LinW (k : List Int) (j : Nat) : List (Int × Int) → Int → Int → Prop
  | [], u, w => u = w
  | g :: l, u, w => U k (ptj j g.1) = u ∧ u ≤ U k (ptj j g.2) ∧ LinW k j l (U k (ptj j g.2)) w
theorem Lin.weak {k : List Int} {j : Nat} : ∀ {l : List (Int × Int)} {u w : Int}, Lin k j l u w → LinW k j l u w
  | [], _, _, h => h
  | _ :: _, _, _, ⟨h1, h2, h3⟩ => ⟨h1, by omega, h3.weak⟩
theorem lin_step {k : List Int} (hF : Fld k) {j : Nat} : ∀ (l : List (Int × Int)) (u w : Int), (∀ p ∈ l, p.1 ≤ p.2) → LinW k j l u w → Lin k (j + 1) ((halves l).filter fun p => decide (V1 k (ptj (j + 1) p.1) ≠ V1 k (ptj (j + 1) p.2))) u w
  | [], _, _, _, h => h
  | p :: l, u, w, hp, ⟨h1, _, h3⟩ => by
    have e : halves (p :: l) = [(2 * p.1, p.1 + p.2), (p.1 + p.2, 2 * p.2)] ++ halves l := rfl
    rw [e, List.filter_append]
    have i1 := lin_half hF (j := j) (hp p (List.mem_cons_self ..))
    rw [h1] at i1
    exact Lin.append i1 (lin_step hF l _ w (fun q hq => hp q (List.mem_cons_of_mem _ hq)) h3)
theorem gaps_range {k : List Int} : ∀ (j : Nat), ∀ p ∈ gapsAt k j, p.2 - p.1 = 2 * (boundI k : Int) ∧ -(boundI k : Rat) ≤ ptj j p.1 ∧ ptj j p.2 ≤ (boundI k : Rat)
  | 0, p, hp => by
    have e : p = (-(boundI k : Int), (boundI k : Int)) := by simpa [gapsAt] using hp
    subst e
    refine ⟨by show (boundI k : Int) - -(boundI k : Int) = _; omega, ?_, ?_⟩
    · rw [ptj_zero]
      push_cast
      exact Rat.le_refl
    · rw [ptj_zero]
      exact Rat.le_refl
  | j + 1, p, hp => by
    have h1 := (List.mem_filter.mp hp).1
    obtain ⟨q, hq, hpq⟩ := List.mem_flatMap.mp h1
    obtain ⟨h2, h3, h4⟩ := gaps_range j q hq
    have hle : q.1 ≤ q.2 := by omega
    have m1 : ptj (j + 1) (2 * q.1) ≤ ptj (j + 1) (q.1 + q.2) := ptj_le.mpr (by omega)
    have m2 : ptj (j + 1) (q.1 + q.2) ≤ ptj (j + 1) (2 * q.2) := ptj_le.mpr (by omega)
    rw [ptj_two] at m1 m2
    simp at hpq
    rcases hpq with rfl | rfl
    · refine ⟨by show q.1 + q.2 - 2 * q.1 = _; omega, ?_, ?_⟩
      · show _ ≤ ptj (j + 1) (2 * q.1)
        rw [ptj_two]; exact h3
      · show ptj (j + 1) (q.1 + q.2) ≤ _
        grind
    · refine ⟨by show 2 * q.2 - (q.1 + q.2) = _; omega, ?_, ?_⟩
      · show _ ≤ ptj (j + 1) (q.1 + q.2)
        grind
      · show ptj (j + 1) (2 * q.2) ≤ _
        rw [ptj_two]; exact h4
theorem gaps_le {k : List Int} (j : Nat) : ∀ p ∈ gapsAt k j, p.1 ≤ p.2 := by
  intro p hp
  have := (gaps_range j p hp).1
  omega
theorem gaps_weak {k : List Int} (hF : Fld k) : ∀ j, LinW k j (gapsAt k j) 0 (Re02.count (k ++ [1]) : Int)
  | 0 => by
    have h1 := U_bound_left hF
    have h2 := U_bound_right hF
    have e1 : ptj 0 (-(boundI k : Int)) = -(boundI k : Rat) := by rw [ptj_zero]; push_cast; rfl
    have e2 : ptj 0 (boundI k : Int) = (boundI k : Rat) := by rw [ptj_zero]; rfl
    refine ⟨by show U k (ptj 0 (-(boundI k : Int))) = 0; rw [e1]; exact h1, ?_, ?_⟩
    · show 0 ≤ U k (ptj 0 (boundI k : Int))
      rw [e2, h2]; omega
    · show U k (ptj 0 (boundI k : Int)) = _
      rw [e2, h2]
  | j + 1 => (lin_step hF (gapsAt k j) _ _ (gaps_le j) (gaps_weak hF j)).weak
theorem gaps_lin {k : List Int} (hF : Fld k) (j : Nat) : Lin k (j + 1) (gapsAt k (j + 1)) 0 (Re02.count (k ++ [1]) : Int) := lin_step hF (gapsAt k j) _ _ (gaps_le j) (gaps_weak hF j)
theorem Lin.len {k : List Int} {j : Nat} : ∀ {l : List (Int × Int)} {u w : Int}, Lin k j l u w → (l.length : Int) ≤ w - u
  | [], _, _, h => by have e : _ = _ := h; simp; omega
  | _ :: l, _, _, ⟨h1, h2, h3⟩ => by have := h3.len; simp; omega
theorem Lin.narrow {k : List Int} {j : Nat} : ∀ {l : List (Int × Int)} {u w : Int}, Lin k j l u w → (∀ p ∈ l, U k (ptj j p.2) ≤ U k (ptj j p.1) + 1) → (l.length : Int) = w - u
  | [], _, _, h, _ => by have e : _ = _ := h; simp; omega
  | p :: l, _, _, ⟨h1, h2, h3⟩, h => by
    have h4 := h3.narrow fun q hq => h q (List.mem_cons_of_mem _ hq)
    have h5 := h p (List.mem_cons_self ..)
    simp; omega
theorem Lin.at {k : List Int} {j : Nat} : ∀ {l : List (Int × Int)} {u w : Int}, Lin k j l u w → (l.length : Int) = w - u → ∀ (i : Nat) (p : Int × Int), l[i]? = some p → U k (ptj j p.1) = u + i ∧ U k (ptj j p.2) = u + i + 1
  | [], _, _, _, _, i, p, hp => by simp at hp
  | q :: l, u, w, ⟨h1, h2, h3⟩, hl, i, p, hp => by
    have h4 := h3.len
    have hl' : (l.length : Int) + 1 = w - u := by simpa using hl
    have e : U k (ptj j q.2) = u + 1 := by omega
    cases i with
    | zero =>
      have : q = p := by simpa using hp
      subst this
      refine ⟨by omega, by omega⟩
    | succ i =>
      have hp' : l[i]? = some p := by simpa using hp
      have := h3.at (by omega) i p hp'
      rw [e] at this
      push_cast
      omega
/-- **the gaps come to be as many as the roots** -/
theorem gaps_end {k : List Int} (hF : Fld k) (m : Nat) (hm : 211 ≤ m) : (gapsAt k (m + 1)).length = Re02.count (k ++ [1]) := by
  have h := (gaps_lin hF m).narrow fun p hp => by
    obtain ⟨h1, h2, h3⟩ := gaps_range (m + 1) p hp
    have hb := bound_le_far k
    have hf := far_le hF.deg hF.bd
    have hb2 := nat_cast_le (Nat.le_trans hb hf)
    have hle := gaps_le (m + 1) p hp
    have hpt := (ptj_le (j := m + 1)).mpr hle
    exact Rf.narrow hF (show 212 ≤ m + 1 by omega) (ab_le (by grind) (by grind)) (ab_le (by grind) (by grind)) hle (by omega)
  omega
def signsAt (k A : List Int) (j : Nat) : List Int := (gapsAt k j).map fun p => VA k A (ptj j p.1) - VA k A (ptj j p.2)
/-- **where they are as many, the signs are told by them** -/
theorem signs_is {k : List Int} (hF : Fld k) {v : L} (hv : v.length = k.length) (j : Nat) (hj : (gapsAt k j).length = Re02.count (k ++ [1])) : signsAt k (abvOf v) j = (List.range (Nf01.reals k)).map fun r => Nf01.sign k (v.map psi) (r + 1) := by
  have hlin : Lin k j (gapsAt k j) 0 (Re02.count (k ++ [1]) : Int) := by
    cases j with
    | zero =>
      obtain ⟨h1, h2, h3⟩ := gaps_weak hF 0
      refine ⟨h1, ?_, h3⟩
      have h4 : U k (ptj 0 (-(boundI k : Int), (boundI k : Int)).2) = (Re02.count (k ++ [1]) : Int) := h3
      rw [h4, ← hj]
      show (0 : Int) < ((1 : Nat) : Int)
      decide
    | succ j => exact gaps_lin hF j
  have hr : Nf01.reals k = Re02.count (k ++ [1]) := rfl
  rw [hr]
  apply List.ext_getElem?
  intro i
  unfold signsAt
  rw [List.getElem?_map, List.getElem?_map]
  by_cases hi : i < Re02.count (k ++ [1])
  · have hp : (gapsAt k j)[i]? = some ((gapsAt k j)[i]'(by omega)) := List.getElem?_eq_getElem (by omega)
    have hu := hlin.at (by omega) i _ hp
    rw [hp, List.getElem?_range hi]
    show some (VA k (abvOf v) (ptj j _) - VA k (abvOf v) (ptj j _)) = some (Nf01.sign k (v.map psi) (i + 1))
    rw [sign_all hF hv (i + 1) (by omega) (by omega) (a := ptj j ((gapsAt k j)[i]'(by omega)).1) (b := ptj j ((gapsAt k j)[i]'(by omega)).2) (by have := hu.1; push_cast; omega) (by have := hu.2; push_cast; omega)]
  · rw [List.getElem?_eq_none (by omega), List.getElem?_eq_none (by simp; omega)]
    rfl
end Rf

set_option autoImplicit false
set_option maxHeartbeats 4000000
set_option maxRecDepth 100000
namespace Rf
/-! What can't be parted: over whole numbers, over fractions. -/
theorem root_form (n : Int) (d : Nat) (hd : 0 < d) : ∀ k : List Int, ∃ z : Int, evZ (k ++ [1]) ((n : Rat) / (d : Rat)) * (d : Rat) ^ k.length = ((n ^ k.length + d * z : Int) : Rat)
  | [] => ⟨0, by
    rw [List.nil_append, evZ_cons, evZ_nil, List.length_nil, Rat.pow_zero]
    push_cast
    grind⟩
  | a :: k => by
    obtain ⟨z, hz⟩ := root_form n d hd k
    have hd' := nat_pos_cast hd
    refine ⟨a * (d : Int) ^ k.length + n * z, ?_⟩
    rw [List.cons_append, evZ_cons, List.length_cons, Rat.pow_succ, Int.pow_succ]
    push_cast at hz ⊢
    generalize evZ (k ++ [1]) ((n : Rat) / (d : Rat)) = e at *
    have h1 : (n : Rat) / (d : Rat) * (d : Rat) = (n : Rat) := by grind
    have h2 : (((d : Nat) : Int) : Rat) = (d : Rat) := rfl
    have h3 : (((d : Int) ^ k.length : Int) : Rat) = (d : Rat) ^ k.length := by push_cast; rfl
    grind
/-- **a fraction that is a root is a whole number** -/
theorem int_root {k : List Int} {x : Rat} (h : evZ (k ++ [1]) x = 0) : ∃ z : Int, x = (z : Rat) := by
  obtain ⟨z, hz⟩ := root_form x.num x.den (Nat.pos_of_ne_zero x.den_nz) k
  have hx : (x.num : Rat) / (x.den : Rat) = x := by
    have := num_eq x
    have := den_ne x
    grind
  rw [hx, h] at hz
  have h1 : (0 : Rat) * (x.den : Rat) ^ k.length = ((0 : Int) : Rat) := by
    have : ((0 : Int) : Rat) = 0 := rfl
    grind
  rw [h1] at hz
  have h2 : x.num ^ k.length + x.den * z = 0 := by exact_mod_cast hz.symm
  have h3 : (x.den : Int) ∣ x.num ^ k.length := ⟨-z, by rw [Int.mul_neg]; omega⟩
  have h4 : x.den ∣ (x.num ^ k.length).natAbs := Int.ofNat_dvd_left.mp h3
  rw [Int.natAbs_pow] at h4
  have h5 : Nat.Coprime (x.num.natAbs ^ k.length) x.den := Nat.Coprime.pow_left _ x.reduced
  have h6 : x.den = 1 := Nat.Coprime.eq_one_of_dvd h5.symm h4
  have h7 := num_eq x
  rw [h6] at h7
  have h8 : ((1 : Nat) : Rat) = 1 := rfl
  rw [h8] at h7
  exact ⟨x.num, by grind⟩
def IntIrr : List Int → Prop
  | [p, q] => ∀ x : Int, x*x + q*x + p ≠ 0
  | [p, q, r] => ∀ x : Int, x*x*x + r*(x*x) + q*x + p ≠ 0
  | [p, q, r, s] => (∀ x : Int, x*x*x*x + s*(x*x*x) + r*(x*x) + q*x + p ≠ 0) ∧
     ∀ a b c d : Int, ¬ (s = a + b ∧ r = c + d + a*b ∧ q = b*d + a*c ∧ p = c*d)
  | _ => False
theorem ev2 (p q : Int) (x : Rat) : evZ ([p, q] ++ [1]) x = x*x + q*x + p := by
  simp only [evZ, castL, List.map, List.cons_append, List.nil_append, ev, List.foldr]
  push_cast
  grind
theorem ev3 (p q r : Int) (x : Rat) : evZ ([p, q, r] ++ [1]) x = x*x*x + r*(x*x) + q*x + p := by
  simp only [evZ, castL, List.map, List.cons_append, List.nil_append, ev, List.foldr]
  push_cast
  grind
theorem ev4 (p q r s : Int) (x : Rat) : evZ ([p, q, r, s] ++ [1]) x = x*x*x*x + s*(x*x*x) + r*(x*x) + q*x + p := by
  simp only [evZ, castL, List.map, List.cons_append, List.nil_append, ev, List.foldr]
  push_cast
  grind
theorem root2 {p q : Int} {x : Rat} (h : x*x + q*x + p = 0) : ∃ z : Int, x = (z : Rat) := int_root (k := [p, q]) (by rw [ev2]; exact h)
theorem root3 {p q r : Int} {x : Rat} (h : x*x*x + r*(x*x) + q*x + p = 0) : ∃ z : Int, x = (z : Rat) := int_root (k := [p, q, r]) (by rw [ev3]; exact h)
theorem root4 {p q r s : Int} {x : Rat} (h : x*x*x*x + s*(x*x*x) + r*(x*x) + q*x + p = 0) : ∃ z : Int, x = (z : Rat) := int_root (k := [p, q, r, s]) (by rw [ev4]; exact h)
/-- **whole parts, if there are parts** -/
theorem quads_int {p q r s : Int} {a b c d : Rat} (h1 : (s : Rat) = a + b) (h2 : (r : Rat) = c + d + a*b) (h3 : (q : Rat) = b*d + a*c) (h4 : (p : Rat) = c*d) : ∃ a' b' c' d' : Int, a = (a' : Rat) ∧ b = (b' : Rat) ∧ c = (c' : Rat) ∧ d = (d' : Rat) := by
  have hw : ∃ w : Int, -(a*b) = (w : Rat) := by
    apply root3 (p := q*r*s - p*(s*s) - q*q) (q := r*r - 4*p + q*s) (r := 2*r)
    push_cast
    rw [h1, h2, h3, h4]
    grind
  obtain ⟨w, hw⟩ := hw
  have hb : ∃ z : Int, b = (z : Rat) := by
    apply root2 (p := -w) (q := -s)
    push_cast
    rw [h1, ← hw]
    grind
  obtain ⟨b', hb⟩ := hb
  have hc : ∃ z : Int, c = (z : Rat) := by
    apply root2 (p := p) (q := -(r + w))
    push_cast
    rw [h2, h4, ← hw]
    grind
  obtain ⟨c', hc⟩ := hc
  refine ⟨s - b', b', c', r + w - c', ?_, hb, hc, ?_⟩
  · push_cast
    rw [h1, ← hb]; grind
  · push_cast
    rw [h2, ← hc, ← hw]; grind
theorem irr_iff {k : List Int} (hd : Deg k) : Irr k ↔ IntIrr k := by
  rcases hd.cases with ⟨p, q, rfl⟩ | ⟨p, q, r, rfl⟩ | ⟨p, q, r, s, rfl⟩
  · constructor
    · intro h x hx
      apply h (x : Rat)
      have : ((x*x + q*x + p : Int) : Rat) = ((0 : Int) : Rat) := by rw [hx]
      push_cast at this
      exact this
    · intro h x hx
      obtain ⟨z, rfl⟩ := root2 hx
      apply h z
      have h2 : ((z*z + q*z + p : Int) : Rat) = ((0 : Int) : Rat) := by push_cast; exact hx
      exact_mod_cast h2
  · constructor
    · intro h x hx
      apply h (x : Rat)
      have : ((x*x*x + r*(x*x) + q*x + p : Int) : Rat) = ((0 : Int) : Rat) := by rw [hx]
      push_cast at this
      exact this
    · intro h x hx
      obtain ⟨z, rfl⟩ := root3 hx
      apply h z
      have h2 : ((z*z*z + r*(z*z) + q*z + p : Int) : Rat) = ((0 : Int) : Rat) := by push_cast; exact hx
      exact_mod_cast h2
  · constructor
    · intro h
      refine ⟨fun x hx => ?_, fun a b c d ⟨h1, h2, h3, h4⟩ => ?_⟩
      · apply h.1 (x : Rat)
        have : ((x*x*x*x + s*(x*x*x) + r*(x*x) + q*x + p : Int) : Rat) = ((0 : Int) : Rat) := by rw [hx]
        push_cast at this
        exact this
      · apply h.2 (a : Rat) (b : Rat) (c : Rat) (d : Rat)
        refine ⟨?_, ?_, ?_, ?_⟩
        · rw [h1]; push_cast; rfl
        · rw [h2]; push_cast; rfl
        · rw [h3]; push_cast; rfl
        · rw [h4]; push_cast; rfl
    · intro h
      refine ⟨fun x hx => ?_, fun a b c d ⟨h1, h2, h3, h4⟩ => ?_⟩
      · obtain ⟨z, rfl⟩ := root4 hx
        apply h.1 z
        have h2 : ((z*z*z*z + s*(z*z*z) + r*(z*z) + q*z + p : Int) : Rat) = ((0 : Int) : Rat) := by push_cast; exact hx
        exact_mod_cast h2
      · obtain ⟨a', b', c', d', rfl, rfl, rfl, rfl⟩ := quads_int h1 h2 h3 h4
        apply h.2 a' b' c' d'
        refine ⟨?_, ?_, ?_, ?_⟩
        · have : (s : Rat) = ((a' + b' : Int) : Rat) := by rw [h1]; push_cast; rfl
          exact_mod_cast this
        · have : (r : Rat) = ((c' + d' + a'*b' : Int) : Rat) := by rw [h2]; push_cast; rfl
          exact_mod_cast this
        · have : (q : Rat) = ((b'*d' + a'*c' : Int) : Rat) := by rw [h3]; push_cast; rfl
          exact_mod_cast this
        · have : (p : Rat) = ((c'*d' : Int) : Rat) := by rw [h4]; push_cast; rfl
          exact_mod_cast this
end Rf

set_option autoImplicit false
set_option maxHeartbeats 4000000
set_option maxRecDepth 100000
namespace Rf
theorem mem_divisors {z x : Int} (hz : z ≠ 0) : x ∈ Nf01.divisors z ↔ x ∣ z := by
  unfold Nf01.divisors
  constructor
  · intro h
    obtain ⟨i, hi, hx⟩ := List.mem_flatMap.mp h
    split at hx
    · next hm =>
      have hd : (i + 1) ∣ z.natAbs := Nat.dvd_of_mod_eq_zero hm
      have hd2 : ((i + 1 : Nat) : Int) ∣ z := Int.ofNat_dvd_left.mpr hd
      simp at hx
      rcases hx with rfl | rfl
      · exact hd2
      · have : (-1 + -(i : Int)) = -((i + 1 : Nat) : Int) := by push_cast; omega
        first
          | exact Int.neg_dvd.mpr hd2
          | (rw [this]; exact Int.neg_dvd.mpr hd2)
    · cases hx
  · intro h
    have hx0 : x ≠ 0 := by
      intro e; subst e
      exact hz (Int.zero_dvd.mp h)
    have h1 : x.natAbs ∣ z.natAbs := Int.natAbs_dvd_natAbs.mpr h
    have h2 : x.natAbs ≤ z.natAbs := Nat.le_of_dvd (by omega) h1
    refine List.mem_flatMap.mpr ⟨x.natAbs - 1, List.mem_range.mpr (by omega), ?_⟩
    have e : x.natAbs - 1 + 1 = x.natAbs := by omega
    rw [e, if_pos (Nat.mod_eq_zero_of_dvd h1)]
    simp
    omega
theorem value_is (p : List Int) (x : Int) : ((Nf01.value p x : Int) : Rat) = evZ p (x : Rat) := by
  unfold Nf01.value
  rw [List.foldl_reverse]
  induction p with
  | nil => rfl
  | cons a p ih =>
    rw [List.foldr_cons, evZ_cons, ← ih]
    push_cast
    grind
theorem value_zero {k : List Int} {x : Int} : Nf01.value (k ++ [1]) x = 0 ↔ evZ (k ++ [1]) (x : Rat) = 0 := by
  rw [← value_is]
  constructor
  · intro h; rw [h]; rfl
  · intro h
    have h2 : ((Nf01.value (k ++ [1]) x : Int) : Rat) = ((0 : Int) : Rat) := h
    exact_mod_cast h2
/-- no whole root -/
def NoRoot (k : List Int) : Prop := ∀ x : Int, Nf01.value (k ++ [1]) x ≠ 0
theorem val2 (p q x : Int) : Nf01.value ([p, q] ++ [1]) x = x*x + q*x + p := by
  show ((0 * x + 1) * x + q) * x + p = _
  grind
theorem val3 (p q r x : Int) : Nf01.value ([p, q, r] ++ [1]) x = x*x*x + r*(x*x) + q*x + p := by
  show (((0 * x + 1) * x + r) * x + q) * x + p = _
  grind
theorem val4 (p q r s x : Int) : Nf01.value ([p, q, r, s] ++ [1]) x = x*x*x*x + s*(x*x*x) + r*(x*x) + q*x + p := by
  show ((((0 * x + 1) * x + s) * x + r) * x + q) * x + p = _
  grind
/-- no parts of degree 2 -/
def NoQuad : List Int → Prop
  | [p, q, r, s] => ∀ a b c d : Int, ¬ (s = a + b ∧ r = c + d + a*b ∧ q = b*d + a*c ∧ p = c*d)
  | _ => True
theorem intIrr_iff {k : List Int} (hd : Deg k) : IntIrr k ↔ NoRoot k ∧ NoQuad k := by
  rcases hd.cases with ⟨p, q, rfl⟩ | ⟨p, q, r, rfl⟩ | ⟨p, q, r, s, rfl⟩
  · constructor
    · intro h; exact ⟨fun x => by rw [val2]; exact h x, trivial⟩
    · intro h x; rw [← val2]; exact h.1 x
  · constructor
    · intro h; exact ⟨fun x => by rw [val3]; exact h x, trivial⟩
    · intro h x; rw [← val3]; exact h.1 x
  · constructor
    · intro h; exact ⟨fun x => by rw [val4]; exact h.1 x, h.2⟩
    · intro h; exact ⟨fun x => by rw [← val4]; exact h.1 x, h.2⟩
theorem head_root {k : List Int} (hd : Deg k) (x : Int) : ∃ y : Int, Nf01.value (k ++ [1]) x = k.headD 0 + x * y := by
  rcases hd.cases with ⟨p, q, rfl⟩ | ⟨p, q, r, rfl⟩ | ⟨p, q, r, s, rfl⟩
  · exact ⟨x + q, by rw [val2]; show _ = p + _; grind⟩
  · exact ⟨x*x + r*x + q, by rw [val3]; show _ = p + _; grind⟩
  · exact ⟨x*x*x + s*(x*x) + r*x + q, by rw [val4]; show _ = p + _; grind⟩
theorem noRoot_iff {k : List Int} (hd : Deg k) : NoRoot k ↔ k.headD 0 ≠ 0 ∧ ∀ r ∈ Nf01.divisors (k.headD 0), Nf01.value (k ++ [1]) r ≠ 0 := by
  constructor
  · intro h
    refine ⟨fun h0 => ?_, fun r _ => h r⟩
    obtain ⟨y, hy⟩ := head_root hd 0
    apply h 0
    rw [hy, h0]
    omega
  · intro ⟨h0, h1⟩ x hx
    obtain ⟨y, hy⟩ := head_root hd x
    rw [hx] at hy
    have hdv : x ∣ k.headD 0 := ⟨-y, by rw [Int.mul_neg]; omega⟩
    exact h1 x ((mem_divisors h0).mpr hdv) hx
theorem quad_id {u t Q x a b c d R : Rat} (ht : 0 < t) (h : u * (x*x*x*x + (a + b)*(x*x*x) + (c + d + a*b)*(x*x) + (b*d + a*c)*x + c*d) = Q * (x*x + b*x + c) + t * R) : ((1/t) * (u * (x*x + a*x + d) - Q)) * (x*x + b*x + c) = R := by
  have h1 : t * R = (u * (x*x + a*x + d) - Q) * (x*x + b*x + c) := by grind
  have h2 : R = (1/t) * (t * R) := by grind
  rw [h2, h1]
  grind
/-- division by x x + b x + c leaves nothing -/
theorem divides_iff {p q r s b c : Int} : Nf01.divides [c, b, 1] [p, q, r, s, 1] = true ↔ ∃ a d : Int, s = a + b ∧ r = c + d + a*b ∧ q = b*d + a*c ∧ p = c*d := by
  have ok := rest_ok 5 [p, q, r, s, 1] [c, b, 1] (by simp) (by simp) (by intro h; simp)
  have e : Nf01.divides [c, b, 1] [p, q, r, s, 1] = (Re02.rest 5 [p, q, r, s, 1] [c, b, 1]).isEmpty := rfl
  rw [e, List.isEmpty_iff]
  generalize Re02.rest 5 [p, q, r, s, 1] [c, b, 1] = R at ok
  obtain ⟨u, t, Q, hu, ht, hQ, he⟩ := ok.eq
  have hg : ∀ x, evZ [c, b, 1] x = x*x + b*x + c := fun x => ev2 c b x
  have hf : ∀ x, evZ [p, q, r, s, 1] x = x*x*x*x + s*(x*x*x) + r*(x*x) + q*x + p := fun x => ev4 p q r s x
  constructor
  · intro hR
    -- f = g h + (α x + β)
    let m : Int := r - c - b*(s-b)
    let α : Int := q - c*(s-b) - b*m
    let β : Int := p - c*m
    have hlin : ∀ x : Rat, (Q x - u * (x*x + ((s-b : Int) : Rat)*x + (m : Rat))) * evZ ([c, b] ++ [1]) x = ev [u*β, u*α] x := by
      intro x
      have h1 := he x
      rw [hR, evZ_nil, hf] at h1
      have h2 : evZ ([c, b] ++ [1]) x = x*x + b*x + c := hg x
      rw [hg] at h1
      rw [h2, ev_cons, ev_cons, ev_nil]
      have e1 : (m : Rat) = r - c - b*(s-b) := by show ((r - c - b*(s-b) : Int) : Rat) = _; push_cast; rfl
      have e2 : (α : Rat) = q - c*(s-b) - b*(m : Rat) := by show ((q - c*(s-b) - b*m : Int) : Rat) = _; push_cast; rfl
      have e3 : (β : Rat) = p - c*(m : Rat) := by show ((p - c*m : Int) : Rat) = _; push_cast; rfl
      rw [e2, e3, e1]
      push_cast
      grind
    have hpol : PolyF fun x => Q x - u * (x*x + ((s-b : Int) : Rat)*x + (m : Rat)) := poly_sub hQ (poly_mul (poly_const u) (poly_add (poly_add (poly_mul poly_id poly_id) (poly_mul (poly_const _) poly_id)) (poly_const _)))
    have hz := no_multiple (k := [c, b]) hpol (R := [u*β, u*α]) (by simp) hlin
    have hz2 := vanish hz
    have h1 := hz2 (u*β) (by simp)
    have h2 := hz2 (u*α) (by simp)
    have hα : α = 0 := by
      rcases Rat.mul_eq_zero.mp h2 with h | h
      · grind
      · have : (α : Rat) = ((0 : Int) : Rat) := h
        exact_mod_cast this
    have hβ : β = 0 := by
      rcases Rat.mul_eq_zero.mp h1 with h | h
      · grind
      · have : (β : Rat) = ((0 : Int) : Rat) := h
        exact_mod_cast this
    have hα' : q - c*(s-b) - b*m = 0 := hα
    have hβ' : p - c*m = 0 := hβ
    have hm : m = r - c - b*(s-b) := rfl
    clear_value m
    refine ⟨s - b, m, by omega, by rw [hm]; grind, by grind, by grind⟩
  · intro ⟨a, d, h1, h2, h3, h4⟩
    have hz : ∀ x : Rat, ((1/t) * (u * (x*x + (a : Rat)*x + (d : Rat)) - Q x)) * evZ ([c, b] ++ [1]) x = ev (castL R) x := by
      intro x
      have h5 := he x
      have h6 : evZ ([c, b] ++ [1]) x = x*x + b*x + c := hg x
      have h7 : evZ R x = ev (castL R) x := rfl
      rw [hf, hg, h7] at h5
      rw [h6]
      have e1 : (s : Rat) = a + b := by rw [h1]; push_cast; rfl
      have e2 : (r : Rat) = c + d + a*b := by rw [h2]; push_cast; rfl
      have e3 : (q : Rat) = b*d + a*c := by rw [h3]; push_cast; rfl
      have e4 : (p : Rat) = c*d := by rw [h4]; push_cast; rfl
      rw [e1, e2, e3, e4] at h5
      exact quad_id ht h5
    have hpol : PolyF fun x => (1/t) * (u * (x*x + (a : Rat)*x + (d : Rat)) - Q x) := poly_mul (poly_const _) (poly_sub (poly_mul (poly_const u) (poly_add (poly_add (poly_mul poly_id poly_id) (poly_mul (poly_const _) poly_id)) (poly_const _))) hQ)
    have hsh := ok.short
    have hz2 := vanish (no_multiple (k := [c, b]) hpol (R := castL R) (by rw [castL_length]; simp at hsh ⊢; omega) hz)
    apply Decidable.byContradiction
    intro hne
    have htr := ok.trim (by intro h; simp) hne
    have hmem : ((R.getLast hne : Int) : Rat) ∈ castL R := List.mem_map.mpr ⟨_, List.getLast_mem hne, rfl⟩
    have h8 : ((R.getLast hne : Int) : Rat) = ((0 : Int) : Rat) := hz2 _ hmem
    exact htr (by exact_mod_cast h8)
end Rf

set_option autoImplicit false
set_option maxHeartbeats 4000000
set_option maxRecDepth 100000
namespace Rf
theorem b_bound {p q r s a b c d : Int} (hp : p ≠ 0) (h1 : s = a + b) (h2 : r = c + d + a*b) (h4 : p = c*d) : b.natAbs ≤ 2 * Re02.far ([p, q, r, s] ++ [1]) := by
  have hfar : Re02.far ([p, q, r, s] ++ [1]) = 2 + p.natAbs + q.natAbs + r.natAbs + s.natAbs := by
    simp [Re02.far]; omega
  have hc : c ≠ 0 := by intro e; subst e; apply hp; rw [h4, Int.zero_mul]
  have hd : d ≠ 0 := by intro e; subst e; apply hp; rw [h4, Int.mul_zero]
  have h5 : p.natAbs = c.natAbs * d.natAbs := by rw [h4, Int.natAbs_mul]
  have h6 : c.natAbs + d.natAbs ≤ p.natAbs + 1 := by
    rw [h5]
    obtain ⟨x, hx⟩ : ∃ x, c.natAbs = x + 1 := ⟨c.natAbs - 1, by omega⟩
    obtain ⟨y, hy⟩ : ∃ y, d.natAbs = y + 1 := ⟨d.natAbs - 1, by omega⟩
    rw [hx, hy, Nat.add_mul, Nat.mul_add]
    omega
  have h7 : b * b = s * b - r + c + d := by rw [h1, h2]; grind
  have h8 : b.natAbs * b.natAbs ≤ s.natAbs * b.natAbs + r.natAbs + c.natAbs + d.natAbs := by
    rw [← Int.natAbs_mul, h7, ← Int.natAbs_mul]
    omega
  rw [hfar]
  apply Nat.le_of_not_lt
  intro hlt
  have h9 : (s.natAbs + (2 + p.natAbs + q.natAbs + r.natAbs)) * b.natAbs ≤ b.natAbs * b.natAbs := Nat.mul_le_mul_right _ (by omega)
  rw [Nat.add_mul] at h9
  have h10 : 1 * (2 + p.natAbs + q.natAbs + r.natAbs) ≤ b.natAbs * (2 + p.natAbs + q.natAbs + r.natAbs) := Nat.mul_le_mul_right _ (by omega)
  rw [Nat.mul_comm b.natAbs] at h10
  omega
theorem noQuad_iff {p q r s : Int} (hp : p ≠ 0) : NoQuad [p, q, r, s] ↔ ((Nf01.divisors p).all fun c => (List.range (4 * Re02.far ([p, q, r, s] ++ [1]) + 1)).all fun i => !Nf01.divides [c, (i : Int) - 2 * Re02.far ([p, q, r, s] ++ [1]), 1] ([p, q, r, s] ++ [1])) = true := by
  rw [List.all_eq_true]
  constructor
  · intro h c _
    rw [List.all_eq_true]
    intro i _
    cases e : Nf01.divides [c, (i : Int) - 2 * Re02.far ([p, q, r, s] ++ [1]), 1] ([p, q, r, s] ++ [1]) with
    | false => rfl
    | true =>
      obtain ⟨a, d, hh⟩ := divides_iff.mp e
      exact absurd hh (h a _ c d)
  · intro h a b c d ⟨h1, h2, h3, h4⟩
    have hb := b_bound (q := q) hp h1 h2 h4
    have hc := h c ((mem_divisors hp).mpr ⟨d, h4⟩)
    rw [List.all_eq_true] at hc
    have h5 := hc (b + 2 * Re02.far ([p, q, r, s] ++ [1])).toNat (List.mem_range.mpr (by omega))
    have e : (((b + 2 * Re02.far ([p, q, r, s] ++ [1])).toNat : Nat) : Int) - 2 * Re02.far ([p, q, r, s] ++ [1]) = b := by omega
    rw [e] at h5
    have h6 : Nf01.divides [c, b, 1] ([p, q, r, s] ++ [1]) = true := divides_iff.mpr ⟨a, d, h1, h2, h3, h4⟩
    rw [h6] at h5
    exact absurd h5 (by decide)
theorem prime_iff {k : List Int} (hd : Deg k) : Nf01.prime k = true ↔ IntIrr k := by
  rw [intIrr_iff hd, noRoot_iff hd]
  have hn1 : ¬ (Nf01.Field.n k = 1) := by have := hd.1; show ¬ k.length = 1; omega
  unfold Nf01.prime
  simp only []
  rw [if_neg hn1]
  by_cases h0 : k.headD 0 = 0
  · rw [if_pos h0]
    constructor
    · intro h; exact absurd h (by decide)
    · intro h; exact absurd h0 h.1.1
  · rw [if_neg h0, Bool.and_eq_true]
    constructor
    · intro ⟨h1, h2⟩
      refine ⟨⟨h0, fun r hr => ?_⟩, ?_⟩
      · have h3 : (Nf01.value (k ++ [1]) r != 0) = true := (List.all_eq_true.mp h1) r hr
        simpa using h3
      · rcases hd.cases with ⟨p, q, rfl⟩ | ⟨p, q, r, rfl⟩ | ⟨p, q, r, s, rfl⟩
        · trivial
        · trivial
        · exact (noQuad_iff h0).mpr h2
    · intro ⟨⟨_, h1⟩, h2⟩
      refine ⟨List.all_eq_true.mpr fun r hr => by
        show (Nf01.value (k ++ [1]) r != 0) = true
        simpa using h1 r hr, ?_⟩
      rcases hd.cases with ⟨p, q, rfl⟩ | ⟨p, q, r, rfl⟩ | ⟨p, q, r, s, rfl⟩
      · rfl
      · rfl
      · exact (noQuad_iff h0).mp h2
theorem prime_irr {k : List Int} (hd : Deg k) : Nf01.prime k = true ↔ Irr k := (prime_iff hd).trans (irr_iff hd).symm
/-! ### The program's way -/
def bndI (l : List Int) : Nat := 1 + l.foldl (fun (m : Nat) (a : Int) => max m a.natAbs) 0
/-- value_at with 1 below, Horner's way -/
def valueI (l : List Int) (above below : Int) : Int := (l.foldr (fun c (x : Int × Int) => (x.1 * above + c * x.2, x.2 * below)) (0, 1)).1
def wholeRoots (l : List Int) : List Int := ((List.range (2 * bndI l + 1)).map fun (i : Nat) => (i : Int) - (bndI l : Int)).filter fun x => decide (valueI l x 1 = 0)
theorem valueI_one (l : List Int) (x : Int) : l.foldr (fun c (y : Int × Int) => (y.1 * x + c * y.2, y.2 * 1)) (0, 1) = (Nf01.value l x, 1) := by
  unfold Nf01.value
  rw [List.foldl_reverse]
  induction l with
  | nil => rfl
  | cons a l ih =>
    rw [List.foldr_cons, ih, List.foldr_cons]
    simp
theorem wholeRoots_mem {k : List Int} {x : Int} : x ∈ wholeRoots (k ++ [1]) ↔ Nf01.value (k ++ [1]) x = 0 := by
  have hv : valueI (k ++ [1]) x 1 = Nf01.value (k ++ [1]) x := congrArg Prod.fst (valueI_one (k ++ [1]) x)
  unfold wholeRoots
  rw [List.mem_filter, decide_eq_true_eq, hv]
  constructor
  · exact fun h => h.2
  · intro h
    refine ⟨?_, h⟩
    have hb := bound_bd (k := k)
    have e : bndI (k ++ [1]) = boundI k := rfl
    rw [e]
    have hz := value_zero.mp h
    have h1 : x ≤ (boundI k : Int) := by
      apply Int.not_lt.mp
      intro hlt
      have h2 : (boundI k : Int) ≤ x := by omega
      have h3 : ((boundI k : Int) : Rat) ≤ (x : Rat) := by exact_mod_cast h2
      have h4 := far_right k hb (x : Rat) (by
        have e1 : ((boundI k - 1 : Nat) : Rat) + 1 = ((boundI k : Int) : Rat) := by
          have h5 : boundI k - 1 + 1 = boundI k := by unfold boundI; omega
          have h6 : ((boundI k - 1 + 1 : Nat) : Rat) = (boundI k : Rat) := by rw [h5]
          push_cast at h6
          exact h6
        rw [e1]; exact h3)
      rw [hz] at h4
      exact absurd h4 (by decide)
    have h2 : -(boundI k : Int) ≤ x := by
      apply Int.not_lt.mp
      intro hlt
      have h2 : x ≤ -(boundI k : Int) := by omega
      have h3 : (x : Rat) ≤ ((-(boundI k : Int) : Int) : Rat) := by exact_mod_cast h2
      have h4 := far_left k hb (x : Rat) (by
        have e1 : ((boundI k - 1 : Nat) : Rat) + 1 = ((boundI k : Int) : Rat) := by
          have h5 : boundI k - 1 + 1 = boundI k := by unfold boundI; omega
          have h6 : ((boundI k - 1 + 1 : Nat) : Rat) = (boundI k : Rat) := by rw [h5]
          push_cast at h6
          exact h6
        rw [e1]; push_cast at h3; exact h3)
      rw [hz] at h4
      rcases Nat.mod_two_eq_zero_or_one k.length with h7 | h7
      · exact absurd (h4.1 h7) (by decide)
      · exact absurd (h4.2 h7) (by decide)
    refine List.mem_map.mpr ⟨(x + boundI k).toNat, List.mem_range.mpr (by omega), by omega⟩
/-- the search for two parts of degree 2 -/
def partsI (c0 c1 c2 c3 : Int) : Bool :=
  ((List.range (2 * c0.natAbs + 1)).map fun (i : Nat) => (i : Int) - (c0.natAbs : Int)).any fun b => decide (b ≠ 0) && decide (c0.fmod b = 0) && (wholeRoots [c2 - b - c0.fdiv b, -c3, 1]).any fun a => decide (a * c0.fdiv b + (c3 - a) * b = c1)
def canBeParted (k : List Int) : Bool := !(wholeRoots (k ++ [1])).isEmpty || (decide (k.length = 4) && partsI (k.getD 0 0) (k.getD 1 0) (k.getD 2 0) (k.getD 3 0))
theorem parts_iff {p q r s : Int} (hp : p ≠ 0) : partsI p q r s = true ↔ ¬ NoQuad [p, q, r, s] := by
  unfold partsI
  rw [List.any_eq_true]
  constructor
  · intro ⟨b, _, hb⟩ hn
    rw [Bool.and_eq_true, Bool.and_eq_true, decide_eq_true_eq, decide_eq_true_eq, List.any_eq_true] at hb
    obtain ⟨⟨hb0, hm⟩, a, ha, he⟩ := hb
    rw [decide_eq_true_eq] at he
    have hr := (wholeRoots_mem (k := [r - b - p.fdiv b, -s])).mp ha
    rw [val2] at hr
    have hdiv : p = b * p.fdiv b := by
      have := Int.mul_fdiv_add_fmod p b
      omega
    apply hn (s - a) a b (p.fdiv b)
    refine ⟨by omega, by grind, by grind, hdiv⟩
  · intro h
    have h2 : ∃ a b c d : Int, (s = a + b ∧ r = c + d + a*b ∧ q = b*d + a*c ∧ p = c*d) := by
      apply Classical.byContradiction
      intro hn
      apply h
      intro a b c d hh
      exact hn ⟨a, b, c, d, hh⟩
    obtain ⟨a, b, c, d, h1, h2, h3, h4⟩ := h2
    have hc : c ≠ 0 := by intro e; subst e; apply hp; rw [h4, Int.zero_mul]
    have hfd : p.fdiv c = d := by rw [h4]; exact Int.mul_fdiv_cancel_left d hc
    have hfm : p.fmod c = 0 := by rw [h4]; exact Int.mul_fmod_right c d
    have hle : c.natAbs ≤ p.natAbs := Nat.le_of_dvd (by omega) (Int.natAbs_dvd_natAbs.mpr ⟨d, h4⟩)
    refine ⟨c, List.mem_map.mpr ⟨(c + p.natAbs).toNat, List.mem_range.mpr (by omega), by omega⟩, ?_⟩
    rw [Bool.and_eq_true, Bool.and_eq_true, decide_eq_true_eq, decide_eq_true_eq, List.any_eq_true, hfd]
    refine ⟨⟨hc, hfm⟩, b, (wholeRoots_mem (k := [r - c - d, -s])).mpr ?_, ?_⟩
    · rw [val2, h1, h2]; grind
    · rw [decide_eq_true_eq, h1, h3]; grind
/-- **it can be parted, or the specification calls it prime** -/
theorem parted_is {k : List Int} (hd : Deg k) : canBeParted k = !Nf01.prime k := by
  have h1 : canBeParted k = true ↔ ¬ IntIrr k := by
    unfold canBeParted
    rw [Bool.or_eq_true, intIrr_iff hd]
    by_cases hroot : wholeRoots (k ++ [1]) = []
    · have hno : NoRoot k := fun x hx => by
        have := wholeRoots_mem.mpr hx
        rw [hroot] at this
        cases this
      have h0 := ((noRoot_iff hd).mp hno).1
      rw [hroot]
      rcases hd.cases with ⟨p, q, rfl⟩ | ⟨p, q, r, rfl⟩ | ⟨p, q, r, s, rfl⟩
      · constructor
        · intro h; rcases h with h | h <;> exact absurd h (by simp)
        · intro h; exact absurd ⟨hno, trivial⟩ h
      · constructor
        · intro h; rcases h with h | h <;> exact absurd h (by simp)
        · intro h; exact absurd ⟨hno, trivial⟩ h
      · have hp := parts_iff (q := q) (r := r) (s := s) (show p ≠ 0 from h0)
        constructor
        · intro h
          rcases h with h | h
          · exact absurd h (by simp)
          · rw [Bool.and_eq_true] at h
            intro ⟨_, h2⟩
            exact hp.mp h.2 h2
        · intro h
          right
          rw [Bool.and_eq_true]
          exact ⟨rfl, hp.mpr fun h2 => h ⟨hno, h2⟩⟩
    · constructor
      · intro _ ⟨h, _⟩
        cases e : wholeRoots (k ++ [1]) with
        | nil => exact hroot e
        | cons x l => exact h x (wholeRoots_mem.mp (by rw [e]; exact List.mem_cons_self ..))
      · intro _
        left
        cases e : wholeRoots (k ++ [1]) with
        | nil => exact absurd e hroot
        | cons x l => rfl
  rw [← prime_iff hd] at h1
  cases e1 : canBeParted k <;> cases e2 : Nf01.prime k <;> simp_all
end Rf

set_option autoImplicit false
set_option maxHeartbeats 4000000
set_option maxRecDepth 100000
namespace Rf
open Nf01 (F Num)
/-! The least polynomial by rows swept. -/
def addS (r : L) (t : Rat) (b : L) : L := (r.zip b).map fun x => x.1 + t * x.2
def sweepR (l : List L) (r : L) : L := l.foldl (fun r b => match b.findIdx? fun x => x != 0 with
  | none => r
  | some i => addS r (-(r.getD i 0)) b) r
def leadOneR (r : L) : L := match r.find? fun x => x != 0 with
  | none => r
  | some c => r.map fun x => x / c
theorem ne_psi (x : Rat) : (psi x != Nf01.zero) = (x != 0) := by
  by_cases h : x = 0
  · subst h; rfl
  · have h1 : psi x ≠ Nf01.zero := fun e => h (psi_eq_zero.mp e)
    have e1 : (psi x != Nf01.zero) = true := by simpa using h1
    have e2 : (x != 0) = true := by simpa using h
    rw [e1, e2]
theorem findIdx_psi (b : L) : (b.map psi).findIdx? (fun x => x != Nf01.zero) = b.findIdx? fun x => x != 0 := by
  rw [List.findIdx?_map]
  congr 1
  funext x
  exact ne_psi x
theorem sweep_psi (l : List L) (r : L) : Nf01.sweep (l.map (·.map psi)) (r.map psi) = (sweepR l r).map psi := by
  unfold Nf01.sweep sweepR
  induction l generalizing r with
  | nil => rfl
  | cons b l ih =>
    rw [List.map_cons, List.foldl_cons, List.foldl_cons, findIdx_psi]
    cases h : b.findIdx? fun x => x != 0 with
    | none => exact ih r
    | some i =>
      show List.foldl _ (((r.map psi).zip (b.map psi)).map fun x => x.1.add (((r.map psi).getD i Nf01.zero).neg.mul x.2)) _ = _
      have e : (((r.map psi).zip (b.map psi)).map fun x => x.1.add (((r.map psi).getD i Nf01.zero).neg.mul x.2)) = (addS r (-(r.getD i 0)) b).map psi := by
        rw [getD_psi, neg_psi, List.zip_map, List.map_map]
        unfold addS
        rw [List.map_map]
        apply List.map_congr_left
        intro x _
        show (psi x.1).add ((psi _).mul (psi x.2)) = psi _
        rw [mul_psi, add_psi]
      rw [e]
      exact ih _
theorem find_ne {r : L} {c : Rat} (h : r.find? (fun x => x != 0) = some c) : c ≠ 0 := by
  have := List.find?_some h
  simpa using this
theorem leadOne_psi (r : L) : Nf01.leadOne (r.map psi) = (leadOneR r).map psi := by
  unfold Nf01.leadOne leadOneR
  rw [List.find?_map]
  have e : ((fun x => x != Nf01.zero) ∘ psi) = fun x => x != 0 := by funext x; exact ne_psi x
  rw [e]
  cases h : r.find? fun x => x != 0 with
  | none => rfl
  | some c =>
    show (r.map psi).map (fun x => x.div (psi c)) = (r.map fun x => x / c).map psi
    rw [List.map_map, List.map_map]
    apply List.map_congr_left
    intro x _
    exact div_psi x c (find_ne h)
/-! coordinates -/
theorem addS_length {r b : L} (t : Rat) (h : r.length = b.length) : (addS r t b).length = r.length := by simp [addS, h]
theorem addS_getD {r b : L} (t : Rat) (h : r.length = b.length) (i : Nat) : (addS r t b).getD i 0 = r.getD i 0 + t * b.getD i 0 := by
  unfold addS
  rw [List.getD_eq_getElem?_getD, List.getD_eq_getElem?_getD, List.getD_eq_getElem?_getD, List.getElem?_map]
  by_cases hi : i < r.length
  · rw [List.getElem?_eq_getElem (l := r.zip b) (by simp; omega), List.getElem?_eq_getElem hi, List.getElem?_eq_getElem (l := b) (by omega)]
    simp
  · rw [List.getElem?_eq_none (by simp; omega), List.getElem?_eq_none (by omega), List.getElem?_eq_none (l := b) (by omega)]
    show (0 : Rat) = 0 + t * 0
    grind
/-- the first that isn't 0, and it's 1 -/
def Piv (b : L) (i : Nat) : Prop := b.findIdx? (fun x => x != 0) = some i ∧ b.getD i 0 = 1
theorem piv_unique {b : L} {i j : Nat} (h1 : Piv b i) (h2 : Piv b j) : i = j := Option.some.inj (h1.1.symm.trans h2.1)
theorem sweep_length {N : Nat} : ∀ (l : List L) (r : L), r.length = N → (∀ b ∈ l, b.length = N) → (sweepR l r).length = N
  | [], r, h, _ => h
  | b :: l, r, h, hb => by
    unfold sweepR
    rw [List.foldl_cons]
    cases e : b.findIdx? fun x => x != 0 with
    | none => exact sweep_length l r h fun c hc => hb c (List.mem_cons_of_mem _ hc)
    | some i =>
      have hbl := hb b (List.mem_cons_self ..)
      exact sweep_length l _ (by show (addS r _ b).length = N; rw [addS_length _ (by rw [h, hbl]), h]) fun c hc => hb c (List.mem_cons_of_mem _ hc)
/-- what every row keeps a row swept keeps -/
theorem sweep_keeps {N : Nat} (P : L → Prop) (hP : ∀ (r b : L) (t : Rat), r.length = N → b.length = N → P r → P b → P (addS r t b)) : ∀ (l : List L) (r : L), r.length = N → (∀ b ∈ l, b.length = N) → P r → (∀ b ∈ l, P b) → P (sweepR l r)
  | [], r, _, _, h, _ => h
  | b :: l, r, hr, hb, h, hpb => by
    unfold sweepR
    rw [List.foldl_cons]
    cases e : b.findIdx? fun x => x != 0 with
    | none => exact sweep_keeps P hP l r hr (fun c hc => hb c (List.mem_cons_of_mem _ hc)) h fun c hc => hpb c (List.mem_cons_of_mem _ hc)
    | some i =>
      have hbl := hb b (List.mem_cons_self ..)
      exact sweep_keeps P hP l _ (by show (addS r _ b).length = N; rw [addS_length _ (by rw [hr, hbl]), hr]) (fun c hc => hb c (List.mem_cons_of_mem _ hc)) (hP r b _ hr hbl h (hpb b (List.mem_cons_self ..))) fun c hc => hpb c (List.mem_cons_of_mem _ hc)
/-- earlier rows' firsts are 0 in the later ones -/
def Ech (l : List L) : Prop := l.Pairwise fun b c => ∀ i, Piv b i → c.getD i 0 = 0
/-- behind the sweeping nothing is left at the rows' firsts -/
theorem sweep_zero {N : Nat} : ∀ (l : List L) (r : L), r.length = N → (∀ b ∈ l, b.length = N) → (∀ b ∈ l, ∃ i, Piv b i) → Ech l → ∀ b ∈ l, ∀ i, Piv b i → (sweepR l r).getD i 0 = 0
  | [], _, _, _, _, _, b, hb, _, _ => by cases hb
  | b :: l, r, hr, hb, hpv, he, c, hc, i, hi => by
    have hbl := hb b (List.mem_cons_self ..)
    obtain ⟨q, hq⟩ := hpv b (List.mem_cons_self ..)
    have hl : ∀ c ∈ l, c.length = N := fun c hc => hb c (List.mem_cons_of_mem _ hc)
    have he' := List.pairwise_cons.mp he
    have e : sweepR (b :: l) r = sweepR l (addS r (-(r.getD q 0)) b) := by
      unfold sweepR
      rw [List.foldl_cons, hq.1]
    rw [e]
    have hr' : (addS r (-(r.getD q 0)) b).length = N := by rw [addS_length _ (by rw [hr, hbl]), hr]
    rcases List.mem_cons.mp hc with rfl | hc'
    · have : i = q := piv_unique hi hq
      subst this
      refine sweep_keeps (N := N) (fun r => r.getD i 0 = 0) (fun r b t h1 h2 h3 h4 => ?_) l _ hr' hl ?_ fun d hd => he'.1 d hd i hi
      · show (addS r t b).getD i 0 = 0
        rw [addS_getD t (by rw [h1, h2]), h3, h4]
        grind
      · show (addS r (-(r.getD i 0)) _).getD i 0 = 0
        rw [addS_getD _ (by rw [hr, hbl]), hq.2]
        grind
    · exact sweep_zero l _ hr' hl (fun d hd => hpv d (List.mem_cons_of_mem _ hd)) he'.2 c hc' i hi
/-- with the sweeping's row, all is made of the rows -/
def Spn : List L → L → Prop
  | [], x => ∀ i, x.getD i 0 = 0
  | b :: l, x => ∃ t : Rat, Spn l (addS x t b)
/-- what is made of the rows (the last one first) and is 0 at all their firsts is 0 -/
theorem spn_zero {N : Nat} : ∀ (l : List L) (x : L), x.length = N → (∀ b ∈ l, b.length = N) → (∀ b ∈ l, ∃ i, Piv b i) → Ech l.reverse → Spn l x → (∀ b ∈ l, ∀ i, Piv b i → x.getD i 0 = 0) → ∀ i, x.getD i 0 = 0
  | [], x, _, _, _, _, h, _ => h
  | b :: l, x, hx, hb, hpv, he, ⟨t, ht⟩, hz => by
    have hbl := hb b (List.mem_cons_self ..)
    obtain ⟨q, hq⟩ := hpv b (List.mem_cons_self ..)
    rw [List.reverse_cons] at he
    have he' := List.pairwise_append.mp he
    have hy : (addS x t b).length = N := by rw [addS_length _ (by rw [hx, hbl]), hx]
    have h1 := spn_zero l (addS x t b) hy (fun c hc => hb c (List.mem_cons_of_mem _ hc)) (fun c hc => hpv c (List.mem_cons_of_mem _ hc)) he'.1 ht (fun c hc i hi => by
      rw [addS_getD _ (by rw [hx, hbl]), hz c (List.mem_cons_of_mem _ hc) i hi]
      rw [he'.2.2 c (List.mem_reverse.mpr hc) b (by simp) i hi]
      grind)
    have h2 := h1 q
    rw [addS_getD _ (by rw [hx, hbl]), hz b (List.mem_cons_self ..) q hq, hq.2] at h2
    have ht0 : t = 0 := by grind
    intro i
    have h3 := h1 i
    rw [addS_getD _ (by rw [hx, hbl]), ht0] at h3
    grind
end Rf

set_option autoImplicit false
set_option maxHeartbeats 4000000
set_option maxRecDepth 100000
namespace Rf
open Nf01 (F Num)
def sumTo : Nat → (Nat → Rat) → Rat
  | 0, _ => 0
  | m + 1, f => sumTo m f + f m
theorem sumTo_congr {m : Nat} {f g : Nat → Rat} (h : ∀ i, i < m → f i = g i) : sumTo m f = sumTo m g := by
  induction m with
  | zero => rfl
  | succ m ih =>
    show sumTo m f + f m = sumTo m g + g m
    rw [ih fun i hi => h i (by omega), h m (by omega)]
theorem sumTo_add (m : Nat) (f g : Nat → Rat) (t : Rat) : sumTo m (fun i => f i + t * g i) = sumTo m f + t * sumTo m g := by
  induction m with
  | zero => show (0 : Rat) = 0 + t * 0; grind
  | succ m ih =>
    show sumTo m (fun i => f i + t * g i) + (f m + t * g m) = sumTo m f + f m + t * (sumTo m g + g m)
    rw [ih]; grind
theorem sumTo_zero {m : Nat} {f : Nat → Rat} (h : ∀ i, i < m → f i = 0) : sumTo m f = 0 := by
  induction m with
  | zero => rfl
  | succ m ih =>
    show sumTo m f + f m = 0
    rw [ih fun i hi => h i (by omega), h m (by omega)]
    grind
theorem sumTo_one {m j : Nat} {f : Nat → Rat} (hj : j < m) (h : ∀ i, i < m → i ≠ j → f i = 0) : sumTo m f = f j := by
  induction m with
  | zero => omega
  | succ m ih =>
    show sumTo m f + f m = f j
    by_cases e : j = m
    · subst e
      rw [sumTo_zero fun i hi => h i (by omega) (by omega)]
      grind
    · rw [ih (by omega) fun i hi => h i (by omega), h m (by omega) (by omega)]
      grind
/-- powers -/
def pw (k : List Int) (a : L) : Nat → L
  | 0 => ofR k 1
  | j + 1 => timesR k (pw k a j) a
theorem pw_length {k : List Int} (h0 : 1 ≤ k.length) {a : L} (ha : a.length = k.length) (j : Nat) : (pw k a j).length = k.length := by
  cases j with
  | zero => exact ofR_length h0 1
  | succ j => exact times_length h0 _ ha
/-- a row whose first part is what its second part makes of the powers -/
def Good (k : List Int) (a : L) (r : L) : Prop := ∀ q, q < k.length → r.getD q 0 = sumTo (k.length + 1) fun i => r.getD (k.length + i) 0 * (pw k a i).getD q 0
theorem good_add {k : List Int} {a r b : L} (t : Rat) (h : r.length = b.length) (hr : Good k a r) (hb : Good k a b) : Good k a (addS r t b) := by
  intro q hq
  rw [addS_getD t h, hr q hq, hb q hq, ← sumTo_add]
  apply sumTo_congr
  intro i _
  rw [addS_getD t h]
  grind
def unitR (n j : Nat) : L := (List.range (n + 1)).map fun i => if i = j then 1 else 0
def rowR (k : List Int) (a : L) (j : Nat) : L := pw k a j ++ unitR k.length j
theorem unit_length (n j : Nat) : (unitR n j).length = n + 1 := by simp [unitR]
theorem unit_getD {n j i : Nat} (hi : i ≤ n) : (unitR n j).getD i 0 = if i = j then 1 else 0 := by
  unfold unitR
  rw [List.getD_eq_getElem?_getD, List.getElem?_map, List.getElem?_range (by omega)]
  rfl
theorem getD_left {u v : L} {q : Nat} (h : q < u.length) : (u ++ v).getD q 0 = u.getD q 0 := by
  rw [List.getD_eq_getElem?_getD, List.getD_eq_getElem?_getD, List.getElem?_append_left h]
theorem getD_right {u v : L} {n : Nat} (h : u.length = n) (q : Nat) : (u ++ v).getD (n + q) 0 = v.getD q 0 := by
  rw [List.getD_eq_getElem?_getD, List.getD_eq_getElem?_getD, List.getElem?_append_right (by omega)]
  congr 2
  omega
theorem good_row {k : List Int} (h0 : 1 ≤ k.length) {a : L} (ha : a.length = k.length) {j : Nat} (hj : j ≤ k.length) : Good k a (rowR k a j) := by
  intro q hq
  have hl := pw_length h0 ha j
  unfold rowR
  rw [getD_left (by omega)]
  rw [sumTo_one (j := j) (by omega)]
  · rw [getD_right hl, unit_getD hj, if_pos rfl]; grind
  · intro i hi hne
    rw [getD_right hl, unit_getD (by omega), if_neg hne]; grind
theorem sweep_coord {N i : Nat} : ∀ (l : List L) (r : L), r.length = N → (∀ b ∈ l, b.length = N) → (∀ b ∈ l, b.getD i 0 = 0) → (sweepR l r).getD i 0 = r.getD i 0
  | [], _, _, _, _ => rfl
  | b :: l, r, hr, hb, hz => by
    unfold sweepR
    rw [List.foldl_cons]
    have hbl := hb b (List.mem_cons_self ..)
    cases e : b.findIdx? fun x => x != 0 with
    | none => exact sweep_coord l r hr (fun c hc => hb c (List.mem_cons_of_mem _ hc)) fun c hc => hz c (List.mem_cons_of_mem _ hc)
    | some q =>
      have h := sweep_coord (N := N) (i := i) l (addS r (-(r.getD q 0)) b) (by rw [addS_length _ (by rw [hr, hbl]), hr]) (fun c hc => hb c (List.mem_cons_of_mem _ hc)) fun c hc => hz c (List.mem_cons_of_mem _ hc)
      refine Eq.trans h ?_
      rw [addS_getD _ (by rw [hr, hbl]), hz b (List.mem_cons_self ..)]
      grind
/-- the rows, the last one first: their highest powers fall one by one -/
def Tri (n : Nat) : List L → Prop
  | [] => True
  | b :: l => b.getD (n + l.length) 0 ≠ 0 ∧ (∀ q, l.length < q → b.getD (n + q) 0 = 0) ∧ Tri n l
theorem tri_above {n : Nat} : ∀ {l : List L}, Tri n l → ∀ b ∈ l, ∀ q, l.length ≤ q → b.getD (n + q) 0 = 0
  | [], _, b, hb, _, _ => by cases hb
  | c :: l, ⟨_, h2, h3⟩, b, hb, q, hq => by
    have hq' : l.length + 1 ≤ q := hq
    rcases List.mem_cons.mp hb with rfl | hb'
    · exact h2 q (by omega)
    · exact tri_above h3 b hb' q (by omega)
theorem getD_beyond {x : L} {i : Nat} (h : x.length ≤ i) : x.getD i 0 = 0 := by
  rw [List.getD_eq_getElem?_getD, List.getElem?_eq_none h]; rfl
theorem spn_of {k : List Int} {a : L} : ∀ (l : List L) (x : L), x.length = 2 * k.length + 1 → (∀ b ∈ l, b.length = 2 * k.length + 1 ∧ Good k a b) → Tri k.length l → Good k a x → (∀ q, l.length ≤ q → x.getD (k.length + q) 0 = 0) → Spn l x
  | [], x, hx, _, _, hg, hz => by
    intro i
    by_cases hi : i < k.length
    · rw [hg i hi]
      apply sumTo_zero
      intro q _
      rw [hz q (Nat.zero_le q)]
      grind
    · have := hz (i - k.length) (Nat.zero_le _)
      have e : k.length + (i - k.length) = i := by omega
      rw [e] at this
      exact this
  | b :: l, x, hx, hb, ⟨t1, t2, t3⟩, hg, hz => by
    obtain ⟨hbl, hbg⟩ := hb b (List.mem_cons_self ..)
    have hxb : x.length = b.length := by rw [hx, hbl]
    refine ⟨-(x.getD (k.length + l.length) 0 / b.getD (k.length + l.length) 0), ?_⟩
    apply spn_of l _ (by rw [addS_length _ hxb, hx]) (fun c hc => hb c (List.mem_cons_of_mem _ hc)) t3 (good_add _ hxb hg hbg)
    intro q hq
    rw [addS_getD _ hxb]
    by_cases e : q = l.length
    · subst e
      grind
    · rw [t2 q (by omega), hz q (by show l.length + 1 ≤ q; omega)]
      grind
/-- what holds of the rows (the last one first) when j powers are through -/
structure Inv (k : List Int) (a : L) (l : List L) : Prop where
  ok : ∀ b ∈ l, b.length = 2 * k.length + 1 ∧ Good k a b
  piv : ∀ b ∈ l, ∃ i, Piv b i
  low : ∀ b ∈ l, ∀ i, Piv b i → i < k.length
  ech : Ech l.reverse
  tri : Tri k.length l
end Rf

set_option autoImplicit false
set_option maxHeartbeats 4000000
set_option maxRecDepth 100000
namespace Rf
open Nf01 (F Num)
theorem lead_first : ∀ r : L, (∃ q, r.getD q 0 ≠ 0) → ∃ (i : Nat) (c : Rat), r.findIdx? (fun x => x != 0) = some i ∧ r.find? (fun x => x != 0) = some c ∧ r.getD i 0 = c ∧ ∀ q, q < i → r.getD q 0 = 0
  | [], ⟨q, hq⟩ => by exfalso; apply hq; rfl
  | x :: r, h => by
    by_cases hx : x = 0
    · subst hx
      have h2 : ∃ q, r.getD q 0 ≠ 0 := by
        obtain ⟨q, hq⟩ := h
        cases q with
        | zero => exact absurd rfl hq
        | succ q => exact ⟨q, hq⟩
      obtain ⟨i, c, h3, h4, h5, h6⟩ := lead_first r h2
      refine ⟨i + 1, c, ?_, ?_, h5, ?_⟩
      · rw [List.findIdx?_cons, h3]; rfl
      · rw [List.find?_cons]
        exact h4
      · intro q hq
        cases q with
        | zero => rfl
        | succ q => exact h6 q (by omega)
    · refine ⟨0, x, ?_, ?_, rfl, fun q hq => by omega⟩
      · have : (x != 0) = true := by simpa using hx
        rw [List.findIdx?_cons, this]; rfl
      · have : (x != 0) = true := by simpa using hx
        rw [List.find?_cons, this]
theorem map_div_getD (r : L) (c : Rat) (i : Nat) : (r.map fun x => x / c).getD i 0 = r.getD i 0 / c := by
  rw [List.getD_eq_getElem?_getD, List.getD_eq_getElem?_getD, List.getElem?_map]
  cases r[i]? with
  | none => show (0 : Rat) = 0 / c; grind
  | some x => rfl
theorem inv_step {k : List Int} (hd : Deg k) {a : L} (ha : a.length = k.length) {l : List L} (hI : Inv k a l) (hj : l.length ≤ k.length) {r : L} (hr : r = sweepR l.reverse (rowR k a l.length)) (hne : ∃ q, q < k.length ∧ r.getD q 0 ≠ 0) : Inv k a (leadOneR r :: l) := by
  have h0 : 1 ≤ k.length := by have := hd.1; omega
  have hrow : (rowR k a l.length).length = 2 * k.length + 1 := by
    unfold rowR
    rw [List.length_append, pw_length h0 ha, unit_length]; omega
  have hlen : ∀ b ∈ l.reverse, b.length = 2 * k.length + 1 := fun b hb => (hI.ok b (List.mem_reverse.mp hb)).1
  have hrl : r.length = 2 * k.length + 1 := by rw [hr]; exact sweep_length _ _ hrow hlen
  have hrg : Good k a r := by
    rw [hr]
    exact sweep_keeps (N := 2 * k.length + 1) (Good k a) (fun r b t h1 h2 h3 h4 => good_add t (by rw [h1, h2]) h3 h4) _ _ hrow hlen (good_row h0 ha hj) fun b hb => (hI.ok b (List.mem_reverse.mp hb)).2
  have hcoord : ∀ q, l.length ≤ q → r.getD (k.length + q) 0 = (rowR k a l.length).getD (k.length + q) 0 := by
    intro q hq
    rw [hr]
    exact sweep_coord (N := 2 * k.length + 1) _ _ hrow hlen fun b hb => tri_above hI.tri b (List.mem_reverse.mp hb) q hq
  have hz : ∀ b ∈ l, ∀ i, Piv b i → r.getD i 0 = 0 := by
    intro b hb i hi
    rw [hr]
    exact sweep_zero (N := 2 * k.length + 1) _ _ hrow hlen (fun c hc => hI.piv c (List.mem_reverse.mp hc)) hI.ech b (List.mem_reverse.mpr hb) i hi
  obtain ⟨q0, hq0, hq1⟩ := hne
  obtain ⟨π, c, p1, p2, p3, p4⟩ := lead_first r ⟨q0, hq1⟩
  have hc : c ≠ 0 := find_ne p2
  have e : leadOneR r = r.map fun x => x / c := by unfold leadOneR; rw [p2]
  have hπ : π < k.length := by
    apply Nat.lt_of_le_of_lt _ hq0
    apply Nat.le_of_not_lt
    intro h
    exact hq1 (p4 q0 h)
  have hpiv : Piv (leadOneR r) π := by
    constructor
    · rw [e, List.findIdx?_map, ← p1]
      congr 1
      funext x
      by_cases hx : x = 0
      · subst hx
        show (0 / c != 0) = (0 != 0)
        have : (0 : Rat) / c = 0 := by grind
        rw [this]
      · have h1 : x / c ≠ 0 := by grind
        have e1 : (x / c != 0) = true := by simpa using h1
        have e2 : (x != 0) = true := by simpa using hx
        show (x / c != 0) = (x != 0)
        rw [e1, e2]
    · rw [e, map_div_getD, p3]; grind
  have hbl : (leadOneR r).length = 2 * k.length + 1 := by rw [e]; simp [hrl]
  have hbg : Good k a (leadOneR r) := by
    intro q hq
    have h1 := hrg q hq
    have h2 := sumTo_add (k.length + 1) (fun _ => 0) (fun i => r.getD (k.length + i) 0 * (pw k a i).getD q 0) (1 / c)
    rw [sumTo_zero (fun _ _ => rfl)] at h2
    rw [e, map_div_getD, h1]
    have h3 : sumTo (k.length + 1) (fun i => (r.map fun x => x / c).getD (k.length + i) 0 * (pw k a i).getD q 0) = sumTo (k.length + 1) (fun i => 0 + (1 / c) * (r.getD (k.length + i) 0 * (pw k a i).getD q 0)) := by
      apply sumTo_congr
      intro i _
      rw [map_div_getD]
      grind
    rw [h3, h2]
    grind
  refine ⟨?_, ?_, ?_, ?_, ?_⟩
  · intro b hb
    rcases List.mem_cons.mp hb with rfl | hb'
    · exact ⟨hbl, hbg⟩
    · exact hI.ok b hb'
  · intro b hb
    rcases List.mem_cons.mp hb with rfl | hb'
    · exact ⟨π, hpiv⟩
    · exact hI.piv b hb'
  · intro b hb i hi
    rcases List.mem_cons.mp hb with rfl | hb'
    · rw [piv_unique hi hpiv]; exact hπ
    · exact hI.low b hb' i hi
  · rw [List.reverse_cons]
    refine List.pairwise_append.mpr ⟨hI.ech, List.pairwise_singleton _ _, fun b hb c' hc' => ?_⟩
    intro i hi
    have : c' = leadOneR r := by simpa using hc'
    subst this
    rw [e, map_div_getD, hz b (List.mem_reverse.mp hb) i hi]
    grind
  · refine ⟨?_, ?_, hI.tri⟩
    · rw [e, map_div_getD, hcoord l.length (Nat.le_refl _)]
      unfold rowR
      rw [getD_right (pw_length h0 ha _), unit_getD hj, if_pos rfl]
      have := recip_pos (show (0 : Rat) < 1 by decide)
      grind
    · intro q hq
      rw [e, map_div_getD, hcoord q (by omega)]
      unfold rowR
      rw [getD_right (pw_length h0 ha _)]
      by_cases hqn : q ≤ k.length
      · rw [unit_getD hqn, if_neg (by omega)]; grind
      · rw [getD_beyond (by rw [unit_length]; omega)]; grind
/-- a least polynomial: 1 ahead, nothing of a lower degree is one -/
structure Least (k : List Int) (a : L) (m : L) (d : Nat) : Prop where
  len : m.length = d + 1
  le : d ≤ k.length
  one : m.getD d 0 = 1
  root : ∀ q, q < k.length → sumTo (k.length + 1) (fun i => m.getD i 0 * (pw k a i).getD q 0) = 0
  min : ∀ c : Nat → Rat, (∀ i, d ≤ i → c i = 0) → (∀ q, q < k.length → sumTo (k.length + 1) (fun i => c i * (pw k a i).getD q 0) = 0) → ∀ i, c i = 0
theorem take_zero_psi {r : L} {n : Nat} (hn : n ≤ r.length) : ((r.map psi).take n).all (fun x => x == Nf01.zero) = true ↔ ∀ q, q < n → r.getD q 0 = 0 := by
  rw [List.all_eq_true]
  constructor
  · intro h q hq
    have h1 : psi (r[q]'(by omega)) ∈ (r.map psi).take n := by
      rw [← List.map_take]
      exact List.mem_map.mpr ⟨_, List.mem_take_iff_getElem.mpr ⟨q, by omega, rfl⟩, rfl⟩
    have h2 := h _ h1
    have h3 : psi (r[q]'(by omega)) = Nf01.zero := by simpa using h2
    rw [List.getD_eq_getElem?_getD, List.getElem?_eq_getElem (by omega)]
    exact psi_eq_zero.mp h3
  · intro h x hx
    rw [← List.map_take] at hx
    obtain ⟨y, hy, rfl⟩ := List.mem_map.mp hx
    obtain ⟨q, hq, hqe⟩ := List.mem_take_iff_getElem.mp hy
    have h1 := h q (by omega)
    rw [List.getD_eq_getElem?_getD, List.getElem?_eq_getElem (by omega)] at h1
    have h2 : y = 0 := by rw [← hqe]; exact h1
    rw [h2]
    rfl
end Rf

set_option autoImplicit false
set_option maxHeartbeats 4000000
set_option maxRecDepth 100000
namespace Rf
open Nf01 (F Num)
theorem ext_getD {u v : L} (hl : u.length = v.length) (h : ∀ i, u.getD i 0 = v.getD i 0) : u = v := by
  apply List.ext_getElem hl
  intro i h1 h2
  have := h i
  rw [List.getD_eq_getElem?_getD, List.getD_eq_getElem?_getD, List.getElem?_eq_getElem h1, List.getElem?_eq_getElem h2] at this
  exact this
theorem row_psi (k : List Int) (a : L) (j : Nat) : (pw k a j).map psi ++ (List.range (Nf01.Field.n k + 1)).map (fun i => if i = j then Nf01.one else Nf01.zero) = (rowR k a j).map psi := by
  unfold rowR unitR
  rw [List.map_append, List.map_map]
  congr 1
  apply List.map_congr_left
  intro i _
  show _ = psi (if i = j then 1 else 0)
  split <;> rfl
theorem loop_is {k : List Int} (hd : Deg k) {a : L} (ha : a.length = k.length) {m : L} {d : Nat} (hm : Least k a m d) : ∀ (f : Nat) (l : List L), Inv k a l → l.length ≤ d → d - l.length < f →
    Nf01.minFrom k (a.map psi) f ((l.reverse).map (·.map psi)) ((pw k a l.length).map psi) l.length = m.map psi
  | 0, _, _, _, h => by omega
  | f + 1, l, hI, hj, hf => by
    have h0 : 1 ≤ k.length := by have := hd.1; omega
    have hle := hm.le
    have hrow : (rowR k a l.length).length = 2 * k.length + 1 := by
      unfold rowR
      rw [List.length_append, pw_length h0 ha, unit_length]; omega
    have hlen : ∀ b ∈ l.reverse, b.length = 2 * k.length + 1 := fun b hb => (hI.ok b (List.mem_reverse.mp hb)).1
    obtain ⟨r, hr⟩ : ∃ r, r = sweepR l.reverse (rowR k a l.length) := ⟨_, rfl⟩
    have hrl : r.length = 2 * k.length + 1 := by rw [hr]; exact sweep_length _ _ hrow hlen
    have hrg : Good k a r := by
      rw [hr]
      exact sweep_keeps (N := 2 * k.length + 1) (Good k a) (fun r b t h1 h2 h3 h4 => good_add t (by rw [h1, h2]) h3 h4) _ _ hrow hlen (good_row h0 ha (by omega)) fun b hb => (hI.ok b (List.mem_reverse.mp hb)).2
    have hcoord : ∀ q, l.length ≤ q → r.getD (k.length + q) 0 = if q = l.length then 1 else 0 := by
      intro q hq
      rw [hr, sweep_coord (N := 2 * k.length + 1) _ _ hrow hlen fun b hb => tri_above hI.tri b (List.mem_reverse.mp hb) q hq]
      unfold rowR
      rw [getD_right (pw_length h0 ha _)]
      by_cases hqn : q ≤ k.length
      · rw [unit_getD hqn]
      · rw [getD_beyond (by rw [unit_length]; omega), if_neg (by omega)]
    have hz : ∀ b ∈ l, ∀ i, Piv b i → r.getD i 0 = 0 := by
      intro b hb i hi
      rw [hr]
      exact sweep_zero (N := 2 * k.length + 1) _ _ hrow hlen (fun c hc => hI.piv c (List.mem_reverse.mp hc)) hI.ech b (List.mem_reverse.mpr hb) i hi
    have hunf : Nf01.minFrom k (a.map psi) (f + 1) ((l.reverse).map (·.map psi)) ((pw k a l.length).map psi) l.length =
        (if ((r.map psi).take k.length).all (fun x => x == Nf01.zero) = true then (((r.map psi).drop k.length).take (l.length + 1)).map (fun x => x.div (((r.map psi).drop k.length).getD l.length Nf01.one)) else Nf01.minFrom k (a.map psi) f ((l.reverse).map (·.map psi) ++ [Nf01.leadOne (r.map psi)]) (Nf01.times k ((pw k a l.length).map psi) (a.map psi)) (l.length + 1)) := by
      show (if ((Nf01.sweep ((l.reverse).map (·.map psi)) ((pw k a l.length).map psi ++ (List.range (Nf01.Field.n k + 1)).map (fun i => if i = l.length then Nf01.one else Nf01.zero))).take (Nf01.Field.n k)).all (fun x => x == Nf01.zero) = true then _ else _) = _
      rw [row_psi, sweep_psi, ← hr]
      rfl
    rw [hunf]
    by_cases hlt : l.length < d
    · have hne : ∃ q, q < k.length ∧ r.getD q 0 ≠ 0 := by
        apply Classical.byContradiction
        intro hno
        have hall : ∀ q, q < k.length → r.getD q 0 = 0 := fun q hq => Classical.byContradiction fun h => hno ⟨q, hq, h⟩
        have h1 := hm.min (fun i => r.getD (k.length + i) 0) (fun i hi => by
          show r.getD (k.length + i) 0 = 0
          rw [hcoord i (by omega), if_neg (by omega)]) (fun q hq => by rw [← hrg q hq]; exact hall q hq) l.length
        have h2 := hcoord l.length (Nat.le_refl _)
        rw [if_pos rfl] at h2
        rw [h2] at h1
        exact absurd h1 (by decide)
      rw [if_neg (fun h => by
        have h1 := (take_zero_psi (by omega)).mp h
        obtain ⟨q, hq, hq2⟩ := hne
        exact hq2 (h1 q hq))]
      rw [leadOne_psi, times_psi]
      have hI' := inv_step hd ha hI (by omega) hr hne
      have ih := loop_is hd ha hm f (leadOneR r :: l) hI' (by show l.length + 1 ≤ d; omega) (by show d - (l.length + 1) < f; omega)
      have e1 : ((leadOneR r :: l).reverse).map (·.map psi) = (l.reverse).map (·.map psi) ++ [(leadOneR r).map psi] := by
        rw [List.reverse_cons, List.map_append]
        rfl
      rw [e1] at ih
      exact ih
    · have hjd : l.length = d := by omega
      -- the row of the least polynomial itself
      let rm : L := List.replicate k.length 0 ++ (m ++ List.replicate (k.length - d) 0)
      have hml := hm.len
      have hrml : rm.length = 2 * k.length + 1 := by
        show (List.replicate k.length 0 ++ (m ++ List.replicate (k.length - d) 0)).length = _
        simp; omega
      have hm1 : ∀ q, q < k.length → rm.getD q 0 = 0 := by
        intro q hq
        show (List.replicate k.length 0 ++ _).getD q 0 = 0
        rw [getD_left (by simp; exact hq), List.getD_eq_getElem?_getD, List.getElem?_replicate, if_pos hq]
        rfl
      have hm2 : ∀ q, rm.getD (k.length + q) 0 = m.getD q 0 := by
        intro q
        show (List.replicate k.length 0 ++ _).getD (k.length + q) 0 = _
        rw [getD_right (by simp)]
        by_cases hq : q < m.length
        · rw [getD_left hq]
        · rw [getD_beyond (x := m) (by omega)]
          by_cases hq2 : q < m.length + (k.length - d)
          · rw [List.getD_eq_getElem?_getD, List.getElem?_append_right (by omega), List.getElem?_replicate, if_pos (by omega)]
            rfl
          · rw [getD_beyond (by simp; omega)]
      have hmg : Good k a rm := by
        intro q hq
        refine (hm1 q hq).trans ((hm.root q hq).symm.trans (sumTo_congr fun i _ => ?_))
        rw [hm2]
      have hx : ∀ i, (addS r (-1) rm).getD i 0 = 0 := by
        refine spn_zero (N := 2 * k.length + 1) l (addS r (-1) rm) (by rw [addS_length _ (by rw [hrl, hrml]), hrl]) (fun b hb => (hI.ok b hb).1) hI.piv hI.ech (spn_of l _ (by rw [addS_length _ (by rw [hrl, hrml]), hrl]) hI.ok hI.tri (good_add _ (by rw [hrl, hrml]) hrg hmg) ?_) ?_
        · intro q hq
          rw [addS_getD _ (by rw [hrl, hrml]), hm2, hcoord q hq]
          by_cases e : q = l.length
          · rw [if_pos e, e, hjd, hm.one]; grind
          · rw [if_neg e, getD_beyond (by omega)]; grind
        · intro b hb i hi
          rw [addS_getD _ (by rw [hrl, hrml]), hz b hb i hi, hm1 i (hI.low b hb i hi)]
          grind
      have hrr : r = rm := by
        apply ext_getD (by rw [hrl, hrml])
        intro i
        have := hx i
        rw [addS_getD _ (by rw [hrl, hrml])] at this
        grind
      rw [hrr, if_pos ((take_zero_psi (by omega)).mpr hm1)]
      have e1 : (rm.map psi).drop k.length = (m ++ List.replicate (k.length - d) 0).map psi := by
        rw [← List.map_drop]
        congr 1
        show (List.replicate k.length 0 ++ (m ++ List.replicate (k.length - d) 0)).drop k.length = _
        rw [List.drop_left' (by simp)]
      rw [e1, hjd]
      have e2 : ((m ++ List.replicate (k.length - d) 0).map psi).take (d + 1) = m.map psi := by
        rw [← List.map_take, List.take_left' (by omega)]
      have e3 : ((m ++ List.replicate (k.length - d) 0).map psi).getD d Nf01.one = psi 1 := by
        rw [List.getD_eq_getElem?_getD, List.getElem?_map, List.getElem?_append_left (by omega)]
        have h1 := hm.one
        rw [List.getD_eq_getElem?_getD, List.getElem?_eq_getElem (by omega)] at h1
        rw [List.getElem?_eq_getElem (by omega)]
        show psi _ = psi 1
        congr 1
      rw [e2, e3, List.map_map]
      apply List.map_congr_left
      intro x _
      show (psi x).div (psi 1) = psi x
      rw [div_psi _ _ one_ne]
      congr 1
      grind
/-- **the specification's least polynomial is the least polynomial** -/
theorem least_is {k : List Int} (hd : Deg k) {a : L} (ha : a.length = k.length) {m : L} {d : Nat} (hm : Least k a m d) : Nf01.least k (a.map psi) = m.map psi := by
  have h := loop_is hd ha hm (k.length + 1) [] ⟨fun b hb => (by cases hb), fun b hb => (by cases hb), fun b hb => (by cases hb), List.Pairwise.nil, trivial⟩ (Nat.zero_le d) (by have := hm.le; show d - 0 < _; omega)
  have e : (Nf01.ofF k Nf01.one) = (pw k a 0).map psi := by
    show Nf01.ofF k (psi 1) = _
    rw [of_psi']
    rfl
  unfold Nf01.least
  rw [e]
  exact h
end Rf

set_option autoImplicit false
set_option maxHeartbeats 4000000
set_option maxRecDepth 100000
namespace Rf
/-! A number that is no fraction: what polynomials of a lower degree it can be a root of. -/
theorem getD_plus {a b : L} (h : a.length = b.length) (i : Nat) : (plusR a b).getD i 0 = a.getD i 0 + b.getD i 0 := by
  unfold plusR
  rw [List.getD_eq_getElem?_getD, List.getD_eq_getElem?_getD, List.getD_eq_getElem?_getD, List.getElem?_map]
  by_cases hi : i < a.length
  · rw [List.getElem?_eq_getElem (l := a.zip b) (by simp; omega), List.getElem?_eq_getElem hi, List.getElem?_eq_getElem (l := b) (by omega)]
    simp
  · rw [List.getElem?_eq_none (by simp; omega), List.getElem?_eq_none (by omega), List.getElem?_eq_none (l := b) (by omega)]
    show (0 : Rat) = 0 + 0
    grind
theorem getD_scale (s : Rat) (a : L) (i : Nat) : (scaleR s a).getD i 0 = s * a.getD i 0 := by
  unfold scaleR
  rw [List.getD_eq_getElem?_getD, List.getD_eq_getElem?_getD, List.getElem?_map]
  cases a[i]? with
  | none => show (0 : Rat) = s * 0; grind
  | some x => rfl
theorem getD_of {k : List Int} (x : Rat) (i : Nat) (hi : 0 < i) : (ofR k x).getD i 0 = 0 := by
  obtain ⟨j, rfl⟩ : ∃ j, i = j + 1 := ⟨i - 1, by omega⟩
  show (List.replicate (k.length - 1) (0 : Rat)).getD j 0 = 0
  rw [List.getD_eq_getElem?_getD, List.getElem?_replicate]
  split <;> rfl
theorem getD_of0 {k : List Int} (x : Rat) : (ofR k x).getD 0 0 = x := rfl
/-- no fraction: some place behind the first isn't 0 -/
def NonRat (a : L) : Prop := ∃ i, 0 < i ∧ a.getD i 0 ≠ 0
/-- a number times itself less two fractions -/
theorem product_two {k : List Int} (hd : Deg k) {a : L} (ha : a.length = k.length) (u v : Rat) : timesR k (plusR a (ofR k u)) (plusR a (ofR k v)) = plusR (plusR (timesR k a a) (scaleR (u + v) a)) (ofR k (u * v)) := by
  have h0 : 1 ≤ k.length := by have := hd.1; omega
  have ho : ∀ x : Rat, (ofR k x).length = k.length := ofR_length h0
  have hp : ∀ x : Rat, (plusR a (ofR k x)).length = k.length := fun x => by rw [plusR_length _ _ (by rw [ha, ho])]; exact ha
  have hA := times_length h0 a ha
  have hAp : ∀ x : Rat, (timesR k a (plusR a (ofR k x))).length = k.length := fun x => times_length h0 a (hp x)
  rw [times_add hd ha (ho u) (hp v), comm hd ha (hp v), times_add hd ha (ho v) ha, times_of hd _ ha, times_of hd _ (hp v)]
  have l1 : (plusR (timesR k a a) (scaleR v a)).length = k.length := by rw [plusR_length _ _ (by rw [hA, scaleR_length, ha]), hA]
  have l2 : (scaleR u (plusR a (ofR k v))).length = k.length := by rw [scaleR_length, hp]
  have l3 : (plusR (timesR k a a) (scaleR (u + v) a)).length = k.length := by rw [plusR_length _ _ (by rw [hA, scaleR_length, ha]), hA]
  apply ext_getD
  · rw [plusR_length _ _ (by rw [l1, l2]), l1, plusR_length _ _ (by rw [l3, ho]), l3]
  · intro i
    rw [getD_plus (by rw [l1, l2]), getD_plus (by rw [hA, scaleR_length, ha]), getD_plus (by rw [l3, ho]), getD_plus (by rw [hA, scaleR_length, ha]), getD_scale, getD_scale, getD_scale, getD_plus (by rw [ha, ho])]
    cases i with
    | zero => rw [getD_of0, getD_of0]; grind
    | succ i => rw [getD_of _ _ (by omega), getD_of _ _ (by omega)]; grind
/-- a root of a quadratic that has a fraction for a root is a fraction -/
theorem quad_rat {k : List Int} (hd : Deg k) (hi : Irr k) {a : L} (ha : a.length = k.length) {m1 m0 r : Rat} (hr : r*r + m1*r + m0 = 0) (h : ∀ i, (timesR k a a).getD i 0 = -m1 * a.getD i 0 + (ofR k (-m0)).getD i 0) : ¬ NonRat a := by
  intro ⟨i, hi0, hne⟩
  have h0 : 1 ≤ k.length := by have := hd.1; omega
  have ho : ∀ x : Rat, (ofR k x).length = k.length := ofR_length h0
  have hp : ∀ x : Rat, (plusR a (ofR k x)).length = k.length := fun x => by rw [plusR_length _ _ (by rw [ha, ho])]; exact ha
  have hA := times_length h0 a ha
  have hz : timesR k (plusR a (ofR k (-r))) (plusR a (ofR k (r + m1))) = zerosR k := by
    rw [product_two hd ha]
    have l3 : (plusR (timesR k a a) (scaleR (-r + (r + m1)) a)).length = k.length := by rw [plusR_length _ _ (by rw [hA, scaleR_length, ha]), hA]
    apply ext_getD
    · rw [plusR_length _ _ (by rw [l3, ho]), l3]; simp
    · intro j
      rw [getD_plus (by rw [l3, ho]), getD_plus (by rw [hA, scaleR_length, ha]), getD_scale, h]
      have hzj : (zerosR k).getD j 0 = 0 := by
        show (List.replicate k.length (0 : Rat)).getD j 0 = 0
        rw [List.getD_eq_getElem?_getD, List.getElem?_replicate]
        split <;> rfl
      rw [hzj]
      cases j with
      | zero => rw [getD_of0, getD_of0]; grind
      | succ j => rw [getD_of _ _ (by omega), getD_of _ _ (by omega)]; grind
  have fin : ∀ x : Rat, plusR a (ofR k x) = zerosR k → False := by
    intro x hx
    have h1 := congrArg (fun l : L => l.getD i 0) hx
    have h2 : (plusR a (ofR k x)).getD i 0 = (zerosR k).getD i 0 := h1
    rw [getD_plus (by rw [ha, ho]), getD_of _ _ hi0] at h2
    have hzj : (zerosR k).getD i 0 = 0 := by
      show (List.replicate k.length (0 : Rat)).getD i 0 = 0
      rw [List.getD_eq_getElem?_getD, List.getElem?_replicate]
      split <;> rfl
    rw [hzj] at h2
    apply hne
    grind
  rcases domain hd hi (hp _) (hp _) hz with h1 | h1
  · exact fin _ h1
  · exact fin _ h1
end Rf

set_option autoImplicit false
set_option maxHeartbeats 4000000
set_option maxRecDepth 100000
namespace Rf
theorem s3 {t t2 m1 m0 e1 e2 : Rat} (h2 : t2 = -m1*t - 3*m0) (he1 : e1 = t) (he2 : e2 = -(t2 + -t*t)/2) (h : m1*m1 - m0 = e1*(-m1) - e2) : (m1+t)*(m1+t) + m1*(m1+t) + m0 = 0 := by grind
theorem s4b {t t2 t3 m1 m0 e1 e2 e3 : Rat} (h2 : t2 = -m1*t - 4*m0) (h3 : t3 = -m1*t2 - m0*t) (he1 : e1 = t) (he2 : e2 = -(t2 + -t*t)/2) (he3 : -e3 = -(t3 + -t*t2 + (-(t2 + -t*t)/2)*t)/3)
    (h : -m1*(m1*m1 - m0) + m0*m1 = e1*(m1*m1 - m0) - e2*(-m1) + e3) : (t + 2*m1) * (((t+m1)/2)*((t+m1)/2) + m1*((t+m1)/2) + m0) = 0 := by grind
theorem s4a {t t2 t3 m2 m1 m0 e1 e2 e3 : Rat} (h3 : t3 = -m2*t2 - m1*t - 4*m0) (he1 : e1 = t) (he2 : e2 = -(t2 + -t*t)/2) (he3 : -e3 = -(t3 + -t*t2 + (-(t2 + -t*t)/2)*t)/3)
    (hA2 : m2*m2 - m1 = -e1*m2 - e2) (hA : m2*m1 - m0 = -e1*m1 + e3) : (m2+t)*(m2+t)*(m2+t) + m2*((m2+t)*(m2+t)) + m1*(m2+t) + m0 = 0 := by grind
/-- a relation of the square, one power on -/
theorem rel_on {k : List Int} (hd : Deg k) {a b c : L} (ha : a.length = k.length) (hb : b.length = k.length) (hc : c.length = k.length) {x y : Rat} (h : ∀ i, b.getD i 0 = x * c.getD i 0 + (ofR k y).getD i 0) (i : Nat) : (timesR k b a).getD i 0 = x * (timesR k c a).getD i 0 + y * a.getD i 0 := by
  have h0 : 1 ≤ k.length := by have := hd.1; omega
  have ho : ∀ x : Rat, (ofR k x).length = k.length := ofR_length h0
  have e : b = plusR (scaleR x c) (ofR k y) := by
    apply ext_getD
    · rw [plusR_length _ _ (by rw [scaleR_length, hc, ho]), scaleR_length, hb, hc]
    · intro i
      rw [getD_plus (by rw [scaleR_length, hc, ho]), getD_scale, h]
  rw [e, times_add hd (by rw [scaleR_length, hc]) (ho y) ha, times_scale hd _ hc ha, times_of hd _ ha, getD_plus (by rw [scaleR_length, times_length h0 _ ha, scaleR_length, ha]), getD_scale, getD_scale]
theorem trace_rel {k : List Int} (hd : Deg k) {a b : L} (ha : a.length = k.length) (hb : b.length = k.length) {x y : Rat} (h : ∀ i, b.getD i 0 = x * a.getD i 0 + (ofR k y).getD i 0) : traceR k b = x * traceR k a + (k.length : Rat) * y := by
  have h0 : 1 ≤ k.length := by have := hd.1; omega
  have ho : ∀ x : Rat, (ofR k x).length = k.length := ofR_length h0
  have e : b = plusR (scaleR x a) (ofR k y) := by
    apply ext_getD
    · rw [plusR_length _ _ (by rw [scaleR_length, ha, ho]), scaleR_length, hb, ha]
    · intro i
      rw [getD_plus (by rw [scaleR_length, ha, ho]), getD_scale, h]
  rw [e, trace_add hd (by rw [scaleR_length, ha]) (ho y), trace_scale hd _ ha, trace_of hd]
theorem trace_rel2 {k : List Int} (hd : Deg k) {a b c : L} (ha : a.length = k.length) (hb : b.length = k.length) (hc : c.length = k.length) {x y : Rat} (h : ∀ i, b.getD i 0 = x * c.getD i 0 + y * a.getD i 0) : traceR k b = x * traceR k c + y * traceR k a := by
  have e : b = plusR (scaleR x c) (scaleR y a) := by
    apply ext_getD
    · rw [plusR_length _ _ (by rw [scaleR_length, scaleR_length, ha, hc]), scaleR_length, hb, hc]
    · intro i
      rw [getD_plus (by rw [scaleR_length, scaleR_length, ha, hc]), getD_scale, getD_scale, h]
  rw [e, trace_add hd (by rw [scaleR_length, hc]) (by rw [scaleR_length, ha]), trace_scale hd _ hc, trace_scale hd _ ha]
/-- degree 3: no quadratic -/
theorem no_quad3 {p q r : Int} (hi : Irr [p, q, r]) {a : L} (ha : a.length = 3) (hn : NonRat a) {m1 m0 : Rat} (h : ∀ i, (timesR [p,q,r] a a).getD i 0 = -m1 * a.getD i 0 + (ofR [p,q,r] (-m0)).getD i 0) : False := by
  have hd : Deg [p, q, r] := by constructor <;> simp
  have h0 : 1 ≤ [p, q, r].length := by simp
  obtain ⟨x, y, z, rfl⟩ := len3 ha
  have ha' : [x, y, z].length = [p, q, r].length := rfl
  have l2 := times_length h0 [x, y, z] ha'
  have hA3 := rel_on hd ha' l2 ha' h
  have ht2 := trace_rel hd ha' l2 h
  have hch := ch3 p q r x y z
  have hc1 := char3 p q r x y z
  have e := powers3 p q r [x, y, z]
  simp only [one3] at e
  rw [charL3 _ _ _ _ _ rfl e] at hc1
  simp only [List.cons.injEq, and_true] at hc1
  obtain ⟨_, hc2, hc1⟩ := hc1
  obtain ⟨i, hi0, hne⟩ := hn
  -- one place of Cayley's theorem
  have hpl := congrArg (fun l : L => l.getD i 0) hch
  have hpl' : (timesR [p,q,r] (timesR [p,q,r] [x,y,z] [x,y,z]) [x,y,z]).getD i 0 = (plusR (plusR (scaleR (ee31 (R := Rat) p q r x y z) (timesR [p,q,r] [x,y,z] [x,y,z])) (scaleR (-(ee32 (R := Rat) p q r x y z)) [x,y,z])) (ofR [p,q,r] (ee33 (R := Rat) p q r x y z))).getD i 0 := hpl
  rw [getD_plus (by rw [plusR_length _ _ (by rw [scaleR_length, scaleR_length, l2]; rfl), scaleR_length, l2]; rfl), getD_plus (by rw [scaleR_length, scaleR_length, l2]; rfl), getD_scale, getD_scale, getD_of _ _ hi0, hA3, h, getD_of _ _ hi0] at hpl'
  have n3 : (([p,q,r].length : Nat) : Rat) = 3 := rfl
  rw [n3] at ht2
  generalize hT : traceR [p,q,r] [x,y,z] = t at *
  generalize traceR [p,q,r] (timesR [p,q,r] [x,y,z] [x,y,z]) = t2 at *
  generalize ee31 (R := Rat) p q r x y z = e1 at *
  generalize ee32 (R := Rat) p q r x y z = e2 at *
  generalize ee33 (R := Rat) p q r x y z = e3 at *
  have hroot : (m1+t)*(m1+t) + m1*(m1+t) + m0 = 0 := by
    apply s3 (t2 := t2) (e1 := e1) (e2 := e2)
    · grind
    · grind
    · grind
    · generalize List.getD [x, y, z] i 0 = v at *
      clear hA3 h hch
      have : v * (m1*m1 - m0 - (e1*(-m1) - e2)) = 0 := by grind
      rcases Rat.mul_eq_zero.mp this with h1 | h1
      · exact absurd h1 hne
      · grind
  exact quad_rat hd hi ha' hroot h ⟨i, hi0, hne⟩
end Rf

set_option autoImplicit false
set_option maxHeartbeats 4000000
set_option maxRecDepth 100000
namespace Rf
theorem sq4 {t t2 t3 t4 m1 m0 : Rat} (ht : t = -2*m1) (h2 : t2 = -m1*t - 4*m0) (h3 : t3 = -m1*t2 - m0*t) (h4 : t4 = -m1*t3 - m0*t2) :
   [-(t4 + -t*t3 + (-(t2 + -t*t)/2)*t2 + (-(t3 + -t*t2 + (-(t2 + -t*t)/2)*t)/3)*t)/4, -(t3 + -t*t2 + (-(t2 + -t*t)/2)*t)/3, -(t2 + -t*t)/2, -t, 1] = [m0*m0, 2*m1*m0, m1*m1 + 2*m0, 2*m1, 1] := by
  simp only [List.cons.injEq, and_true]
  refine ⟨?_, ?_, ?_, ?_⟩ <;> grind
/-- places of Cayley's theorem, degree 4 -/
theorem cay4 {p q r s : Int} {a : L} (ha : a.length = 4) : ∃ e1 e2 e3 e4 : Rat, charR [p,q,r,s] a = [e4, -e3, e2, -e1, 1] ∧ ∀ i, (timesR [p,q,r,s] (timesR [p,q,r,s] (timesR [p,q,r,s] a a) a) a).getD i 0 = e1 * (timesR [p,q,r,s] (timesR [p,q,r,s] a a) a).getD i 0 - e2 * (timesR [p,q,r,s] a a).getD i 0 + e3 * a.getD i 0 + (ofR [p,q,r,s] (-e4)).getD i 0 := by
  obtain ⟨x, y, z, w, rfl⟩ := len4 ha
  have h0 : 1 ≤ [p, q, r, s].length := by simp
  have l2 := times_length h0 [x, y, z, w] (b := [x, y, z, w]) rfl
  have l3 := times_length h0 (timesR [p,q,r,s] [x,y,z,w] [x,y,z,w]) (b := [x, y, z, w]) rfl
  refine ⟨_, _, _, _, char4 p q r s x y z w, fun i => ?_⟩
  rw [ch4]
  rw [getD_plus (by rw [plusR_length _ _ (by rw [plusR_length _ _ (by rw [scaleR_length, scaleR_length, l3, l2]), scaleR_length, scaleR_length, l3]; rfl), plusR_length _ _ (by rw [scaleR_length, scaleR_length, l3, l2]), scaleR_length, l3]; rfl), getD_plus (by rw [plusR_length _ _ (by rw [scaleR_length, scaleR_length, l3, l2]), scaleR_length, scaleR_length, l3]; rfl), getD_plus (by rw [scaleR_length, scaleR_length, l3, l2]), getD_scale, getD_scale, getD_scale]
  grind
/-- degree 4: of a quadratic's root the polynomial is its square -/
theorem quad4_sq {p q r s : Int} (hi : Irr [p, q, r, s]) {a : L} (ha : a.length = 4) (hn : NonRat a) {m1 m0 : Rat} (h : ∀ i, (timesR [p,q,r,s] a a).getD i 0 = -m1 * a.getD i 0 + (ofR [p,q,r,s] (-m0)).getD i 0) : charR [p,q,r,s] a = [m0*m0, 2*m1*m0, m1*m1 + 2*m0, 2*m1, 1] := by
  have hd : Deg [p, q, r, s] := by constructor <;> simp
  have h0 : 1 ≤ [p, q, r, s].length := by simp
  have ha' : a.length = [p, q, r, s].length := ha
  have l2 := times_length h0 a ha'
  have l3 := times_length h0 (timesR [p,q,r,s] a a) ha'
  have l4 := times_length h0 (timesR [p,q,r,s] (timesR [p,q,r,s] a a) a) ha'
  have hA3 := rel_on hd ha' l2 ha' h
  have hA4 : ∀ i, (timesR [p,q,r,s] (timesR [p,q,r,s] (timesR [p,q,r,s] a a) a) a).getD i 0 = -m1 * (timesR [p,q,r,s] (timesR [p,q,r,s] a a) a).getD i 0 + -m0 * (timesR [p,q,r,s] a a).getD i 0 := by
    intro i
    have e : timesR [p,q,r,s] (timesR [p,q,r,s] a a) a = plusR (scaleR (-m1) (timesR [p,q,r,s] a a)) (scaleR (-m0) a) := by
      apply ext_getD
      · rw [plusR_length _ _ (by rw [scaleR_length, scaleR_length, l2, ha']), scaleR_length, l3, l2]
      · intro j
        rw [getD_plus (by rw [scaleR_length, scaleR_length, l2, ha']), getD_scale, getD_scale, hA3]
    conv => lhs; rw [e]
    rw [times_add hd (by rw [scaleR_length, l2]) (by rw [scaleR_length, ha']) ha', times_scale hd _ l2 ha', times_scale hd _ ha' ha', getD_plus (by rw [scaleR_length, scaleR_length, l3, l2]), getD_scale, getD_scale]
  have ht2 := trace_rel hd ha' l2 h
  have ht3 := trace_rel2 hd ha' l3 l2 hA3
  have ht4 := trace_rel2 hd l2 l4 l3 hA4
  obtain ⟨e1, e2, e3, e4, hc1, hcay⟩ := cay4 (p := p) (q := q) (r := r) (s := s) ha
  have e := powers4 p q r s a
  have hone : timesR [p,q,r,s] (ofR [p,q,r,s] 1) a = a := by rw [times_of hd _ ha', scale_one]
  simp only [hone] at e
  have hcL := charL4 _ _ _ _ _ _ rfl e
  have n4 : (([p,q,r,s].length : Nat) : Rat) = 4 := rfl
  rw [n4] at ht2
  obtain ⟨i, hi0, hne⟩ := hn
  have hpl := hcay i
  rw [hA4, hA3, h, getD_of _ _ hi0, getD_of _ _ hi0] at hpl
  have hc3 := hcL.symm.trans hc1
  simp only [List.cons.injEq, and_true] at hc3
  obtain ⟨_, hc3, hc2, hc1'⟩ := hc3
  rw [hcL]
  have hroots : ¬ (((traceR [p,q,r,s] a + m1)/2)*((traceR [p,q,r,s] a + m1)/2) + m1*((traceR [p,q,r,s] a + m1)/2) + m0 = 0) := by
    intro hr
    exact quad_rat hd hi ha' hr h ⟨i, hi0, hne⟩
  generalize traceR [p,q,r,s] a = t at *
  generalize traceR [p,q,r,s] (timesR [p,q,r,s] a a) = t2 at *
  generalize traceR [p,q,r,s] (timesR [p,q,r,s] (timesR [p,q,r,s] a a) a) = t3 at *
  generalize traceR [p,q,r,s] (timesR [p,q,r,s] (timesR [p,q,r,s] (timesR [p,q,r,s] a a) a) a) = t4 at *
  generalize List.getD a i 0 = v at *
  clear hA3 hA4 hcay h e hone hcL hc1 l2 l3 l4 ha' ha n4 hd hi
  have hv : v * ((-m1*(m1*m1 - m0) + m0*m1) - (e1*(m1*m1 - m0) - e2*(-m1) + e3)) = 0 := by grind
  have hcoef : -m1*(m1*m1 - m0) + m0*m1 = e1*(m1*m1 - m0) - e2*(-m1) + e3 := by
    rcases Rat.mul_eq_zero.mp hv with h1 | h1
    · exact absurd h1 hne
    · grind
  have hprod := s4b (t := t) (t2 := t2) (t3 := t3) (m1 := m1) (m0 := m0) (e1 := e1) (e2 := e2) (e3 := e3) (by grind) (by grind) (by grind) (by grind) (by grind) hcoef
  rcases Rat.mul_eq_zero.mp hprod with h1 | h1
  · exact sq4 (by grind) (by grind) (by grind) (by grind)
  · exact absurd h1 hroots
/-- degree 4: no cubic, where there's no quadratic -/
theorem no_cub4 {p q r s : Int} (hi : Irr [p, q, r, s]) {a : L} (ha : a.length = 4) (hn : NonRat a) (hnq : ∀ m1 m0 : Rat, ¬ ∀ i, (timesR [p,q,r,s] a a).getD i 0 = -m1 * a.getD i 0 + (ofR [p,q,r,s] (-m0)).getD i 0) {m2 m1 m0 : Rat}
    (h : ∀ i, (timesR [p,q,r,s] (timesR [p,q,r,s] a a) a).getD i 0 = -m2 * (timesR [p,q,r,s] a a).getD i 0 + -m1 * a.getD i 0 + (ofR [p,q,r,s] (-m0)).getD i 0) : False := by
  have hd : Deg [p, q, r, s] := by constructor <;> simp
  have h0 : 1 ≤ [p, q, r, s].length := by simp
  have ha' : a.length = [p, q, r, s].length := ha
  have ho : ∀ x : Rat, (ofR [p,q,r,s] x).length = [p,q,r,s].length := ofR_length h0
  have hs : ∀ (s' : Rat) {b : L}, b.length = [p,q,r,s].length → (scaleR s' b).length = [p,q,r,s].length := fun s' b hb => by rw [scaleR_length]; exact hb
  have hp : ∀ {b c : L}, b.length = [p,q,r,s].length → c.length = [p,q,r,s].length → (plusR b c).length = [p,q,r,s].length := fun hb hc => by rw [plusR_length _ _ (by rw [hb, hc])]; exact hb
  have l2 := times_length h0 a ha'
  have l3 := times_length h0 (timesR [p,q,r,s] a a) ha'
  have eA3 : timesR [p,q,r,s] (timesR [p,q,r,s] a a) a = plusR (plusR (scaleR (-m2) (timesR [p,q,r,s] a a)) (scaleR (-m1) a)) (ofR [p,q,r,s] (-m0)) := by
    apply ext_getD
    · rw [hp (hp (hs _ l2) (hs _ ha')) (ho _), l3]
    · intro j
      rw [getD_plus (by rw [hp (hs _ l2) (hs _ ha'), ho]), getD_plus (by rw [hs _ l2, hs _ ha']), getD_scale, getD_scale, h]
  have hA4 : ∀ i, (timesR [p,q,r,s] (timesR [p,q,r,s] (timesR [p,q,r,s] a a) a) a).getD i 0 = -m2 * (timesR [p,q,r,s] (timesR [p,q,r,s] a a) a).getD i 0 + -m1 * (timesR [p,q,r,s] a a).getD i 0 + -m0 * a.getD i 0 := by
    intro i
    conv => lhs; rw [eA3]
    rw [times_add hd (hp (hs _ l2) (hs _ ha')) (ho _) ha', times_add hd (hs _ l2) (hs _ ha') ha', times_scale hd _ l2 ha', times_scale hd _ ha' ha', times_of hd _ ha', getD_plus (by rw [hp (hs _ l3) (hs _ l2), hs _ ha']), getD_plus (by rw [hs _ l3, hs _ l2]), getD_scale, getD_scale, getD_scale]
  have ht3 := congrArg (traceR [p,q,r,s]) eA3
  rw [trace_add hd (hp (hs _ l2) (hs _ ha')) (ho _), trace_add hd (hs _ l2) (hs _ ha'), trace_scale hd _ l2, trace_scale hd _ ha', trace_of hd] at ht3
  obtain ⟨e1, e2, e3, e4, hc1, hcay⟩ := cay4 (p := p) (q := q) (r := r) (s := s) ha
  have e := powers4 p q r s a
  have hone : timesR [p,q,r,s] (ofR [p,q,r,s] 1) a = a := by rw [times_of hd _ ha', scale_one]
  simp only [hone] at e
  have hcL := charL4 _ _ _ _ _ _ rfl e
  have n4 : (([p,q,r,s].length : Nat) : Rat) = 4 := rfl
  rw [n4] at ht3
  have hc3 := hcL.symm.trans hc1
  simp only [List.cons.injEq, and_true] at hc3
  obtain ⟨_, hc3, hc2, hc1'⟩ := hc3
  -- α A A + β A + γ = 0, so all of them are 0
  have hlin : ∀ i, (m2*m2 - m1 - (-e1*m2 - e2)) * (timesR [p,q,r,s] a a).getD i 0 + (m2*m1 - m0 - (-e1*m1 + e3)) * a.getD i 0 + (ofR [p,q,r,s] (m2*m0 - (-e1*m0 - e4))).getD i 0 = 0 := by
    intro i
    have hpl := hcay i
    rw [hA4, h] at hpl
    cases i with
    | zero => rw [getD_of0] at hpl ⊢; rw [getD_of0] at hpl; grind
    | succ i => rw [getD_of _ _ (by omega)] at hpl ⊢; rw [getD_of _ _ (by omega)] at hpl; grind
  have hα : m2*m2 - m1 - (-e1*m2 - e2) = 0 := by
    apply Classical.byContradiction
    intro hα
    apply hnq ((m2*m1 - m0 - (-e1*m1 + e3)) / (m2*m2 - m1 - (-e1*m2 - e2))) ((m2*m0 - (-e1*m0 - e4)) / (m2*m2 - m1 - (-e1*m2 - e2)))
    intro i
    have h1 := hlin i
    generalize m2*m2 - m1 - (-e1*m2 - e2) = α at *
    generalize m2*m1 - m0 - (-e1*m1 + e3) = β at *
    generalize m2*m0 - (-e1*m0 - e4) = γ at *
    clear hcay hA4 h
    cases i with
    | zero => rw [getD_of0] at h1 ⊢; grind
    | succ i => rw [getD_of _ _ (by omega)] at h1 ⊢; grind
  obtain ⟨i, hi0, hne⟩ := hn
  have hβ : m2*m1 - m0 - (-e1*m1 + e3) = 0 := by
    have h1 := hlin i
    rw [hα, getD_of _ _ hi0] at h1
    have h2 : (m2*m1 - m0 - (-e1*m1 + e3)) * a.getD i 0 = 0 := by grind
    rcases Rat.mul_eq_zero.mp h2 with h3 | h3
    · exact h3
    · exact absurd h3 hne
  have hroot := s4a (t := traceR [p,q,r,s] a) (t2 := traceR [p,q,r,s] (timesR [p,q,r,s] a a)) (t3 := traceR [p,q,r,s] (timesR [p,q,r,s] (timesR [p,q,r,s] a a) a)) (m2 := m2) (m1 := m1) (m0 := m0) (e1 := e1) (e2 := e2) (e3 := e3) (by grind) (by grind) (by grind) (by grind) (by grind) (by grind)
  obtain ⟨ρ, hρ⟩ : ∃ ρ, ρ = m2 + traceR [p,q,r,s] a := ⟨_, rfl⟩
  rw [← hρ] at hroot
  -- (a - ρ) (a a + (ρ + m2) a + (ρ ρ + m2 ρ + m1)) = 0
  let B : L := plusR (plusR (timesR [p,q,r,s] a a) (scaleR (ρ + m2) a)) (ofR [p,q,r,s] (ρ*ρ + m2*ρ + m1))
  have lB : B.length = [p,q,r,s].length := hp (hp l2 (hs _ ha')) (ho _)
  have hz : timesR [p,q,r,s] B (plusR a (ofR [p,q,r,s] (-ρ))) = zerosR [p,q,r,s] := by
    rw [comm hd lB (hp ha' (ho _)), times_add hd ha' (ho _) lB, times_of hd _ lB, comm hd ha' lB]
    show plusR (timesR _ (plusR (plusR (timesR [p,q,r,s] a a) (scaleR (ρ + m2) a)) (ofR [p,q,r,s] (ρ*ρ + m2*ρ + m1))) a) (scaleR (-ρ) (plusR (plusR (timesR [p,q,r,s] a a) (scaleR (ρ + m2) a)) (ofR [p,q,r,s] (ρ*ρ + m2*ρ + m1)))) = _
    rw [times_add hd (hp l2 (hs _ ha')) (ho _) ha', times_add hd l2 (hs _ ha') ha', times_scale hd _ ha' ha', times_of hd _ ha']
    apply ext_getD
    · rw [hp (hp (hp l3 (hs _ l2)) (hs _ ha')) (hs _ lB)]; simp
    · intro j
      have hzj : (zerosR [p,q,r,s]).getD j 0 = 0 := by
        show (List.replicate [p,q,r,s].length (0 : Rat)).getD j 0 = 0
        rw [List.getD_eq_getElem?_getD, List.getElem?_replicate]
        split <;> rfl
      rw [hzj, getD_plus (by rw [hp (hp l3 (hs _ l2)) (hs _ ha'), hs _ lB]), getD_plus (by rw [hp l3 (hs _ l2), hs _ ha']), getD_plus (by rw [l3, hs _ l2]), getD_scale, getD_scale, getD_scale, getD_plus (by rw [hp l2 (hs _ ha'), ho]), getD_plus (by rw [l2, hs _ ha']), getD_scale, h]
      cases j with
      | zero => rw [getD_of0, getD_of0]; grind
      | succ j => rw [getD_of _ _ (by omega), getD_of _ _ (by omega)]; grind
  rcases domain hd hi lB (hp ha' (ho _)) hz with h1 | h1
  · apply hnq (ρ + m2) (ρ*ρ + m2*ρ + m1)
    intro j
    have h2 := congrArg (fun l : L => l.getD j 0) h1
    have h3 : B.getD j 0 = (zerosR [p,q,r,s]).getD j 0 := h2
    have hzj : (zerosR [p,q,r,s]).getD j 0 = 0 := by
      show (List.replicate [p,q,r,s].length (0 : Rat)).getD j 0 = 0
      rw [List.getD_eq_getElem?_getD, List.getElem?_replicate]
      split <;> rfl
    rw [hzj] at h3
    have h4 : (plusR (plusR (timesR [p,q,r,s] a a) (scaleR (ρ + m2) a)) (ofR [p,q,r,s] (ρ*ρ + m2*ρ + m1))).getD j 0 = 0 := h3
    rw [getD_plus (by rw [hp l2 (hs _ ha'), ho]), getD_plus (by rw [l2, hs _ ha']), getD_scale] at h4
    cases j with
    | zero => rw [getD_of0] at h4 ⊢; grind
    | succ j => rw [getD_of _ _ (by omega)] at h4 ⊢; grind
  · have h2 := congrArg (fun l : L => l.getD i 0) h1
    have h3 : (plusR a (ofR [p,q,r,s] (-ρ))).getD i 0 = (zerosR [p,q,r,s]).getD i 0 := h2
    have hzj : (zerosR [p,q,r,s]).getD i 0 = 0 := by
      show (List.replicate [p,q,r,s].length (0 : Rat)).getD i 0 = 0
      rw [List.getD_eq_getElem?_getD, List.getElem?_replicate]
      split <;> rfl
    rw [hzj, getD_plus (by rw [ha', ho]), getD_of _ _ hi0] at h3
    apply hne
    grind
end Rf

set_option autoImplicit false
set_option maxHeartbeats 4000000
set_option maxRecDepth 100000
namespace Rf
open Nf01 (F Num)
/-! The program's least polynomial. -/
def wholeLeast (k A : List Int) : List Int :=
  if A.tail.all (fun z => decide (z = 0)) = true then [-(A.headD 0), 1]
  else if (wpolyI k A).length = 5 ∧ wpolyI k A = [(((wpolyI k A).getD 2 0 - (wpolyI k A).getD 3 0 / 2 * ((wpolyI k A).getD 3 0 / 2)) / 2) * (((wpolyI k A).getD 2 0 - (wpolyI k A).getD 3 0 / 2 * ((wpolyI k A).getD 3 0 / 2)) / 2), 2 * ((wpolyI k A).getD 3 0 / 2) * (((wpolyI k A).getD 2 0 - (wpolyI k A).getD 3 0 / 2 * ((wpolyI k A).getD 3 0 / 2)) / 2), (wpolyI k A).getD 3 0 / 2 * ((wpolyI k A).getD 3 0 / 2) + 2 * (((wpolyI k A).getD 2 0 - (wpolyI k A).getD 3 0 / 2 * ((wpolyI k A).getD 3 0 / 2)) / 2), 2 * ((wpolyI k A).getD 3 0 / 2), 1]
    then [((wpolyI k A).getD 2 0 - (wpolyI k A).getD 3 0 / 2 * ((wpolyI k A).getD 3 0 / 2)) / 2, (wpolyI k A).getD 3 0 / 2, 1]
  else wpolyI k A
theorem wpoly_cast {k A : List Int} (hd : Deg k) (hA : A.length = k.length) : castL (wpolyI k A) = charR k (castL A) := by
  rw [char_flcs hd (by rw [castL_length, hA])]
  exact (fl_cast hd hA k.length (Nat.le_refl _)).1
theorem sumTo_cut {m d : Nat} {f : Nat → Rat} (hd : d ≤ m) (h : ∀ i, d ≤ i → f i = 0) : sumTo m f = sumTo d f := by
  induction m with
  | zero => have : d = 0 := by omega
            rw [this]
  | succ m ih =>
    by_cases e : d = m + 1
    · rw [e]
    · show sumTo m f + f m = _
      rw [ih (by omega), h m (by omega)]
      grind
theorem pw1 {k : List Int} (hd : Deg k) {a : L} (ha : a.length = k.length) : pw k a 1 = a := by
  show timesR k (ofR k 1) a = a
  rw [times_of hd _ ha, scale_one]
theorem pw2 {k : List Int} (hd : Deg k) {a : L} (ha : a.length = k.length) : pw k a 2 = timesR k a a := by
  show timesR k (pw k a 1) a = _
  rw [pw1 hd ha]
theorem pw3 {k : List Int} (hd : Deg k) {a : L} (ha : a.length = k.length) : pw k a 3 = timesR k (timesR k a a) a := by
  show timesR k (pw k a 2) a = _
  rw [pw2 hd ha]
theorem pw4 {k : List Int} (hd : Deg k) {a : L} (ha : a.length = k.length) : pw k a 4 = timesR k (timesR k (timesR k a a) a) a := by
  show timesR k (pw k a 3) a = _
  rw [pw3 hd ha]
/-- a fraction -/
theorem least_rat {k : List Int} (hd : Deg k) {a : L} {x : Rat} (hx : a = ofR k x) : Least k a [-x, 1] 1 := by
  have h0 : 1 ≤ k.length := by have := hd.1; omega
  have ha : a.length = k.length := by rw [hx]; exact ofR_length h0 x
  refine ⟨rfl, h0, rfl, fun q hq => ?_, fun c hc h => ?_⟩
  · rw [sumTo_cut (d := 2) (by omega) (fun i hi => by
      have : ([-x, 1] : L).getD i 0 = 0 := getD_beyond (by simp; omega)
      rw [this]; grind)]
    show (0 + -x * (pw k a 0).getD q 0) + 1 * (pw k a 1).getD q 0 = 0
    rw [pw1 hd ha, hx]
    show (0 + -x * (ofR k 1).getD q 0) + 1 * (ofR k x).getD q 0 = 0
    cases q with
    | zero => rw [getD_of0, getD_of0]; grind
    | succ q => rw [getD_of _ _ (by omega), getD_of _ _ (by omega)]; grind
  · have h1 := h 0 (by omega)
    rw [sumTo_cut (d := 1) (by omega) (fun i hi => by rw [hc i hi]; grind)] at h1
    have h2 : (0 : Rat) + c 0 * (ofR k 1).getD 0 0 = 0 := h1
    rw [getD_of0] at h2
    intro i
    cases i with
    | zero => grind
    | succ i => exact hc _ (by omega)
/-- c0 + c1 a = 0 alone where both are 0 -/
theorem two_zero {k : List Int} (hd : Deg k) {a : L} (ha : a.length = k.length) (hn : NonRat a) {c : Nat → Rat} (hc : ∀ i, 2 ≤ i → c i = 0) (h : ∀ q, q < k.length → sumTo (k.length + 1) (fun i => c i * (pw k a i).getD q 0) = 0) : ∀ i, c i = 0 := by
  have h' : ∀ q, q < k.length → c 0 * (ofR k 1).getD q 0 + c 1 * a.getD q 0 = 0 := by
    intro q hq
    have h1 := h q hq
    rw [sumTo_cut (d := 2) (by have := hd.1; omega) (fun i hi => by rw [hc i hi]; grind)] at h1
    have h2 : (0 + c 0 * (pw k a 0).getD q 0) + c 1 * (pw k a 1).getD q 0 = 0 := h1
    rw [pw1 hd ha] at h2
    have h3 : (pw k a 0) = ofR k 1 := rfl
    rw [h3] at h2
    grind
  obtain ⟨i, hi0, hne⟩ := hn
  have hil : i < k.length := by
    apply Nat.lt_of_not_le
    intro hh
    exact hne (getD_beyond (by omega))
  have h1 := h' i hil
  rw [getD_of _ _ hi0] at h1
  have hc1 : c 1 = 0 := by
    have : c 1 * a.getD i 0 = 0 := by grind
    rcases Rat.mul_eq_zero.mp this with h2 | h2
    · exact h2
    · exact absurd h2 hne
  have h0 := h' 0 (by have := hd.1; omega)
  rw [hc1, getD_of0] at h0
  intro j
  match j with
  | 0 => grind
  | 1 => exact hc1
  | j + 2 => exact hc _ (by omega)
/-- three of them, where there's no quadratic -/
theorem three_zero {k : List Int} (hd : Deg k) {a : L} (ha : a.length = k.length) (hn : NonRat a) (hnq : ∀ m1 m0 : Rat, ¬ ∀ i, (timesR k a a).getD i 0 = -m1 * a.getD i 0 + (ofR k (-m0)).getD i 0) {c : Nat → Rat} (hc : ∀ i, 3 ≤ i → c i = 0) (h : ∀ q, q < k.length → sumTo (k.length + 1) (fun i => c i * (pw k a i).getD q 0) = 0) : ∀ i, c i = 0 := by
  have h0 : 1 ≤ k.length := by have := hd.1; omega
  have hc2 : c 2 = 0 := by
    apply Classical.byContradiction
    intro hne
    apply hnq (c 1 / c 2) (c 0 / c 2)
    intro q
    by_cases hq : q < k.length
    · have h1 := h q hq
      rw [sumTo_cut (d := 3) (by have := hd.1; omega) (fun i hi => by rw [hc i hi]; grind)] at h1
      have h2 : ((0 + c 0 * (pw k a 0).getD q 0) + c 1 * (pw k a 1).getD q 0) + c 2 * (pw k a 2).getD q 0 = 0 := h1
      rw [pw1 hd ha, pw2 hd ha] at h2
      have h3 : (pw k a 0) = ofR k 1 := rfl
      rw [h3] at h2
      cases q with
      | zero => rw [getD_of0] at h2 ⊢; grind
      | succ q => rw [getD_of _ _ (by omega)] at h2 ⊢; grind
    · rw [getD_beyond (by rw [times_length h0 _ ha]; omega), getD_beyond (x := a) (by omega), getD_beyond (by rw [ofR_length h0]; omega)]
      grind
  exact two_zero hd ha hn (fun i hi => by
    by_cases e : i = 2
    · rw [e]; exact hc2
    · exact hc i (by omega)) h
/-- in terms of the last coefficient's side: the number's own polynomial -/
theorem root_char {k : List Int} (hd : Deg k) {a : L} (ha : a.length = k.length) : (charR k a).length = k.length + 1 ∧ (charR k a).getD k.length 0 = 1 ∧ ∀ q, sumTo (k.length + 1) (fun i => (charR k a).getD i 0 * (pw k a i).getD q 0) = 0 := by
  have h0 : 1 ≤ k.length := by have := hd.1; omega
  rcases hd.cases with ⟨p, q, rfl⟩ | ⟨p, q, r, rfl⟩ | ⟨p, q, r, s, rfl⟩
  · have e2 := pw2 hd ha
    have e1 := pw1 hd ha
    obtain ⟨x, y, rfl⟩ := len2 ha
    refine ⟨by rw [char2]; rfl, by rw [char2]; rfl, fun i => ?_⟩
    rw [char2]
    show ((0 + ee22 (R := Rat) p q x y * (ofR [p,q] 1).getD i 0) + -(ee21 (R := Rat) p q x y) * (pw [p,q] [x,y] 1).getD i 0) + 1 * (pw [p,q] [x,y] 2).getD i 0 = 0
    rw [e1, e2, ch2, getD_plus (by rw [scaleR_length]; rfl), getD_scale]
    cases i with
    | zero => rw [getD_of0, getD_of0]; grind
    | succ i => rw [getD_of _ _ (by omega), getD_of _ _ (by omega)]; grind
  · have e3 := pw3 hd ha
    have e2 := pw2 hd ha
    have e1 := pw1 hd ha
    obtain ⟨x, y, z, rfl⟩ := len3 ha
    have l2 := times_length h0 [x, y, z] (b := [x, y, z]) rfl
    refine ⟨by rw [char3]; rfl, by rw [char3]; rfl, fun i => ?_⟩
    rw [char3]
    show (((0 + -(ee33 (R := Rat) p q r x y z) * (ofR [p,q,r] 1).getD i 0) + ee32 (R := Rat) p q r x y z * (pw [p,q,r] [x,y,z] 1).getD i 0) + -(ee31 (R := Rat) p q r x y z) * (pw [p,q,r] [x,y,z] 2).getD i 0) + 1 * (pw [p,q,r] [x,y,z] 3).getD i 0 = 0
    rw [e1, e2, e3, ch3, getD_plus (by rw [plusR_length _ _ (by rw [scaleR_length, scaleR_length, l2]; rfl), scaleR_length, l2]; rfl), getD_plus (by rw [scaleR_length, scaleR_length, l2]; rfl), getD_scale, getD_scale]
    cases i with
    | zero => rw [getD_of0, getD_of0]; grind
    | succ i => rw [getD_of _ _ (by omega), getD_of _ _ (by omega)]; grind
  · obtain ⟨e1, e2, e3, e4, hc, hcay⟩ := cay4 (p := p) (q := q) (r := r) (s := s) ha
    refine ⟨by rw [hc]; rfl, by rw [hc]; rfl, fun i => ?_⟩
    rw [hc]
    show ((((0 + e4 * (ofR [p,q,r,s] 1).getD i 0) + -e3 * (pw [p,q,r,s] a 1).getD i 0) + e2 * (pw [p,q,r,s] a 2).getD i 0) + -e1 * (pw [p,q,r,s] a 3).getD i 0) + 1 * (pw [p,q,r,s] a 4).getD i 0 = 0
    rw [pw1 hd ha, pw2 hd ha, pw3 hd ha, pw4 hd ha, hcay]
    cases i with
    | zero => rw [getD_of0, getD_of0]; grind
    | succ i => rw [getD_of _ _ (by omega), getD_of _ _ (by omega)]; grind
end Rf

set_option autoImplicit false
set_option maxHeartbeats 4000000
set_option maxRecDepth 100000
namespace Rf
open Nf01 (F Num)
theorem tail_rat {k A : List Int} (hd : Deg k) (hA : A.length = k.length) (h : A.tail.all (fun z => decide (z = 0)) = true) : castL A = ofR k (A.headD 0 : Int) := by
  have h0 : 1 ≤ k.length := by have := hd.1; omega
  cases A with
  | nil => simp at hA; omega
  | cons x A =>
    have hz : A = List.replicate (k.length - 1) 0 := by
      apply List.eq_replicate_iff.mpr
      refine ⟨by simp at hA; omega, fun b hb => ?_⟩
      have := List.all_eq_true.mp h b hb
      simpa using this
    unfold castL ofR
    rw [List.map_cons, hz, List.map_replicate]
    rfl
theorem tail_non {k A : List Int} (h : ¬ A.tail.all (fun z => decide (z = 0)) = true) : NonRat (castL A) := by
  have h2 : ∃ z ∈ A.tail, z ≠ 0 := by
    apply Classical.byContradiction
    intro hn
    apply h
    apply List.all_eq_true.mpr
    intro z hz
    apply decide_eq_true
    exact Classical.byContradiction fun hne => hn ⟨z, hz, hne⟩
  obtain ⟨z, hz, hne⟩ := h2
  obtain ⟨i, hi, hie⟩ := List.mem_iff_getElem.mp hz
  refine ⟨i + 1, by omega, ?_⟩
  have hl : i + 1 < A.length := by simp at hi; omega
  rw [List.getD_eq_getElem?_getD]
  unfold castL
  rw [List.getElem?_map, List.getElem?_eq_getElem hl]
  have e : A[i + 1] = z := by rw [← hie, List.getElem_tail]
  rw [e]
  show ((z : Int) : Rat) ≠ 0
  intro h3
  have h4 : (z : Rat) = ((0 : Int) : Rat) := h3
  exact hne (by exact_mod_cast h4)
theorem wpoly_length {k A : List Int} (hd : Deg k) (hA : A.length = k.length) : (wpolyI k A).length = k.length + 1 := by
  rw [← castL_length, wpoly_cast hd hA]
  exact (root_char hd (by rw [castL_length, hA])).1
theorem sq_root {P m : Rat} {z : Int} (h : m * m = (z : Rat)) : ∃ w : Int, m = (w : Rat) := by
  apply root2 (p := -z) (q := 0)
  push_cast
  grind
theorem sq_root' {m : Rat} {z : Int} (h : m * m = (z : Rat)) : ∃ w : Int, m = (w : Rat) := sq_root (P := 0) h
theorem least_int {k A : List Int} (hd : Deg k) (hi : Irr k) (hA : A.length = k.length) : ∃ d, Least k (castL A) (castL (wholeLeast k A)) d := by
  have h0 : 1 ≤ k.length := by have := hd.1; omega
  have hA' : (castL A).length = k.length := by rw [castL_length, hA]
  by_cases hz : A.tail.all (fun z => decide (z = 0)) = true
  · have e : wholeLeast k A = [-(A.headD 0), 1] := if_pos hz
    rw [e]
    refine ⟨1, ?_⟩
    have := least_rat hd (tail_rat hd hA hz)
    have e2 : castL [-(A.headD 0), 1] = [-((A.headD 0 : Int) : Rat), 1] := by
      show [((-(A.headD 0) : Int) : Rat), ((1 : Int) : Rat)] = _
      push_cast
      rfl
    rw [e2]
    exact this
  · have hn : NonRat (castL A) := tail_non (k := k) hz
    have hpc := wpoly_cast hd hA
    have hpl := wpoly_length hd hA
    obtain ⟨r1, r2, r3⟩ := root_char hd hA'
    have e1 : wholeLeast k A = if (wpolyI k A).length = 5 ∧ wpolyI k A = [(((wpolyI k A).getD 2 0 - (wpolyI k A).getD 3 0 / 2 * ((wpolyI k A).getD 3 0 / 2)) / 2) * (((wpolyI k A).getD 2 0 - (wpolyI k A).getD 3 0 / 2 * ((wpolyI k A).getD 3 0 / 2)) / 2), 2 * ((wpolyI k A).getD 3 0 / 2) * (((wpolyI k A).getD 2 0 - (wpolyI k A).getD 3 0 / 2 * ((wpolyI k A).getD 3 0 / 2)) / 2), (wpolyI k A).getD 3 0 / 2 * ((wpolyI k A).getD 3 0 / 2) + 2 * (((wpolyI k A).getD 2 0 - (wpolyI k A).getD 3 0 / 2 * ((wpolyI k A).getD 3 0 / 2)) / 2), 2 * ((wpolyI k A).getD 3 0 / 2), 1]
      then [((wpolyI k A).getD 2 0 - (wpolyI k A).getD 3 0 / 2 * ((wpolyI k A).getD 3 0 / 2)) / 2, (wpolyI k A).getD 3 0 / 2, 1] else wpolyI k A := if_neg hz
    rcases hd.cases with ⟨p, q, rfl⟩ | ⟨p, q, r, rfl⟩ | ⟨p, q, r, s, rfl⟩
    · have e : wholeLeast [p, q] A = wpolyI [p, q] A := by rw [e1, if_neg (fun h => by rw [hpl] at h; exact absurd h.1 (by simp))]
      rw [e, hpc]
      exact ⟨2, r1, Nat.le_refl 2, r2, fun q _ => r3 q, fun c hc h => two_zero hd hA' hn hc h⟩
    · have e : wholeLeast [p, q, r] A = wpolyI [p, q, r] A := by rw [e1, if_neg (fun h => by rw [hpl] at h; exact absurd h.1 (by simp))]
      rw [e, hpc]
      exact ⟨3, r1, Nat.le_refl 3, r2, fun q _ => r3 q, fun c hc h => three_zero hd hA' hn (fun m1 m0 hm => no_quad3 hi hA' hn hm) hc h⟩
    · by_cases ht : wpolyI [p, q, r, s] A = [(((wpolyI [p, q, r, s] A).getD 2 0 - (wpolyI [p, q, r, s] A).getD 3 0 / 2 * ((wpolyI [p, q, r, s] A).getD 3 0 / 2)) / 2) * (((wpolyI [p, q, r, s] A).getD 2 0 - (wpolyI [p, q, r, s] A).getD 3 0 / 2 * ((wpolyI [p, q, r, s] A).getD 3 0 / 2)) / 2), 2 * ((wpolyI [p, q, r, s] A).getD 3 0 / 2) * (((wpolyI [p, q, r, s] A).getD 2 0 - (wpolyI [p, q, r, s] A).getD 3 0 / 2 * ((wpolyI [p, q, r, s] A).getD 3 0 / 2)) / 2), (wpolyI [p, q, r, s] A).getD 3 0 / 2 * ((wpolyI [p, q, r, s] A).getD 3 0 / 2) + 2 * (((wpolyI [p, q, r, s] A).getD 2 0 - (wpolyI [p, q, r, s] A).getD 3 0 / 2 * ((wpolyI [p, q, r, s] A).getD 3 0 / 2)) / 2), 2 * ((wpolyI [p, q, r, s] A).getD 3 0 / 2), 1]
      · rw [e1, if_pos ⟨hpl, ht⟩]
        refine ⟨2, ?_⟩
        generalize (wpolyI [p, q, r, s] A).getD 3 0 / 2 = α at *
        generalize ((wpolyI [p, q, r, s] A).getD 2 0 - α * α) / 2 = β at *
        rw [ht] at hpc
        obtain ⟨c1, c2, c3, c4, hc, hcay⟩ := cay4 (p := p) (q := q) (r := r) (s := s) hA'
        rw [hc] at hpc
        have hpc' : [((β * β : Int) : Rat), ((2 * α * β : Int) : Rat), ((α * α + 2 * β : Int) : Rat), ((2 * α : Int) : Rat), ((1 : Int) : Rat)] = [c4, -c3, c2, -c1, 1] := hpc
        simp only [List.cons.injEq, and_true] at hpc'
        obtain ⟨h4, h3, h2, h1, _⟩ := hpc'
        push_cast at h1 h2 h3 h4
        have ho : ∀ x : Rat, (ofR [p,q,r,s] x).length = [p,q,r,s].length := ofR_length h0
        have hs : ∀ (s' : Rat) {b : L}, b.length = [p,q,r,s].length → (scaleR s' b).length = [p,q,r,s].length := fun s' b hb => by rw [scaleR_length]; exact hb
        have hp : ∀ {b c : L}, b.length = [p,q,r,s].length → c.length = [p,q,r,s].length → (plusR b c).length = [p,q,r,s].length := fun hb hc => by rw [plusR_length _ _ (by rw [hb, hc])]; exact hb
        have l2 := times_length h0 (castL A) hA'
        have l3 := times_length h0 (timesR [p,q,r,s] (castL A) (castL A)) hA'
        have l4 := times_length h0 (timesR [p,q,r,s] (timesR [p,q,r,s] (castL A) (castL A)) (castL A)) hA'
        let B : L := plusR (plusR (timesR [p,q,r,s] (castL A) (castL A)) (scaleR (α : Rat) (castL A))) (ofR [p,q,r,s] (β : Rat))
        have lB : B.length = [p,q,r,s].length := hp (hp l2 (hs _ hA')) (ho _)
        have hBA : timesR [p,q,r,s] B (castL A) = plusR (plusR (timesR [p,q,r,s] (timesR [p,q,r,s] (castL A) (castL A)) (castL A)) (scaleR (α : Rat) (timesR [p,q,r,s] (castL A) (castL A)))) (scaleR (β : Rat) (castL A)) := by
          show timesR _ (plusR (plusR (timesR [p,q,r,s] (castL A) (castL A)) (scaleR (α : Rat) (castL A))) (ofR [p,q,r,s] (β : Rat))) _ = _
          rw [times_add hd (hp l2 (hs _ hA')) (ho _) hA', times_add hd l2 (hs _ hA') hA', times_scale hd _ hA' hA', times_of hd _ hA']
        have lBA : (timesR [p,q,r,s] B (castL A)).length = [p,q,r,s].length := times_length h0 _ hA'
        have hBAA : timesR [p,q,r,s] (timesR [p,q,r,s] B (castL A)) (castL A) = plusR (plusR (timesR [p,q,r,s] (timesR [p,q,r,s] (timesR [p,q,r,s] (castL A) (castL A)) (castL A)) (castL A)) (scaleR (α : Rat) (timesR [p,q,r,s] (timesR [p,q,r,s] (castL A) (castL A)) (castL A)))) (scaleR (β : Rat) (timesR [p,q,r,s] (castL A) (castL A))) := by
          rw [hBA, times_add hd (hp l3 (hs _ l2)) (hs _ hA') hA', times_add hd l3 (hs _ l2) hA', times_scale hd _ l2 hA', times_scale hd _ hA' hA']
        have hBB : timesR [p,q,r,s] B B = zerosR [p,q,r,s] := by
          have e2 : timesR [p,q,r,s] B B = plusR (plusR (timesR [p,q,r,s] (timesR [p,q,r,s] B (castL A)) (castL A)) (scaleR (α : Rat) (timesR [p,q,r,s] B (castL A)))) (scaleR (β : Rat) B) := by
            have e3 : timesR [p,q,r,s] B B = timesR [p,q,r,s] (plusR (plusR (timesR [p,q,r,s] (castL A) (castL A)) (scaleR (α : Rat) (castL A))) (ofR [p,q,r,s] (β : Rat))) B := rfl
            rw [e3, times_add hd (hp l2 (hs _ hA')) (ho _) lB, times_add hd l2 (hs _ hA') lB, times_scale hd _ hA' lB, times_of hd _ lB, comm hd l2 lB, ← assoc hd lB hA' hA', comm hd hA' lB]
          rw [e2, hBAA, hBA]
          have lX : (plusR (plusR (timesR [p,q,r,s] (timesR [p,q,r,s] (timesR [p,q,r,s] (castL A) (castL A)) (castL A)) (castL A)) (scaleR (α : Rat) (timesR [p,q,r,s] (timesR [p,q,r,s] (castL A) (castL A)) (castL A)))) (scaleR (β : Rat) (timesR [p,q,r,s] (castL A) (castL A)))).length = [p,q,r,s].length := hp (hp l4 (hs _ l3)) (hs _ l2)
          have lY : (plusR (plusR (timesR [p,q,r,s] (timesR [p,q,r,s] (castL A) (castL A)) (castL A)) (scaleR (α : Rat) (timesR [p,q,r,s] (castL A) (castL A)))) (scaleR (β : Rat) (castL A))).length = [p,q,r,s].length := hp (hp l3 (hs _ l2)) (hs _ hA')
          apply ext_getD
          · rw [hp (hp lX (hs _ lY)) (hs _ lB)]; simp
          · intro j
            have hzj : (zerosR [p,q,r,s]).getD j 0 = 0 := by
              show (List.replicate [p,q,r,s].length (0 : Rat)).getD j 0 = 0
              rw [List.getD_eq_getElem?_getD, List.getElem?_replicate]
              split <;> rfl
            have hB : B.getD j 0 = (timesR [p,q,r,s] (castL A) (castL A)).getD j 0 + (α : Rat) * (castL A).getD j 0 + (ofR [p,q,r,s] (β : Rat)).getD j 0 := by
              show (plusR (plusR (timesR [p,q,r,s] (castL A) (castL A)) (scaleR (α : Rat) (castL A))) (ofR [p,q,r,s] (β : Rat))).getD j 0 = _
              rw [getD_plus (by rw [hp l2 (hs _ hA'), ho]), getD_plus (by rw [l2, hs _ hA']), getD_scale]
            rw [hzj, getD_plus (by rw [hp lX (hs _ lY), hs _ lB]), getD_plus (by rw [lX, hs _ lY]), getD_scale, getD_scale, hB,
              getD_plus (by rw [hp l4 (hs _ l3), hs _ l2]), getD_plus (by rw [l4, hs _ l3]), getD_plus (by rw [hp l3 (hs _ l2), hs _ hA']), getD_plus (by rw [l3, hs _ l2]), getD_scale, getD_scale, getD_scale, getD_scale, hcay]
            cases j with
            | zero => rw [getD_of0, getD_of0]; grind
            | succ j => rw [getD_of _ _ (by omega), getD_of _ _ (by omega)]; grind
        have hB0 : B = zerosR [p,q,r,s] := by
          rcases domain hd hi lB lB hBB with h | h <;> exact h
        refine ⟨rfl, by simp, rfl, fun j _ => ?_, fun c hc h => two_zero hd hA' hn hc h⟩
        rw [sumTo_cut (d := 3) (by simp) (fun i hi => by
          have : (castL [β, α, 1]).getD i 0 = 0 := getD_beyond (by simp; omega)
          rw [this]; grind)]
        show ((0 + (β : Rat) * (ofR [p,q,r,s] 1).getD j 0) + (α : Rat) * (pw [p,q,r,s] (castL A) 1).getD j 0) + ((1 : Int) : Rat) * (pw [p,q,r,s] (castL A) 2).getD j 0 = 0
        rw [pw1 hd hA', pw2 hd hA']
        have h5 := congrArg (fun l : L => l.getD j 0) hB0
        have h6 : (plusR (plusR (timesR [p,q,r,s] (castL A) (castL A)) (scaleR (α : Rat) (castL A))) (ofR [p,q,r,s] (β : Rat))).getD j 0 = (zerosR [p,q,r,s]).getD j 0 := h5
        have hzj : (zerosR [p,q,r,s]).getD j 0 = 0 := by
          show (List.replicate [p,q,r,s].length (0 : Rat)).getD j 0 = 0
          rw [List.getD_eq_getElem?_getD, List.getElem?_replicate]
          split <;> rfl
        rw [hzj, getD_plus (by rw [hp l2 (hs _ hA'), ho]), getD_plus (by rw [l2, hs _ hA']), getD_scale] at h6
        have h7 : ((1 : Int) : Rat) = 1 := rfl
        rw [h7]
        cases j with
        | zero => rw [getD_of0] at h6 ⊢; grind
        | succ j => rw [getD_of _ _ (by omega)] at h6 ⊢; grind
      · rw [e1, if_neg (fun h => ht h.2), hpc]
        have hnq : ∀ m1 m0 : Rat, ¬ ∀ i, (timesR [p,q,r,s] (castL A) (castL A)).getD i 0 = -m1 * (castL A).getD i 0 + (ofR [p,q,r,s] (-m0)).getD i 0 := by
          intro m1 m0 hm
          apply ht
          have hsq := quad4_sq hi hA' hn hm
          rw [← hpc] at hsq
          obtain ⟨P0, P1, P2, P3, P4, hP⟩ : ∃ P0 P1 P2 P3 P4, wpolyI [p, q, r, s] A = [P0, P1, P2, P3, P4] := by
            match h : wpolyI [p, q, r, s] A, hpl with
            | [a, b, c, d, e], _ => exact ⟨a, b, c, d, e, rfl⟩
          rw [hP] at hsq ⊢
          have hsq' : [(P0 : Rat), (P1 : Rat), (P2 : Rat), (P3 : Rat), (P4 : Rat)] = [m0*m0, 2*m1*m0, m1*m1 + 2*m0, 2*m1, 1] := hsq
          simp only [List.cons.injEq, and_true] at hsq'
          obtain ⟨g0, g1, g2, g3, g4⟩ := hsq'
          obtain ⟨w0, hw0⟩ := sq_root' (m := m0) (z := P0) g0.symm
          obtain ⟨w1, hw1⟩ := sq_root' (m := m1) (z := P2 - 2 * w0) (by push_cast; rw [g2, ← hw0]; grind)
          subst hw0
          subst hw1
          have f0 : P0 = w0 * w0 := by
            have : (P0 : Rat) = ((w0 * w0 : Int) : Rat) := by push_cast; exact g0
            exact_mod_cast this
          have f1 : P1 = 2 * w1 * w0 := by
            have : (P1 : Rat) = ((2 * w1 * w0 : Int) : Rat) := by push_cast; exact g1
            exact_mod_cast this
          have f2 : P2 = w1 * w1 + 2 * w0 := by
            have : (P2 : Rat) = ((w1 * w1 + 2 * w0 : Int) : Rat) := by push_cast; exact g2
            exact_mod_cast this
          have f3 : P3 = 2 * w1 := by
            have : (P3 : Rat) = ((2 * w1 : Int) : Rat) := by push_cast; exact g3
            exact_mod_cast this
          have f4 : P4 = 1 := by
            have : (P4 : Rat) = ((1 : Int) : Rat) := g4
            exact_mod_cast this
          have hα : [P0, P1, P2, P3, P4].getD 3 0 / 2 = w1 := by
            show P3 / 2 = w1
            omega
          have hβ : ([P0, P1, P2, P3, P4].getD 2 0 - w1 * w1) / 2 = w0 := by
            show (P2 - w1 * w1) / 2 = w0
            omega
          rw [hα, hβ, f0, f1, f2, f3, f4]
        refine ⟨4, r1, Nat.le_refl 4, r2, fun q _ => r3 q, fun c hc h => ?_⟩
        have hc3 : c 3 = 0 := by
          apply Classical.byContradiction
          intro hne
          apply no_cub4 hi hA' hn hnq (m2 := c 2 / c 3) (m1 := c 1 / c 3) (m0 := c 0 / c 3)
          intro j
          by_cases hj : j < 4
          · have h1 := h j hj
            rw [sumTo_cut (d := 4) (by simp) (fun i hi => by rw [hc i hi]; grind)] at h1
            have h2 : (((0 + c 0 * (ofR [p,q,r,s] 1).getD j 0) + c 1 * (pw [p,q,r,s] (castL A) 1).getD j 0) + c 2 * (pw [p,q,r,s] (castL A) 2).getD j 0) + c 3 * (pw [p,q,r,s] (castL A) 3).getD j 0 = 0 := h1
            rw [pw1 hd hA', pw2 hd hA', pw3 hd hA'] at h2
            cases j with
            | zero => rw [getD_of0] at h2 ⊢; grind
            | succ j => rw [getD_of _ _ (by omega)] at h2 ⊢; grind
          · have l3 := times_length h0 (timesR [p,q,r,s] (castL A) (castL A)) hA'
            have l2 := times_length h0 (castL A) hA'
            rw [getD_beyond (by rw [l3]; simp; omega), getD_beyond (by rw [l2]; simp; omega), getD_beyond (x := castL A) (by rw [hA']; simp; omega), getD_of _ _ (by omega)]
            grind
        exact three_zero hd hA' hn hnq (fun i hi => by
          by_cases e : i = 3
          · rw [e]; exact hc3
          · exact hc i (by omega)) h
end Rf

set_option autoImplicit false
set_option maxHeartbeats 4000000
set_option maxRecDepth 100000
namespace Rf
open Nf01 (F Num)
theorem wrd_length (b : Int) (M : List Int) : (wrd b M).length = M.length := by
  induction M with
  | nil => rfl
  | cons c M ih => show (wrd b M).length + 1 = M.length + 1; rw [ih]
theorem wrd_getD (b : Int) : ∀ (M : List Int) (i : Nat), i < M.length → (wrd b M).getD i 0 = (castL M).getD i 0 / ((b : Rat) ^ (M.length - 1 - i))
  | [], i, h => by simp at h
  | c :: M, 0, _ => by
    show (c : Rat) / ((b ^ M.length : Int) : Rat) = (c : Rat) / (b : Rat) ^ (M.length + 1 - 1 - 0)
    push_cast
    rfl
  | c :: M, i + 1, h => by
    have ih := wrd_getD b M i (by simp at h; omega)
    show (wrd b M).getD i 0 = (castL M).getD i 0 / (b : Rat) ^ (M.length + 1 - 1 - (i + 1))
    rw [ih]
    congr 2
    omega
theorem pw_scale {k : List Int} (hd : Deg k) {a : L} (s : Rat) (ha : a.length = k.length) : ∀ i, pw k (scaleR s a) i = scaleR (s ^ i) (pw k a i) := by
  have h0 : 1 ≤ k.length := by have := hd.1; omega
  intro i
  induction i with
  | zero =>
    show ofR k 1 = scaleR (s ^ 0) (ofR k 1)
    rw [Rat.pow_zero, scale_one]
  | succ i ih =>
    show timesR k (pw k (scaleR s a) i) (scaleR s a) = scaleR (s ^ (i + 1)) (timesR k (pw k a i) a)
    rw [ih, times_scales hd _ _ (pw_length h0 ha i) ha, Rat.pow_succ]
theorem pow_ne {b : Rat} (h : b ≠ 0) (n : Nat) : b ^ n ≠ 0 := by
  induction n with
  | zero => rw [Rat.pow_zero]; decide
  | succ n ih =>
    rw [Rat.pow_succ]
    intro h2
    rcases Rat.mul_eq_zero.mp h2 with h3 | h3
    · exact ih h3
    · exact h h3
theorem least_scale {k : List Int} (hd : Deg k) {a : L} (ha : a.length = k.length) {M : List Int} {d : Nat} (hm : Least k a (castL M) d) {b : Int} (hb : (b : Rat) ≠ 0) : Least k (scaleR (1 / (b : Rat)) a) (wrd b M) d := by
  have hml := hm.len
  rw [castL_length] at hml
  have hsc : ∀ (i : Nat) (x : Rat), (1 / (b : Rat)) ^ i * x = x / (b : Rat) ^ i := by
    intro i x
    have h1 := pow_ne hb i
    have h2 : (1 / (b : Rat)) ^ i * (b : Rat) ^ i = 1 := by
      have : ∀ n : Nat, (1 / (b : Rat)) ^ n * (b : Rat) ^ n = 1 := by
        intro n
        induction n with
        | zero => rw [Rat.pow_zero, Rat.pow_zero]; grind
        | succ n ih => rw [Rat.pow_succ, Rat.pow_succ]; grind
      exact this i
    grind
  refine ⟨by rw [wrd_length, hml], hm.le, ?_, fun q hq => ?_, fun c hc h => ?_⟩
  · have h1 := hm.one
    rw [wrd_getD b M d (by omega), h1]
    have : M.length - 1 - d = 0 := by omega
    rw [this, Rat.pow_zero]
    grind
  · have h1 := hm.root q hq
    have h2 := sumTo_add (k.length + 1) (fun _ => 0) (fun i => (castL M).getD i 0 * (pw k a i).getD q 0) (1 / (b : Rat) ^ d)
    rw [sumTo_zero (fun _ _ => rfl), h1] at h2
    refine Eq.trans (sumTo_congr fun i _ => ?_) (h2.trans ?_)
    · rw [pw_scale hd _ ha, getD_scale]
      by_cases hi : i < M.length
      · rw [wrd_getD b M i hi, hsc]
        have h3 := pow_ne hb i
        have h4 := pow_ne hb (M.length - 1 - i)
        have h5 : (b : Rat) ^ d = (b : Rat) ^ (M.length - 1 - i) * (b : Rat) ^ i := by
          rw [← pow_add']; congr 1; omega
        rw [h5]
        grind
      · rw [getD_beyond (x := wrd b M) (by rw [wrd_length]; omega), getD_beyond (x := castL M) (by rw [castL_length]; omega)]
        grind
    · grind
  · have h1 := hm.min (fun i => c i * (1 / (b : Rat)) ^ i) (fun i hi => by show c i * _ = 0; rw [hc i hi]; grind) (fun q hq => by
      refine Eq.trans (sumTo_congr fun i _ => ?_) (h q hq)
      rw [pw_scale hd _ ha, getD_scale]
      grind)
    intro i
    have h2 := h1 i
    have h3 : c i * (1 / (b : Rat)) ^ i = 0 := h2
    have h4 := pow_ne (b := 1 / (b : Rat)) (by grind) i
    rcases Rat.mul_eq_zero.mp h3 with h5 | h5
    · exact h5
    · exact absurd h5 h4
/-- **the least polynomial, as the program tells it** -/
theorem least_places {k : List Int} (hd : Deg k) (hi : Irr k) {v : L} (hv : v.length = k.length) : Nf01.least k (v.map psi) = (wrd (lcmOf v : Int) (wholeLeast k (abvOf v))).map psi := by
  obtain ⟨d, hm⟩ := least_int hd hi (A := abvOf v) (by rw [abv_length, hv])
  have hb : (((lcmOf v : Nat) : Int) : Rat) ≠ 0 := lcmOf_cast_ne v
  have h := least_scale hd (by rw [castL_length, abv_length, hv]) hm hb
  have e : scaleR (1 / (((lcmOf v : Nat) : Int) : Rat)) (castL (abvOf v)) = v := (of_abv v).symm
  rw [e] at h
  exact least_is hd hv h
end Rf

set_option autoImplicit true
set_option Elab.async false
set_option linter.all false
set_option maxRecDepth 100000
set_option maxHeartbeats 2000000
/-! Rules of my own over the hand layer. -/
namespace Rp
open PySem PySem.Spec PyProof.Rows L2
/-! ### xs[lo::2] -/
def ev2 {α : Type} : List α → List α
  | [] => []
  | [a] => [a]
  | a :: _ :: r => a :: ev2 r
theorem ev2_map {α β : Type} (f : α → β) : ∀ l : List α, ev2 (l.map f) = (ev2 l).map f
  | [] => rfl
  | [_] => rfl
  | a :: b :: r => by
    show f a :: ev2 (r.map f) = f a :: (ev2 r).map f
    rw [ev2_map f r]
theorem ev2_length {α : Type} : ∀ l : List α, (ev2 l).length ≤ l.length
  | [] => Nat.le_refl 0
  | [_] => Nat.le_refl 1
  | a :: b :: r => by
    have := ev2_length r
    show (ev2 r).length + 1 ≤ r.length + 2
    omega
theorem ev2_vals : ∀ {xs : List V} {us : List Value}, Vals xs us → Vals (ev2 xs) (ev2 us)
  | [], _, .nil => .nil
  | [_], _, .cons r .nil => .cons r .nil
  | _ :: _ :: _, _, .cons r (.cons _ t) => .cons r (ev2_vals t)
theorem ev2_pick {α : Type} : ∀ (l : List α), (List.range ((l.length + 1) / 2)).filterMap (fun k => l[2 * k]?) = ev2 l
  | [] => by simp [ev2]
  | [a] => by
    have e : ([a].length + 1) / 2 = 1 := by simp
    rw [e]
    rfl
  | a :: b :: r => by
    have ih := ev2_pick r
    have e : ((a :: b :: r).length + 1) / 2 = (r.length + 1) / 2 + 1 := by simp; omega
    rw [e, List.range_succ_eq_map, List.filterMap_cons]
    show a :: ((List.range ((r.length + 1) / 2)).map Nat.succ).filterMap (fun k => (a :: b :: r)[2 * k]?) = a :: ev2 r
    rw [← ih, List.filterMap_map]
    congr 1
theorem pick_two (its : List Value) (lo : Nat) : slicePick its.toArray (some (lo : Int)) none (some 2) = (ev2 (its.drop lo)).toArray := by
  have e : sliceBounds (some (lo : Int)) none (some 2) its.length = (((min lo its.length : Nat) : Int), (its.length : Int), 2) := by
    unfold sliceBounds
    simp only [Option.getD_some]
    rw [if_neg (show ¬ ((lo : Int) < 0) by omega)]
    simp
    omega
  unfold slicePick
  rw [List.size_toArray, e]
  show ((sliceRange ((min lo its.length : Nat) : Int) (its.length : Int) 2).filterMap (its.toArray[·]?)).toArray = _
  congr 1
  rw [← ev2_pick, List.length_drop]
  have e2 : sliceRange ((min lo its.length : Nat) : Int) (its.length : Int) 2 = (List.range ((its.length - lo + 1) / 2)).map fun k => lo + 2 * k := by
    unfold sliceRange
    by_cases h : lo < its.length
    · have h1 : min lo its.length = lo := by omega
      rw [h1]
      simp only [show (2 : Int) > 0 from by decide, if_true]
      rw [if_pos (by omega)]
      have h2 : (((its.length : Int) - (lo : Int) + 2 - 1) / 2).toNat = (its.length - lo + 1) / 2 := by omega
      rw [h2]
      apply List.map_congr_left
      intro k _
      omega
    · have h1 : min lo its.length = its.length := by omega
      rw [h1]
      simp only [show (2 : Int) > 0 from by decide, if_true]
      rw [if_neg (by omega)]
      have h2 : (its.length - lo + 1) / 2 = 0 := by omega
      rw [h2]
      rfl
  rw [e2, List.filterMap_map]
  congr 1
  funext k
  show its.toArray[lo + 2 * k]? = (its.drop lo)[2 * k]?
  rw [List.getElem?_drop]
  simp
/-- xs[lo::2] of a list: a new list -/
def tSl2 (K : PySem.W.Frag) (lo : Nat) (te : TE) : TE := fun σ H Q => te σ H fun x H1 => ∃ a xs, x = .ref a ∧ SqL K H1 a xs ∧ ∀ p, H1 p = none → Q (.ref p) (upd H1 p (.lst (ev2 (xs.drop lo))))
theorem pe_sl2 {X : Cx} {e : Expr} {te : TE} {lo k k2 : Nat} {p1 p2 p3 pos : Pos} (he : PE X e te) : PE X (.Subscript e (.Slice (some (.Constant (.int (lo : Int)) k p1)) none (some (.Constant (.int 2) k2 p2)) p3) pos) (tSl2 X.K lo te) := by
  refine ⟨fun pins s σ H Q I h => ?_⟩
  refine Subscript_ (thn (he.run pins s σ H _ I h) fun v s1 ⟨x, H1, I1, r1, q1⟩ => ?_)
  obtain ⟨a, xs, ex, hx, q⟩ := q1
  subst ex
  cases r1
  have hlo : PO X (some (.Constant (.int (lo : Int)) k p1)) (tPart (tC (.int (lo : Int)))) := po_some pe_int
  have hst : PO X (some (.Constant (.int 2) k2 p2)) (tPart (tC (.int 2))) := po_some pe_int
  refine wpAny_Slice (thn (hlo.run pins s1 σ H1 (fun o H2 => o = some (lo : Int) ∧ H2 = H1) I1 ⟨_, rfl, rfl, rfl⟩) fun vl s2 ⟨l, H2, I2, pl, el, e2⟩ => ?_)
  subst el e2
  refine thn (po_none.run pins s2 σ H2 (fun o H3 => o = none ∧ H3 = H2) I2 ⟨rfl, rfl⟩) fun vu s3 ⟨u, H3, I3, pu, eu, e3⟩ => ?_
  subst eu e3
  refine thn (hst.run pins s3 σ H3 (fun o H4 => o = some 2 ∧ H4 = H3) I3 ⟨_, rfl, rfl, rfl⟩) fun vs s4 ⟨o, H4, I4, ps, eo, e4⟩ => ?_
  subst eo e4
  have I5 : Inv X pins σ H4 { s4 with heap := s4.heap.push { cls := .type "slice", data := .fields #[vl, vu, vs] } } := I4.kept (t' := s4.toks) fun b ob q => Heap.get?_push_of_some _ q
  obtain ⟨its, r, ht, hz⟩ := I5.list hx
  have hlen := r.length
  show wpAny (model X.prog X.w) X.A (subscriptTail e (.Slice (some (.Constant (.int (lo : Int)) k p1)) none (some (.Constant (.int 2) k2 p2)) p3) (.ref a) (.ref s4.heap.objs.size)) (EP X pins σ Q) X.xe { s4 with heap := s4.heap.push { cls := .type "slice", data := .fields #[vl, vu, vs] } }
  refine tail_any (ops := [.ref a, .ref s4.heap.objs.size]) ht.isList.typeIs (PySem.slot_list_getitem.lookup) ?_ (by with_unfolding_all rfl)
  refine wpAny_getItem_list_slice ht.isList (Heap.IsSliceOf.new _ vl vu vs) pl pu ps (by decide) ?_ (by rw [List.size_toArray]; omega)
  rw [pick_two]
  have hl : (ev2 (xs.drop lo)).length ≤ sizeLine := Nat.le_trans (ev2_length _) (by rw [List.length_drop]; omega)
  refine ⟨.ref _, _, I5.laid (t' := s4.toks) (o := .lst (ev2 (xs.drop lo))) (fun b ob q => Heap.get?_push_of_some _ q) (Nat.le_refl _) ?_, rfl, q _ (I5.hok.fresh (Nat.le_refl _))⟩
  exact ⟨hl, _, 0, ev2_vals (r.drop lo), Heap.get?_push_size _ rfl⟩
/-! ### // by whatever number that isn't 0 -/
def CDivB (_ j : Int) : Prop := j ≠ 0 ∧ j.natAbs.log2 < 9000
theorem op_fdivB {X : Cx} : OpR X (binaryOp .FloorDiv) (rI CDivB fun i j => .int (i.fdiv j)) := opI fun i j _ _ _ _ _ hc q => floordiv_int hc.1 q (.inl (PyProof.noPylong_of_log2 hc.2))
theorem divB_of {i j : Int} {b : Nat} (h : j ≠ 0) (hb : j.natAbs < 2 ^ b) (h0 : 0 < b) (h9 : b ≤ 9000) : CDivB i j := ⟨h, Nat.lt_of_lt_of_le (PySem.Flt.log2_lt_of h0 hb) h9⟩
end Rp

set_option Elab.async false
set_option linter.all false
set_option maxRecDepth 100000
set_option maxHeartbeats 2000000
namespace Rp
open PySem PySem.Spec PyProof.Rows L2
/-! ### any(a list of whole numbers) -/
theorem ints_at : ∀ {its : List Value} {ns : List Int}, IntsAre its ns → ∀ {i : Nat} {v : Value}, its[i]? = some v → ∃ (z : Int) (t : Tok), v = .int z t ∧ ns[i]? = some z
  | _, _, .nil, i, v, h => by simp at h
  | _, _, .cons z t r, 0, v, h => ⟨z, t, (Option.some.inj h).symm, rfl⟩
  | _, _, .cons z t r, i + 1, v, h => ints_at r (i := i) h
theorem truth_nums {prog : Program} {w : World} {A : Around} {ns : List Int} {its : List Value} (e : IntsAre its ns) :
    TruthOf prog w A (fun i v => its.toArray[i]? = some v) (fun i => ns.getD i 0 != 0) := fun i v s Q E hv hq => by
  have hv' : its[i]? = some v := by simpa using hv
  obtain ⟨z, t, rfl, hz⟩ := ints_at e hv'
  have hg : ns.getD i 0 = z := by rw [List.getD_eq_getElem?_getD, hz] <;> rfl
  have hq' : Q (ns.getD i 0 != 0) s := hq
  rw [hg] at hq'
  exact PyProof.Rows.truthy_int hq'
theorem any_rangeI : ∀ ns : List Int, (List.range ns.length).any (fun i => ns.getD i 0 != 0) = ns.any fun z => z != 0
  | [] => rfl
  | b :: bs => by
    rw [List.length_cons, List.range_succ_eq_map, List.any_cons, List.any_map, List.any_cons, ← any_rangeI bs]
    all_goals rfl
theorem ints_len : ∀ {its : List Value} {ns : List Int}, IntsAre its ns → its.length = ns.length
  | _, _, .nil => rfl
  | _, _, .cons z t r => by rw [List.length_cons, List.length_cons, ints_len r]
def rAnyI (K : PySem.W.Frag) : List V → Hp → VK → Prop := fun vs H Q => ∃ (a : Addr) (ns : List Int), vs = [V.ref a] ∧ SqL K H a (ns.map V.int) ∧ Q (.bl (ns.any fun z => z != 0)) H
theorem cr_anyI {X : Cx} (hc : X.calm = true) : CallR X (.builtin "any") (rAnyI X.K) := by
  intro pins s σ H vs us Q I r h
  obtain ⟨a, ns, rfl, hs, q⟩ := h
  obtain ⟨its, rv, hl, _⟩ := I.list hs
  rw [Vals.ref1 r]
  have hb := Vals.ints rv
  refine call_any_walk (iter_any hl.isList fun s₂ e2 st hne => ?_)
  subst e2
  refine ⟨_, _, _, _, _, _, _, rfl, Walks.list (A := X.A.in1) (I.ok.hd hc) _ a hne its.toArray, st, truth_nums hb, fun h' tk hk => ?_⟩
  refine ⟨.bl _, H, I.kept fun b o eo => hk b o (fun hmem => ?_) (Heap.get?_push_of_some _ eo), ?_, q⟩
  · rcases List.mem_cons.mp hmem with e1 | hmem
    · exact absurd (e1 ▸ Heap.lt_size eo) (Nat.lt_irrefl _)
    · cases hmem
  · show Value.bool _ = Value.bool _
    rw [← any_rangeI, List.size_toArray, ints_len hb]
/-! ### a dict of the module with whole numbers for keys -/
structure IDict (K : PySem.W.Frag) (d : Addr) (es : Array DictEntry) (n : Nat) : Prop where
  at_ : K.lookup d = some ⟨.type "dict", none, .dict es n, #[]⟩
  keys : ∀ e ∈ es.toList, ∃ (k : Int) (t : Tok), e.key = .int k t ∧ e.hash = hashInt k
  low : (d == sysModules) = false
theorem IDict.map {K : PySem.W.Frag} {d : Addr} {es : Array DictEntry} {n : Nat} (D : IDict K d es n) {prog : Program} {w : World} {h : Heap} (X : K.In h) : h.MapOf (intKind prog w) d (fun k => findBy Value.isInt es k) :=
  ⟨_, es, n, X _ _ D.at_, ⟨rfl, rfl, rfl⟩, rfl, fun e he => by
    obtain ⟨k, t, e1, e2⟩ := D.keys e (Array.mem_toList_iff.mpr he)
    exact ⟨k, by rw [e1]; simp [intKind, Value.isInt], e2⟩, fun _ => rfl⟩
section
variable {X : Cx} {d : Addr} {es : Array DictEntry} {n : Nat}
theorem op_in_id (D : IDict X.K d es n) : OpR X (compareOp .In) (fun x y H Q => ∃ z : Int, x = .int z ∧ y = .ref d ∧ Q (.bl (findBy Value.isInt es z).isSome) H) := by
  intro pins s σ H x y v u Q I rx ry h
  obtain ⟨z, rfl, rfl, q⟩ := h
  obtain ⟨t, rfl⟩ := rx
  cases ry
  exact wpAny_in_of (knd := intKind X.prog X.w) (k := z) (by simp [intKind, Value.isInt]) D.low (D.map I.kIn) ⟨.bl _, H, I.tok _, rfl, q⟩
def rIxI (d : Addr) (es : Array DictEntry) : R2 := fun x y H Q => ∃ (z : Int) (u0 : Value) (v0 : V), x = .ref d ∧ y = .int z ∧ findBy Value.isInt es z = some u0 ∧ RelV v0 u0 ∧ Q v0 H
theorem ix_id (D : IDict X.K d es n) : IxR X (rIxI d es) := by
  intro value slice pins s σ H x y v u Q I rx ry h hs
  obtain ⟨z, u0, v0, rfl, rfl, e, r, q⟩ := h
  cases rx
  obtain ⟨t, rfl⟩ := ry
  have hm := D.map (prog := X.prog) (w := X.w) I.kIn
  exact tail_any hm.typeIs slot_dict_getitem.lookup (wpAny_getItem_of (knd := intKind X.prog X.w) (k := z) (by simp [intKind, Value.isInt]) hm e ⟨v0, H, I.tok _, r, q⟩) hs
end
/-! ### a def that a subscript gives, called -/
/-- a def at f keeps a promise, and may be called -/
def Cal (P : Program) (w : World) (K : PySem.W.Frag) (mg : Str → Option Value) (base : Heap) (k : Nat) (f : Addr) (ps : List Str) (sp : Sp) : Prop :=
  ∃ fd : FuncData, FnOk P w K mg base CX0 k f fd ps sp ∧ PySem.W.keepIn K (.ref f) = true ∧ Binds K fd ps []
def tCallS (S : Addr → Option Sp) (tf : TE) (t : TA) : TE := fun σ H Q => tf σ H fun x H1 => ∃ f sp, x = .ref f ∧ S f = some sp ∧ t σ H1 fun vs H2 => sp vs H2 Q E0
theorem arm_eval_Call_Sub (d i : Expr) (p : Pos) (args : List Expr) (keywords : List Keyword) (pos : Pos) (env : Env) : eval (.Call (.Subscript d i p) args keywords pos) env = (do
    callWith pos (← eval (.Subscript d i p) env) [] (backTo pos (starEach args env)) (backToKw pos (keywordEach keywords env))) := rfl
theorem pe_callSub {X : Cx} {k : Nat} {d i e : Expr} {es : List Expr} {p pos : Pos} {tf : TE} {t : TA} {S : Addr → Option Sp} (A : ∀ f sp, S f = some sp → ∃ ps, Cal X.prog X.w X.K X.mg X.base k f ps sp) (hr : Room k X.A) (hf : PE X (.Subscript d i p) tf) (ha : PA X (e :: es) t)
    (hx : Passes CX0 X E0 := by exact pass0)
    (he : starEach (e :: es) X.env = (false, eval e X.env) :: starEach es X.env := by rfl) (hpl : (backTo pos (starEach es X.env)).any (·.1) = false := by rfl) : PE X (.Call (.Subscript d i p) (e :: es) [] pos) (tCallS S tf t) := by
  refine ⟨fun pins s σ H Q I h => ?_⟩
  rw [arm_eval_Call_Sub]
  refine wpAny_bind (thn (hf.run pins s σ H _ I h) fun u s1 ⟨v, H1, I1, r1, q1⟩ => ?_)
  obtain ⟨f, sp, ev, hS, q1⟩ := q1
  subst ev
  obtain rfl : u = Value.ref f := r1
  obtain ⟨ps, fd, F, hk, hb⟩ := A f sp hS
  refine PySem.W.callWith_K (h₀ := X.base) I.ok.mod.kin hk (thn (ha.run pos pins s1 σ _ _ I1 q1) fun us s2 ⟨vs, H2, I2, r, q⟩ => ⟨I2.kIn, ?_⟩) he hpl
  exact run_fn F hr hb .nil hx I2 r (by rw [List.append_nil]; exact q)
end Rp

set_option Elab.async false
set_option linter.all false
set_option maxRecDepth 100000
set_option maxHeartbeats 2000000
namespace Rp
open PySem PySem.Spec PyProof.Rows L2
/-! ### the text, what is built in -/
def topS (i : Nat) : Stmt := PySem.Challenge.pw_rootfield_s01_answers.main.body.getD i (.Pass ⟨0, 0, 0, 0⟩)
structure Bt (mg : Str → Option Value) : Prop where
  len : mg "len" = none
  abs : mg "abs" = none
  sum : mg "sum" = none
  all : mg "all" = none
  any : mg "any" = none
  max : mg "max" = none
  zip : mg "zip" = none
  range : mg "range" = none
  enumerate : mg "enumerate" = none
  reversed : mg "reversed" = none
/-! ### heaps -/
/-- a tracked list of whole numbers -/
abbrev LI (H : Hp) (p : Addr) (xs : List Int) : Prop := H p = some (.lst (xs.map V.int))
theorem LI.seq {K : PySem.W.Frag} {H : Hp} {p : Addr} {xs : List Int} (h : LI H p xs) : SqL K H p (xs.map V.int) := .inl (.inl h)
theorem same_new {H : Hp} {p : Addr} {o : HO} (h : H p = none) : Same H (upd H p o) := fun b x e => by
  rw [upd_ne (ne_of_none e h)]
  exact e
/-- a store to what is new since H -/
theorem same_store {H H1 : Hp} {p : Addr} {o : HO} (hn : H p = none) (s : Same H H1) : Same H (upd H1 p o) := fun b x e => by
  rw [upd_ne (ne_of_none e hn)]
  exact s b x e
/-- a comprehension, whatever is walked -/
theorem lc_gen {J : It} {n : Nat} {G : Hp → Prop} {Y : Nat → Hp → V → Hp → Prop} (w : Walk J n G Y) {g : TG} {tt : TT} {te : TE} {vs : List Nat} {σ : L2.St} {H1 : Hp} {D : Addr} {Qd : Hp → Prop} (hD : H1 D = none) (hn : n < sizeLine) (ys : Nat → V) (keep : Nat → Bool)
    (hG : ∀ H, Same H1 H → G H)
    (hs : ∀ i x H H', i < n → Same H1 H → Y i H x H' → ∀ (R : Hp → Prop) (RY : V → Hp → Prop), (keep i = true → ∀ H4, Same H H4 → RY (ys i) H4) → (keep i = false → ∀ H4, Same H H4 → R H4) →
      g x (wipe σ vs) H' fun σ2 H2 => wipe σ2 vs = wipe σ vs ∧ tt σ2 H2 fun b H3 => if b = true then te σ2 H3 RY else R H3)
    (hd : ∀ H, Same H1 H → H D = some (.lst (((List.range n).filter keep).map ys)) → Qd H) :
    ∃ W : Nat → Nat → Hp → Prop, (∃ m, W 0 m (upd H1 D (.lst []))) ∧ ∀ i m H, W i m H →
      (J.stop i H ∧ Qd H) ∨ (J.go i H ∧ ∃ Nx : Hp → Prop, (∀ H', Nx H' → ∃ m', m' < m ∧ W (i + 1) m' H') ∧ ∀ x H', J.yld i H x H' → g x (wipe σ vs) H' fun σ2 H2 => wipe σ2 vs = wipe σ vs ∧ tt σ2 H2 fun b H3 =>
        if b = true then te σ2 H3 fun y H4 => ∃ acc, H4 D = some (.lst acc) ∧ acc.length < sizeLine ∧ Nx (upd H4 D (.lst (acc ++ [y]))) else Nx H3) := by
  refine lc_it w (fun i H => Same H1 H ∧ H D = some (.lst (((List.range i).filter keep).map ys))) ⟨same_new hD, upd_same⟩ (fun i H _ p => hG H p.1) (fun i x H H' hi p y => ?_) (fun H p => hd H p.1 p.2)
  refine hs i x H H' hi p.1 y _ _ (fun hk H4 s4 => ?_) (fun hk H4 s4 => ?_)
  · refine ⟨_, s4 _ _ p.2, ?_, same_store hD (p.1.trans s4), ?_⟩
    · rw [List.length_map]
      have := List.length_filter_le keep (List.range i)
      rw [List.length_range] at this
      omega
    · rw [upd_same, List.range_succ, List.filter_append, List.map_append]
      have : [i].filter keep = [i] := by simp [hk]
      rw [this]
      rfl
  · refine ⟨p.1.trans s4, ?_⟩
    rw [List.range_succ, List.filter_append]
    have : [i].filter keep = [] := by simp [hk]
    rw [this, List.append_nil]
    exact s4 _ _ p.2
theorem filter_all (n : Nat) : (List.range n).filter (fun _ => true) = List.range n := List.filter_eq_self.mpr fun _ _ => rfl
theorem range_map_get {α β : Type} (f : α → β) (d : α) (l : List α) : (List.range l.length).map (fun i => f (l.getD i d)) = l.map f := by
  apply List.ext_getElem
  · simp
  · intro i h1 h2
    have hi : i < l.length := by simpa using h1
    simp [List.getD_eq_getElem?_getD, hi]
section
variable {P : Program} {w : World} {K : PySem.W.Frag} {mg : Str → Option Value} {base : Heap}
abbrev s_greatest_divisor : Stmt := topS 1
abbrev N_greatest_divisor : List Str := ["one", "other"]
theorem sc_greatest_divisor : FnScope N_greatest_divisor ["one", "other"] (defScope s_greatest_divisor) := ⟨rfl, rfl, rfl, by decide +kernel, rfl, by decide +kernel, by decide +kernel⟩
def spGcd : Sp := fun vs H Q _ => ∃ a b : Int, vs = [.int a, .int b] ∧ Q (.int (Int.gcd a b : Int)) H
theorem gcd_step (a b : Int) : Int.gcd b (a.fmod b) = Int.gcd a b := by
  have h : a.fmod b = a - b * a.fdiv b := by
    have := Int.mul_fdiv_add_fmod a b
    omega
  rw [h, Int.gcd_comm]
  exact Int.gcd_sub_mul_left_left b a (a.fdiv b)
theorem fmod_lt (a : Int) {b : Int} (h : b ≠ 0) : (a.fmod b).natAbs < b.natAbs := by
  rw [Int.fmod_eq_emod]
  have h1 := Int.emod_nonneg a h
  have h2 := Int.emod_lt a h
  split <;> omega
theorem ok_greatest_divisor {f : Addr} {fd : FuncData} {k : Nat} (F : Fun K "greatest_divisor" "greatest_divisor" s_greatest_divisor f fd) (B : Bt mg) : FnOk P w K mg base CX0 (k + 1) f fd ["one", "other"] spGcd := by
  refine F.ok sc_greatest_divisor (fun vs H Q E h => ?_) (fun cdv A outer s H vs Q E hr h => ?_)
  · obtain ⟨a, b, rfl, _⟩ := h
    rfl
  · obtain ⟨a, b, rfl, q⟩ := h
    refine ⟨_, (pss_cons (ps_while PassesOwn.never (pt_cmpR op_ne (pv 1) pe_int (nomark _)) (pss_one (ps_par (i := 0) (j := 1) rfl sc_greatest_divisor.nd rfl rfl (by decide) rfl rfl (pa_cons (pv 1) (pa_cons (pe_op op_modN (pv 0) (pv 1)) pa_nil)) (by rfl))))
        (pss_one (ps_ret (pe_callB call_abs (by rfl) B.abs (by decide +kernel) (pa_cons (pv 0) pa_nil))))), ?_⟩
    refine while_by (fun σ H' => ∃ x y : Int, σ = [some (.int x), some (.int y)] ∧ H' = H ∧ Int.gcd x y = Int.gcd a b) (fun σ _ => match σ with | [_, some (.int y)] => y.natAbs | _ => 0) ⟨a, b, rfl, rfl, rfl⟩ ?_ ?_
    · rintro σ H' ⟨x, y, rfl, rfl, hg⟩
      refine ⟨.int y, rfl, rfl, _, rfl, ?_⟩
      by_cases hy : y = 0
      · subst hy
        have e : (!decide (V.int 0 = V.int 0)) = false := by simp
        rw [e]
        refine iteF ⟨.int x, rfl, x, rfl, ?_⟩
        have e2 : (if x < 0 then -x else x) = (Int.gcd a b : Int) := by
          rw [← hg, Int.gcd_zero_right]
          split <;> omega
        rw [e2]
        exact q
      · have e : (!decide (V.int y = V.int 0)) = true := by
          have : ¬ V.int y = V.int 0 := fun z => hy (V.int.inj z)
          simp [this]
        rw [e]
        refine iteT ⟨.int y, rfl, .int x, rfl, .int y, rfl, x, y, rfl, rfl, hy, _, _, rfl, ?_⟩
        refine ⟨⟨y, x.fmod y, rfl, rfl, ?_⟩, ?_⟩
        · rw [gcd_step]; exact hg
        · exact fmod_lt x hy
    · intro σ H' Q1 Q2 hQ ⟨v, hv, h1, k1, hk, h2⟩
      exact ⟨v, hv, h1, k1, hk, hQ _ _ h2⟩
end
end Rp

set_option Elab.async false
set_option linter.all false
set_option maxRecDepth 100000
set_option maxHeartbeats 2000000
namespace Rp
open PySem PySem.Spec PyProof.Rows L2
theorem low_is (a b : Int) (hb : b ≠ 0) : [a.fdiv (if b < 0 then -(Int.gcd a b : Int) else (Int.gcd a b : Int)), b.fdiv (if b < 0 then -(Int.gcd a b : Int) else (Int.gcd a b : Int))] = Rf.frac ((a : Rat) / (b : Rat)) := by
  have hg : (0 : Int) < (Int.gcd a b : Int) := by
    have := Int.gcd_pos_of_ne_zero_right a hb
    omega
  obtain ⟨x, hx⟩ := Int.gcd_dvd_left (a := a) (b := b)
  obtain ⟨y, hy⟩ := Int.gcd_dvd_right (a := a) (b := b)
  have e1 := Rat.num_divInt a b
  have e2 := Rat.den_divInt a b
  rw [Int.gcd_comm] at e1 e2
  rw [Rat.divInt_eq_div] at e1 e2
  unfold Rf.frac
  rw [e1, e2, if_neg hb]
  generalize hG : Int.gcd a b = G at *
  by_cases h : b < 0
  · rw [if_pos h]
    have h1 : a.fdiv (-(G : Int)) = b.sign * a / (G : Int) := by
      rw [Int.sign_eq_neg_one_of_neg h]
      conv => lhs; rw [hx]
      conv => rhs; rw [hx]
      have e3 : -1 * ((G : Int) * x) = (G : Int) * (-x) := by rw [Int.mul_neg]; omega
      rw [e3, Int.mul_ediv_cancel_left _ (by omega)]
      have e4 : (G : Int) * x = -(G : Int) * (-x) := by rw [Int.neg_mul_neg]
      rw [e4, Int.mul_fdiv_cancel_left _ (by omega)]
    have h2 : b.fdiv (-(G : Int)) = ((b.natAbs / G : Nat) : Int) := by
      have e4 : (G : Int) * y = -(G : Int) * (-y) := by rw [Int.neg_mul_neg]
      conv => lhs; rw [hy, e4]
      rw [Int.mul_fdiv_cancel_left _ (by omega)]
      have hy0 : y < 0 := by
        apply Int.not_le.mp
        intro h0
        have := Int.mul_nonneg (Int.le_of_lt hg) h0
        omega
      have e5 : b.natAbs = G * y.natAbs := by rw [hy, Int.natAbs_mul]; rfl
      rw [e5, Nat.mul_div_cancel_left _ (by omega)]
      omega
    rw [h1, h2]
  · rw [if_neg h]
    have h1 : a.fdiv (G : Int) = b.sign * a / (G : Int) := by
      rw [Int.sign_eq_one_of_pos (by omega), Int.one_mul, Int.fdiv_eq_ediv_of_nonneg _ (by omega)]
    have h2 : b.fdiv (G : Int) = ((b.natAbs / G : Nat) : Int) := by
      rw [Int.fdiv_eq_ediv_of_nonneg _ (by omega)]
      have : b = (b.natAbs : Int) := by omega
      conv => lhs; rw [this]
      rfl
    rw [h1, h2]
section
variable {P : Program} {w : World} {K : PySem.W.Frag} {mg : Str → Option Value} {base : Heap}
/-- a def by its name -/
def CalN (P : Program) (w : World) (K : PySem.W.Frag) (mg : Str → Option Value) (base : Heap) (k : Nat) (x : Str) (ps : List Str) (sp : Sp) : Prop :=
  ∃ f : Addr, mg x = some (.ref f) ∧ Cal P w K mg base k f ps sp
abbrev s_in_lowest_terms : Stmt := topS 2
abbrev N_in_lowest_terms : List Str := ["above", "below", "divisor"]
theorem sc_in_lowest_terms : FnScope N_in_lowest_terms ["above", "below"] (defScope s_in_lowest_terms) := ⟨rfl, rfl, rfl, by decide +kernel, rfl, by decide +kernel, by decide +kernel⟩
def spLow : Sp := fun vs H Q _ => ∃ a b : Int, vs = [.int a, .int b] ∧ b ≠ 0 ∧ b.natAbs < 2 ^ 8990 ∧ ∀ H' p, Same H H' → LI H' p (Rf.frac ((a : Rat) / (b : Rat))) → Q (.ref p) H'
theorem ok_in_lowest_terms {f : Addr} {fd : FuncData} (F : Fun K "in_lowest_terms" "in_lowest_terms" s_in_lowest_terms f fd) (C : CalN P w K mg base 1 "greatest_divisor" ["one", "other"] spGcd) : FnOk P w K mg base CX0 2 f fd ["above", "below"] spLow := by
  obtain ⟨_, g_greatest_divisor, _, G_greatest_divisor, k_greatest_divisor, b_greatest_divisor⟩ := C
  refine F.ok sc_in_lowest_terms (fun vs H Q E h => ?_) (fun cdv A outer s H vs Q E hr h => ?_)
  · obtain ⟨a, b, rfl, _⟩ := h
    rfl
  · obtain ⟨a, b, rfl, hb, hb2, q⟩ := h
    refine ⟨_, (pss_cons (ps_set (i := 2) sc_in_lowest_terms.nd rfl (Or.inl rfl) (pe_call G_greatest_divisor (hr.mono (by decide)) (by rfl) g_greatest_divisor k_greatest_divisor b_greatest_divisor .nil pass0 (pa_cons (pv 0) (pa_cons (pv 1) pa_nil))))
        (pss_cons (ps_if (pt_cmpR op_lt (pv 1) pe_int (nomark _)) (pss_one (ps_set (i := 2) sc_in_lowest_terms.nd rfl (Or.inl rfl) (pe_un un_neg (pv 2)))) pss_nil)
        (pss_one (ps_ret (pe_lst (pa_cons (pe_op op_fdivB (pv 0) (pv 2)) (pa_cons (pe_op op_fdivB (pv 1) (pv 2)) pa_nil)))))) ), ?_⟩
    have hg : 0 < Int.gcd a b := Int.gcd_pos_of_ne_zero_right a hb
    have hgl : Int.gcd a b ≤ b.natAbs := Nat.le_of_dvd (by omega) (Int.gcd_dvd_natAbs_right a b)
    have low := low_is a b hb
    have fin : ∀ g : Int, g.natAbs = Int.gcd a b → [a.fdiv g, b.fdiv g] = Rf.frac ((a : Rat) / (b : Rat)) → tRet (tLst (tCons (tOp (rI CDivB fun i j => V.int (i.fdiv j)) (tVar 0) (tVar 2)) (tCons (tOp (rI CDivB fun i j => V.int (i.fdiv j)) (tVar 1) (tVar 2)) tNil))) { nx := fun x H' => Q V.non H', rt := Q } [some (.int a), some (.int b), some (.int g)] H := by
      intro g h1 h2
      have hc : ∀ z : Int, CDivB z g := fun z => divB_of (b := 8990) (by omega) (by omega) (by decide) (by decide)
      refine ⟨_, rfl, _, rfl, a, g, rfl, rfl, hc a, _, rfl, _, rfl, b, g, rfl, rfl, hc b, (by show 2 ≤ sizeLine; decide), fun p hp => ?_⟩
      refine q _ p (same_new hp) ?_
      rw [← h2]
      exact upd_same
    refine ⟨_, rfl, _, rfl, a, b, rfl, ?_⟩
    refine ⟨_, rfl, _, _, rfl, rfl, _, rfl, ?_⟩
    by_cases h : b < 0
    · rw [decide_eq_true h]
      refine iteT ⟨_, rfl, _, rfl, ?_⟩
      rw [if_pos h] at low
      exact fin _ (by omega) low
    · rw [decide_eq_false h]
      rw [if_neg h] at low
      exact iteF (fin _ (by omega) low)
end
end Rp

set_option Elab.async false
set_option linter.all false
set_option maxRecDepth 100000
set_option maxHeartbeats 2000000
namespace Rp
open PySem PySem.Spec PyProof.Rows L2
/-- places small enough -/
structure Sm (v : Rf.L) : Prop where
  len : v.length ≤ 4
  den : ∀ q ∈ v, q.den < 2 ^ 60
  num : ∀ q ∈ v, q.num.natAbs < 2 ^ 60
theorem ev2_places (v : Rf.L) : ev2 (Rf.placesQ v) = v.map (fun q => q.num) := by
  induction v with
  | nil => rfl
  | cons q v ih =>
    show q.num :: ev2 (Rf.placesQ v) = _
    rw [ih]; rfl
theorem ev2_places1 (v : Rf.L) : ev2 ((Rf.placesQ v).drop 1) = v.map (fun q => (q.den : Int)) := by
  induction v with
  | nil => rfl
  | cons q v ih =>
    cases v with
    | nil => rfl
    | cons r v =>
      show (q.den : Int) :: ev2 ((Rf.placesQ (r :: v)).drop 1) = _
      rw [ih]; rfl
theorem lcm_step (m d : Nat) : ((m : Int) * (d : Int)).fdiv (Int.gcd (m : Int) (d : Int) : Int) = (Nat.lcm m d : Int) := by
  rw [Int.fdiv_eq_ediv_of_nonneg _ (by omega), Int.gcd_natCast_natCast]
  rfl
theorem lcm_take {v : Rf.L} {i : Nat} {q : Rat} (h : v[i]? = some q) : Rf.lcmOf (v.take (i + 1)) = Nat.lcm (Rf.lcmOf (v.take i)) q.den := by
  unfold Rf.lcmOf
  rw [List.take_add_one, h, List.foldl_append]
  rfl
theorem lcm_bd {v : Rf.L} (h : ∀ q ∈ v, q.den < 2 ^ 60) : ∀ i, i ≤ v.length → Rf.lcmOf (v.take i) ≤ 2 ^ (60 * i)
  | 0, _ => by show 1 ≤ 1; exact Nat.le_refl 1
  | i + 1, hi => by
    have ih := lcm_bd h i (by omega)
    have hq : v[i]? = some (v[i]'(by omega)) := List.getElem?_eq_getElem (by omega)
    rw [lcm_take hq]
    have h1 : Nat.lcm (Rf.lcmOf (v.take i)) (v[i]'(by omega)).den ≤ Rf.lcmOf (v.take i) * (v[i]'(by omega)).den := Nat.div_le_self _ _
    have h2 := h _ (List.getElem_mem (by omega : i < v.length))
    have h3 : Rf.lcmOf (v.take i) * (v[i]'(by omega)).den ≤ 2 ^ (60 * i) * 2 ^ 60 := Nat.mul_le_mul ih (Nat.le_of_lt h2)
    have e : 2 ^ (60 * (i + 1)) = 2 ^ (60 * i) * 2 ^ 60 := by rw [Nat.mul_add, Nat.pow_add]
    rw [e]
    exact Nat.le_trans h1 h3
theorem lcm_all {v : Rf.L} (h : Sm v) : Rf.lcmOf v ≤ 2 ^ 240 := by
  have h1 := lcm_bd h.den v.length (Nat.le_refl _)
  rw [List.take_length] at h1
  exact Nat.le_trans h1 (Nat.pow_le_pow_right (by decide) (by have := h.len; omega))
theorem abv_bd {v : Rf.L} (h : Sm v) : Rf.Bd (2 ^ 300) (Rf.abvOf v) := by
  intro z hz
  unfold Rf.abvOf at hz
  obtain ⟨q, hq, rfl⟩ := List.mem_map.mp hz
  have h1 := Nat.le_of_lt (h.num q hq)
  have h2 : (((Rf.lcmOf v / q.den : Nat) : Int)).natAbs ≤ 2 ^ 240 := by
    rw [Int.natAbs_natCast]
    exact Nat.le_trans (Nat.div_le_self _ _) (lcm_all h)
  have h3 := Rf.natAbs_mul_le h1 h2
  rw [← Nat.pow_add] at h3
  exact h3
theorem int_at {xs : List Int} {i : Nat} {y : V} (h : (xs.map V.int)[i]? = some y) : ∃ z, xs[i]? = some z ∧ y = .int z := by
  rw [List.getElem?_map] at h
  cases e : xs[i]? with
  | none => rw [e] at h; cases h
  | some z => rw [e] at h; exact ⟨z, rfl, (Option.some.inj h).symm⟩
section
variable {P : Program} {w : World} {K : PySem.W.Frag} {mg : Str → Option Value} {base : Heap}
abbrev s_over_one_below : Stmt := topS 3
abbrev N_over_one_below : List Str := ["places", "below", "one", "above", "own"]
theorem sc_over_one_below : FnScope N_over_one_below ["places"] (defScope s_over_one_below) := ⟨rfl, rfl, rfl, by decide +kernel, rfl, by decide +kernel, by decide +kernel⟩
def spOver : Sp := fun vs H Q _ => ∃ (a : Addr) (v : Rf.L), vs = [.ref a] ∧ LI H a (Rf.placesQ v) ∧ Sm v ∧ ∀ H' p pa, Same H H' → H' p = some (.tup [.ref pa, .int (Rf.lcmOf v)]) → LI H' pa (Rf.abvOf v) → Q (.ref p) H'
theorem ok_over_one_below {f : Addr} {fd : FuncData} (F : Fun K "over_one_below" "over_one_below" s_over_one_below f fd) (B : Bt mg) (C : CalN P w K mg base 1 "greatest_divisor" ["one", "other"] spGcd) : FnOk P w K mg base CX0 2 f fd ["places"] spOver := by
  obtain ⟨_, g_greatest_divisor, _, G_greatest_divisor, k_greatest_divisor, b_greatest_divisor⟩ := C
  refine F.ok sc_over_one_below (fun vs H Q E h => ?_) (fun cdv A outer s H vs Q E hr h => ?_)
  · obtain ⟨a, b, rfl, _⟩ := h
    rfl
  · obtain ⟨a, v, rfl, ha, hsm, q⟩ := h
    refine ⟨_, (pss_cons (ps_set (i := 1) sc_over_one_below.nd rfl (Or.inr rfl) pe_int)
        (pss_cons (ps_for PassesOwn.never rfl (pi_list (pe_sl2 (lo := 1) (pv 0))) (pg_name (i := 2) sc_over_one_below.nd rfl (Or.inl rfl)) (pss_one (ps_set (i := 1) sc_over_one_below.nd rfl (Or.inr rfl) (pe_op op_fdivB (pe_op op_mulW (pv 1) (pv 2)) (pe_call G_greatest_divisor (hr.mono (by decide)) (by rfl) g_greatest_divisor k_greatest_divisor b_greatest_divisor .nil pass0 (pa_cons (pv 1) (pa_cons (pv 2) pa_nil)))))))
        (pss_cons (ps_setLc (own := [("one", 2), ("own", 4)]) (i := 3) (g := gTup K 2 (gCons (gName 2) (gCons (gName 4) gNil))) (tt := tYes) rfl sc_over_one_below.nd rfl rfl (sw_true rfl rfl rfl (by decide +kernel)) (pi_zip (by rfl) B.zip (pa_cons (pe_sl2 (lo := 0) (pv 0)) (pa_cons (pe_sl2 (lo := 1) (pv 0)) pa_nil))) (blkOk_by (own := [("one", 2), ("own", 4)]) (N := N_over_one_below) (sc := defScope s_over_one_below) (by decide +kernel)) (fun _ _ _ _ _ => (pg_tup rfl (pgs_cons (pg_name (i := 2) sc_over_one_below.nd rfl (Or.inl rfl)) (pgs_cons (pg_name (i := 4) sc_over_one_below.nd rfl (Or.inl rfl)) pgs_nil)))) (fun _ _ _ _ _ => pts_nil) (fun _ _ _ _ _ => (pe_op op_mulW (pv 2) (pe_op op_fdivB (pv 1) (pv 4)))))
        (pss_one (ps_ret (pe_tup (pa_cons (pv 3) (pa_cons (pv 1) pa_nil)))))))), ?_⟩
    refine ⟨.ref a, rfl, a, _, rfl, ha.seq, fun c nc => ?_⟩
    have e1 : ev2 (((Rf.placesQ v).map V.int).drop 1) = (v.map fun q => (q.den : Int)).map V.int := by rw [← List.map_drop, ev2_map, ev2_places1]
    have e0 : ev2 (((Rf.placesQ v).map V.int).drop 0) = (v.map fun q => q.num).map V.int := by rw [← List.map_drop, ev2_map, List.drop_zero, ev2_places]
    rw [e1]
    generalize hH1 : upd H c (.lst ((v.map fun q => (q.den : Int)).map V.int)) = H1
    have s1 : Same H H1 := by rw [← hH1]; exact same_new nc
    have l1 : LI H1 c (v.map fun q => (q.den : Int)) := by rw [← hH1]; exact upd_same
    refine ⟨c, rfl, ⟨_, l1.seq⟩, for_list (K := K) (a := c) (xs := (v.map fun q => (q.den : Int)).map V.int) (fun i σ H' => ∃ y, σ = [some (.ref a), some (.int (Rf.lcmOf (v.take i))), y, none, none] ∧ Same H1 H') ⟨none, rfl, Same.refl _⟩ (fun i σ H' _ ⟨_, _, s2⟩ => s2.seq l1.seq) ?_ ?_⟩
    · rintro i y σ H' hi ⟨y0, rfl, s2⟩
      rw [List.map_map, List.getElem?_map] at hi
      cases hq : v[i]? with
      | none => rw [hq] at hi; cases hi
      | some q0 =>
        rw [hq] at hi
        have ey : y = .int (q0.den : Int) := (Option.some.inj hi).symm
        subst ey
        have hmem : q0 ∈ v := List.mem_of_getElem? hq
        have hb1 : (Rf.lcmOf (v.take i) : Int).natAbs < 2 ^ 241 := by
          have h1 := lcm_bd hsm.den i (by have := (List.getElem?_eq_some_iff.mp hq).1; omega)
          have h2 : 2 ^ (60 * i) ≤ 2 ^ 240 := Nat.pow_le_pow_right (by decide) (by have := (List.getElem?_eq_some_iff.mp hq).1; have := hsm.len; omega)
          rw [Int.natAbs_natCast]
          exact Nat.lt_of_le_of_lt (Nat.le_trans h1 h2) (by decide)
        have hb2 : (q0.den : Int).natAbs < 2 ^ 60 := hsm.den q0 hmem
        have hg : 0 < Int.gcd (Rf.lcmOf (v.take i) : Int) (q0.den : Int) := Int.gcd_pos_of_ne_zero_right _ (by have := q0.den_nz; omega)
        have hgl : Int.gcd (Rf.lcmOf (v.take i) : Int) (q0.den : Int) ≤ q0.den := Nat.le_of_dvd (Nat.pos_of_ne_zero q0.den_nz) (Int.gcd_dvd_natAbs_right _ _)
        refine ⟨_, rfl, _, rfl, _, _, rfl, rfl, wide_mul hb1 hb2 (by decide) (by decide) (by decide), ?_⟩
        refine ⟨_, rfl, _, rfl, _, _, rfl, ?_⟩
        refine ⟨_, _, rfl, rfl, divB_of (b := 60) (by omega) (by omega) (by decide) (by decide), ?_⟩
        refine ⟨some (.int (q0.den : Int)), ?_, s2⟩
        have ef : ((Rf.lcmOf (v.take i) : Int) * (q0.den : Int)).fdiv (Int.gcd (Rf.lcmOf (v.take i) : Int) (q0.den : Int) : Int) = (Rf.lcmOf (v.take (i + 1)) : Int) := by rw [lcm_step, lcm_take hq]
        show [some (V.ref a), some (V.int (((Rf.lcmOf (v.take i) : Int) * (q0.den : Int)).fdiv (Int.gcd (Rf.lcmOf (v.take i) : Int) (q0.den : Int) : Int))), some (V.int (q0.den : Int)), none, none] = _
        rw [ef]
    · rintro σ H' ⟨y0, rfl, s2⟩
      rw [List.length_map, List.length_map, List.take_length]
      have ha2 : LI H' a (Rf.placesQ v) := s2 _ _ (s1 _ _ ha)
      refine ⟨.ref a, rfl, a, _, rfl, LI.seq ha2, fun c2 nc2 => ?_⟩
      rw [e0]
      generalize hH2 : upd H' c2 (.lst ((v.map fun q => q.num).map V.int)) = H2
      have s3 : Same H' H2 := by rw [← hH2]; exact same_new nc2
      have l2 : LI H2 c2 (v.map fun q => q.num) := by rw [← hH2]; exact upd_same
      refine ⟨.ref a, rfl, a, _, rfl, LI.seq (s3 _ _ ha2), fun c3 nc3 => ?_⟩
      rw [e1]
      generalize hH3 : upd H2 c3 (.lst ((v.map fun q => (q.den : Int)).map V.int)) = H3
      have s4 : Same H2 H3 := by rw [← hH3]; exact same_new nc3
      have l3 : LI H3 c3 (v.map fun q => (q.den : Int)) := by rw [← hH3]; exact upd_same
      have l2' : LI H3 c2 (v.map fun q => q.num) := s4 _ _ l2
      refine ⟨c2, c3, _, _, rfl, LI.seq l2', LI.seq l3, fun D nD => ?_⟩
      refine lc_gen (walk_zip (n := v.length) (by simp)) nD (by have := hsm.len; exact small1000 (by omega)) (fun i => .int ((Rf.abvOf v).getD i 0)) (fun _ => true) (fun H4 s5 => ⟨LI.seq (s5 _ _ l2'), LI.seq (s5 _ _ l3)⟩) ?_ ?_
      · rintro i x H4 H5 hi s5 ⟨T, y1, y2, rfl, nT, rfl, hy1, hy2⟩ R RY hk1 hk2
        have hq : v[i]? = some (v[i]) := List.getElem?_eq_getElem hi
        dsimp only at hy1 hy2
        rw [List.map_map, List.getElem?_map, hq] at hy1 hy2
        have ey1 : y1 = .int (v[i]).num := (Option.some.inj hy1).symm
        have ey2 : y2 = .int ((v[i]).den : Int) := (Option.some.inj hy2).symm
        subst ey1 ey2
        have hmem : v[i] ∈ v := List.getElem_mem hi
        have hdp : 0 < (v[i]).den := Nat.pos_of_ne_zero (v[i]).den_nz
        have hd60 := hsm.den _ hmem
        have hfd : (Rf.lcmOf v : Int).fdiv ((v[i]).den : Int) = ((Rf.lcmOf v / (v[i]).den : Nat) : Int) := by
          rw [Int.fdiv_eq_ediv_of_nonneg _ (by omega)]
          rfl
        refine ⟨T, _, rfl, .inl (.inl upd_same), rfl, _, _, rfl, _, _, rfl, rfl, rfl, ?_⟩
        refine ⟨_, rfl, _, rfl, _, rfl, _, _, rfl, rfl, divB_of (b := 60) (by omega) hd60 (by decide) (by decide), _, _, rfl, rfl, ?_, ?_⟩
        · show CMulW (v[i]).num ((Rf.lcmOf v : Int).fdiv ((v[i]).den : Int))
          rw [hfd]
          refine wide_mul (a := 60) (b := 241) (hsm.num _ hmem) ?_ (by decide) (by decide) (by decide)
          rw [Int.natAbs_natCast]
          exact Nat.lt_of_le_of_lt (Nat.le_trans (Nat.div_le_self _ _) (lcm_all hsm)) (by decide)
        · have ea : (Rf.abvOf v).getD i 0 = (v[i]).num * ((Rf.lcmOf v / (v[i]).den : Nat) : Int) := by
            unfold Rf.abvOf
            rw [List.getD_eq_getElem?_getD, List.getElem?_map, hq]
            rfl
          show RY (V.int ((v[i]).num * (Rf.lcmOf v : Int).fdiv ((v[i]).den : Int))) _
          rw [hfd, ← ea]
          exact hk1 rfl _ (same_new nT)
      · intro H4 s5 hD
        rw [filter_all] at hD
        have el : v.length = (Rf.abvOf v).length := (Rf.abv_length v).symm
        rw [el, range_map_get V.int 0 (Rf.abvOf v)] at hD
        refine ⟨_, rfl, _, rfl, (by show 2 ≤ sizeLine; decide), fun t ht => ?_⟩
        have s6 : Same H H4 := s1.trans (s2.trans (s3.trans (s4.trans s5)))
        exact q _ t D (s6.trans (same_new ht)) upd_same (same_new ht _ _ hD)
end
end Rp

set_option Elab.async false
set_option linter.all false
set_option maxRecDepth 100000
set_option maxHeartbeats 2000000
namespace Rp
open PySem PySem.Spec PyProof.Rows L2
/-- what a comprehension's reading asks of a walk -/
abbrev LcG (J : It) (g : TG) (tt : TT) (te : TE) (vs : List Nat) (σ : L2.St) (H1 : Hp) (D : Addr) (Qd : Hp → Prop) : Prop :=
  ∃ W : Nat → Nat → Hp → Prop, (∃ m, W 0 m (upd H1 D (.lst []))) ∧ ∀ i m H, W i m H →
      (J.stop i H ∧ Qd H) ∨ (J.go i H ∧ ∃ Nx : Hp → Prop, (∀ H', Nx H' → ∃ m', m' < m ∧ W (i + 1) m' H') ∧ ∀ x H', J.yld i H x H' → g x (wipe σ vs) H' fun σ2 H2 => wipe σ2 vs = wipe σ vs ∧ tt σ2 H2 fun b H3 =>
        if b = true then te σ2 H3 fun y H4 => ∃ acc, H4 D = some (.lst acc) ∧ acc.length < sizeLine ∧ Nx (upd H4 D (.lst (acc ++ [y]))) else Nx H3)
theorem mem_of_at {xs : List Int} {i : Nat} {z : Int} (h : xs[i]? = some z) : z ∈ xs := List.mem_of_getElem? h
theorem zip_map_range {xs ys : List Int} (f : Int → Int → Int) : (List.range (min xs.length ys.length)).map (fun i => f (xs.getD i 0) (ys.getD i 0)) = (xs.zip ys).map fun p => f p.1 p.2 := by
  apply List.ext_getElem
  · simp
  · intro i h1 h2
    have hx : i < xs.length := by simp at h1; omega
    have hy : i < ys.length := by simp at h1; omega
    simp [List.getD_eq_getElem?_getD, hx, hy]
/-- [e for x, y in zip(xs, ys)], all whole numbers -/
theorem lc_zipI {K : PySem.W.Frag} {a b : Addr} {xs ys : List Int} {te : TE} {vs : List Nat} {σ : L2.St} {H1 : Hp} {D : Addr} {Qd : Hp → Prop} {i j : Nat} (nD : H1 D = none) (la : LI H1 a xs) (lb : LI H1 b ys) (hn : xs.length ≤ 1000) (f : Int → Int → Int)
    (hw : ∀ u v, wipe (((wipe σ vs).set i (some u)).set j (some v)) vs = wipe σ vs)
    (hte : ∀ x y H5 (RY : V → Hp → Prop), x ∈ xs → y ∈ ys → Same H1 H5 → RY (.int (f x y)) H5 → te (((wipe σ vs).set i (some (.int x))).set j (some (.int y))) H5 RY)
    (hd : ∀ H4, Same H1 H4 → LI H4 D ((xs.zip ys).map fun p => f p.1 p.2) → Qd H4) : LcG (Itz K a b) (gTup K 2 (gCons (gName i) (gCons (gName j) gNil))) tYes te vs σ H1 D Qd := by
  refine lc_gen (walk_zip (K := K) (a := a) (b := b) (xs := xs.map V.int) (ys := ys.map V.int) (n := min xs.length ys.length) (by simp)) nD (small1000 (by omega)) (fun i => .int (f (xs.getD i 0) (ys.getD i 0))) (fun _ => true) (fun H4 s5 => ⟨LI.seq (s5 _ _ la), LI.seq (s5 _ _ lb)⟩) ?_ ?_
  · rintro i' x H4 H5 hi s5 ⟨T, y1, y2, rfl, nT, rfl, hy1, hy2⟩ R RY hk1 hk2
    obtain ⟨z1, h1, rfl⟩ := int_at hy1
    obtain ⟨z2, h2, rfl⟩ := int_at hy2
    refine ⟨T, _, rfl, .inl (.inl upd_same), rfl, _, _, rfl, _, _, rfl, rfl, hw _ _, ?_⟩
    refine hte z1 z2 _ RY (mem_of_at h1) (mem_of_at h2) (s5.trans (same_new nT)) ?_
    have e1 : xs.getD i' 0 = z1 := by rw [List.getD_eq_getElem?_getD, h1]; rfl
    have e2 : ys.getD i' 0 = z2 := by rw [List.getD_eq_getElem?_getD, h2]; rfl
    have := hk1 rfl (upd H4 T (.tup [.int z1, .int z2])) (same_new nT)
    rw [e1, e2] at this
    exact this
  · intro H4 s5 hD
    rw [filter_all] at hD
    refine hd H4 s5 ?_
    rw [← zip_map_range]
    show H4 D = some (.lst (((List.range (min xs.length ys.length)).map fun i => f (xs.getD i 0) (ys.getD i 0)).map V.int))
    rw [List.map_map]
    exact hD
/-- [e for x in xs], all whole numbers -/
theorem lc_listI {K : PySem.W.Frag} {a : Addr} {xs : List Int} {te : TE} {vs : List Nat} {σ : L2.St} {H1 : Hp} {D : Addr} {Qd : Hp → Prop} {i : Nat} (nD : H1 D = none) (la : LI H1 a xs) (hn : xs.length ≤ 1000) (f : Int → Int)
    (hw : ∀ u, wipe ((wipe σ vs).set i (some u)) vs = wipe σ vs)
    (hte : ∀ x H5 (RY : V → Hp → Prop), x ∈ xs → Same H1 H5 → (∀ H6, Same H5 H6 → RY (.int (f x)) H6) → te ((wipe σ vs).set i (some (.int x))) H5 RY)
    (hd : ∀ H4, Same H1 H4 → LI H4 D (xs.map f) → Qd H4) : LcG (Itl K a) (gName i) tYes te vs σ H1 D Qd := by
  refine lc_gen (walk_list (K := K) (a := a) (xs := xs.map V.int)) nD (by rw [List.length_map]; exact small1000 hn) (fun i => .int (f (xs.getD i 0))) (fun _ => true) (fun H4 s5 => LI.seq (s5 _ _ la)) ?_ ?_
  · rintro i' x H4 H5 hi s5 ⟨rfl, hy1⟩ R RY hk1 hk2
    obtain ⟨z1, h1, rfl⟩ := int_at hy1
    refine ⟨hw _, ?_⟩
    refine hte z1 _ RY (mem_of_at h1) s5 (fun H6 s6 => ?_)
    have e1 : xs.getD i' 0 = z1 := by rw [List.getD_eq_getElem?_getD, h1]; rfl
    have := hk1 rfl _ s6
    rw [e1] at this
    exact this
  · intro H4 s5 hD
    rw [filter_all, List.length_map] at hD
    refine hd H4 s5 ?_
    rw [← range_map_get f 0 xs]
    show H4 D = some (.lst (((List.range xs.length).map fun i => f (xs.getD i 0)).map V.int))
    rw [List.map_map]
    exact hD
theorem extend_step {xs : List Int} {i : Nat} {z b : Int} (h : xs[i]? = some z) : Rf.placesQ (Rf.overL (xs.take (i + 1)) b) = Rf.placesQ (Rf.overL (xs.take i) b) ++ Rf.frac ((z : Rat) / (b : Rat)) := by
  unfold Rf.overL Rf.placesQ
  rw [List.take_add_one, h, List.map_append, List.flatMap_append]
  rfl
theorem places_length (v : Rf.L) : (Rf.placesQ v).length = 2 * v.length := by
  induction v with
  | nil => rfl
  | cons q v ih =>
    show (Rf.placesQ v).length + 1 + 1 = _
    rw [ih, List.length_cons]; omega
section
variable {P : Program} {w : World} {K : PySem.W.Frag} {mg : Str → Option Value} {base : Heap}
abbrev s_places_of : Stmt := topS 4
abbrev N_places_of : List Str := ["above", "below", "places", "one"]
theorem sc_places_of : FnScope N_places_of ["above", "below"] (defScope s_places_of) := ⟨rfl, rfl, rfl, by decide +kernel, rfl, by decide +kernel, by decide +kernel⟩
def spPlaces : Sp := fun vs H Q _ => ∃ (a : Addr) (xs : List Int) (b : Int), vs = [.ref a, .int b] ∧ LI H a xs ∧ xs.length ≤ 400 ∧ b ≠ 0 ∧ b.natAbs < 2 ^ 8990 ∧ ∀ H' p, Same H H' → H p = none → LI H' p (Rf.placesQ (Rf.overL xs b)) → Q (.ref p) H'
theorem ok_places_of {f : Addr} {fd : FuncData} (F : Fun K "places_of" "places_of" s_places_of f fd) (C : CalN P w K mg base 2 "in_lowest_terms" ["above", "below"] spLow) : FnOk P w K mg base CX0 3 f fd ["above", "below"] spPlaces := by
  obtain ⟨_, g_in_lowest_terms, _, G_in_lowest_terms, k_in_lowest_terms, b_in_lowest_terms⟩ := C
  refine F.ok sc_places_of (fun vs H Q E h => ?_) (fun cdv A outer s H vs Q E hr h => ?_)
  · obtain ⟨a, xs, b, rfl, _⟩ := h
    rfl
  · obtain ⟨a, xs, b, rfl, ha, hlen, hb, hb2, q⟩ := h
    refine ⟨_, (pss_cons (ps_set (i := 2) sc_places_of.nd rfl (Or.inl rfl) (pe_lst pa_nil))
        (pss_cons (ps_for PassesOwn.never rfl (pi_list (pv 0)) (pg_name (i := 3) sc_places_of.nd rfl (Or.inl rfl)) (pss_one (ps_expr (pe_bm PySem.F.plainAttrs_list PySem.F.slot_list_extend PySem.F.type_list_extend mt_extend (pv 2) (pa_cons (pe_call G_in_lowest_terms (hr.mono (by decide)) (by rfl) g_in_lowest_terms k_in_lowest_terms b_in_lowest_terms .nil pass0 (pa_cons (pv 3) (pa_cons (pv 1) pa_nil))) pa_nil)))))
        (pss_one (ps_ret (pv 2))))), ?_⟩
    refine ⟨Nat.zero_le _, fun o no => ?_⟩
    have s1 : Same H (upd H o (.lst [])) := same_new no
    refine ⟨_, rfl, a, rfl, ⟨_, LI.seq (s1 _ _ ha)⟩, for_list (K := K) (a := a) (xs := xs.map V.int) (fun i σ H' => ∃ y, σ = [some (.ref a), some (.int b), some (.ref o), y] ∧ Same H H' ∧ LI H' o (Rf.placesQ (Rf.overL (xs.take i) b))) ⟨none, rfl, s1, upd_same⟩ (fun i σ H' _ ⟨_, _, s2, _⟩ => LI.seq (s2 _ _ ha)) ?_ ?_⟩
    · rintro i y σ H' hi ⟨y0, rfl, s2, ho⟩
      obtain ⟨z, hz, rfl⟩ := int_at hi
      refine ⟨_, rfl, .inl ⟨rfl, _, LI.seq ho⟩, ?_⟩
      refine ⟨_, rfl, _, rfl, z, b, rfl, hb, hb2, fun H2 p s3 lp => ?_⟩
      refine ⟨o, p, _, _, rfl, rfl, s3 _ _ ho, lp, ?_, ?_⟩
      · rw [List.length_map, List.length_map, places_length]
        have h1 : (Rf.overL (xs.take i) b).length ≤ 400 := by
          unfold Rf.overL
          rw [List.length_map, List.length_take]; omega
        have h2 : (Rf.frac ((z : Rat) / (b : Rat))).length = 2 := rfl
        rw [h2]
        exact Nat.le_of_lt (small1000 (by omega))
      · refine ⟨_, rfl, same_store no (s2.trans s3), ?_⟩
        show (upd H2 o _) o = _
        rw [upd_same, extend_step hz, List.map_append]
    · rintro σ H' ⟨y0, rfl, s2, ho⟩
      rw [List.length_map, List.take_length] at ho
      exact ⟨_, rfl, q H' o s2 no ho⟩
abbrev s_times_root : Stmt := topS 7
abbrev N_times_root : List Str := ["coefficients", "row", "top", "one", "coefficient"]
theorem sc_times_root : FnScope N_times_root ["coefficients", "row"] (defScope s_times_root) := ⟨rfl, rfl, rfl, by decide +kernel, rfl, by decide +kernel, by decide +kernel⟩
/-- bits enough for all of a field's reckoning -/
def spRoot : Sp := fun vs H Q _ => ∃ (a b : Addr) (k xs : List Int), vs = [.ref a, .ref b] ∧ LI H a k ∧ LI H b xs ∧ xs.length = k.length ∧ 1 ≤ k.length ∧ k.length ≤ 4 ∧ Rf.Bd 20 k ∧ Rf.Bd (2 ^ 5000) xs ∧ ∀ H' p, Same H H' → LI H' p (Rf.upI k xs) → Q (.ref p) H'
theorem cut_last (xs : List V) (h : 1 ≤ xs.length) : cutV xs none (some (-1)) = xs.dropLast := by
  unfold cutV
  have e1 : HT.sIx xs.length 0 none = 0 := HT.sIx_none _ _
  have e2 : HT.sIx xs.length xs.length (some (-1)) = xs.length - 1 := by
    unfold HT.sIx
    simp
    omega
  rw [e1, e2, List.drop_zero, List.dropLast_eq_take]
  simp
theorem ok_times_root {f : Addr} {fd : FuncData} (F : Fun K "times_root" "times_root" s_times_root f fd) (B : Bt mg) : FnOk P w K mg base CX0 1 f fd ["coefficients", "row"] spRoot := by
  refine F.ok sc_times_root (fun vs H Q E h => ?_) (fun cdv A outer s H vs Q E hr h => ?_)
  · obtain ⟨a, b, k, xs, rfl, _⟩ := h
    rfl
  · obtain ⟨a, b, k, xs, rfl, ha, hb, hlen, h1, h4, hk, hx, q⟩ := h
    refine ⟨_, (pss_cons (ps_set (i := 2) sc_times_root.nd rfl (Or.inr rfl) (pe_ix ix_list (pv 1) (pe_un un_neg pe_int) (fun _ _ => rfl)))
        (pss_one (ps_ret (pe_lc (own := [("one", 3), ("coefficient", 4)]) (g := gTup K 2 (gCons (gName 3) (gCons (gName 4) gNil))) (tt := tYes) rfl sc_times_root.nd (pi_zip (by rfl) B.zip (pa_cons (pe_op op_cat (pe_lst (pa_cons pe_int pa_nil)) (pe_slice sl_list (pv 1) po_none (po_some (pe_un un_neg pe_int)))) (pa_cons (pv 0) pa_nil))) (blkOk_by (own := [("one", 3), ("coefficient", 4)]) (N := N_times_root) (sc := defScope s_times_root) (by decide +kernel)) (fun _ _ _ _ _ => (pg_tup rfl (pgs_cons (pg_name (i := 3) sc_times_root.nd rfl (Or.inl rfl)) (pgs_cons (pg_name (i := 4) sc_times_root.nd rfl (Or.inl rfl)) pgs_nil)))) (fun _ _ _ _ _ => pts_nil) (fun _ _ _ _ _ => (pe_op op_sub (pv 3) (pe_op op_mulW (pv 2) (pv 4)))))))), ?_⟩
    have hx0 : xs ≠ [] := by intro e; subst e; simp at hlen; omega
    have elast : xs = xs.dropLast ++ [xs.getLast hx0] := (List.dropLast_concat_getLast hx0).symm
    have etop : xs.getLastD 0 = xs.getLast hx0 := by rw [List.getLastD_eq_getLast?, List.getLast?_eq_some_getLast hx0]; rfl
    have hat : atI (xs.map V.int) (-1) = some (.int (xs.getLastD 0)) := by
      rw [etop]
      conv => lhs; rw [elast, List.map_append]
      exact atI_last _ _
    refine ⟨_, rfl, 1, rfl, b, _, _, _, rfl, rfl, LI.seq hb, hat, ?_⟩
    refine ⟨(by show 1 ≤ sizeLine; decide), fun c nc => ?_⟩
    have s1 : Same H (upd H c (.lst [.int 0])) := same_new nc
    have lc0 : (upd H c (.lst [.int 0])) c = some (.lst [.int 0]) := upd_same
    generalize hH1 : upd H c (.lst [.int 0]) = H1 at *
    refine ⟨_, rfl, 1, rfl, -1, rfl, b, _, rfl, LI.seq (s1 _ _ hb), fun c2 nc2 => ?_⟩
    rw [cut_last _ (by rw [List.length_map]; omega), ← List.map_dropLast]
    have s2 : Same H1 (upd H1 c2 (.lst (xs.dropLast.map V.int))) := same_new nc2
    have lc2 : LI (upd H1 c2 (.lst (xs.dropLast.map V.int))) c2 xs.dropLast := upd_same
    generalize hH2 : upd H1 c2 (.lst (xs.dropLast.map V.int)) = H2 at *
    refine ⟨c, c2, _, _, rfl, rfl, s2 _ _ lc0, lc2, ?_, fun c3 nc3 => ?_⟩
    · rw [List.length_map, List.length_dropLast]
      exact Nat.le_of_lt (small1000 (by show 1 + _ ≤ 1000; omega))
    have s3 : Same H2 (upd H2 c3 (.lst ([V.int 0] ++ xs.dropLast.map V.int))) := same_new nc3
    have lc3 : LI (upd H2 c3 (.lst ([V.int 0] ++ xs.dropLast.map V.int))) c3 (0 :: xs.dropLast) := upd_same
    generalize hH3 : upd H2 c3 (.lst ([V.int 0] ++ xs.dropLast.map V.int)) = H3 at *
    have sA : Same H H3 := s1.trans (s2.trans s3)
    refine ⟨_, rfl, c3, a, _, _, rfl, LI.seq lc3, LI.seq (sA _ _ ha), fun D nD => ?_⟩
    refine lc_zipI (K := K) nD lc3 (sA _ _ ha) (by simp; omega) (fun x y => x - xs.getLastD 0 * y) (fun _ _ => rfl) (fun x y H5 RY hx' hy' s5 hR => ?_) (fun H4 s4 l4 => ?_)
    · refine ⟨_, rfl, _, rfl, _, rfl, _, _, rfl, rfl, ?_, x, _, rfl, rfl, hR⟩
      have hlb := Rf.last_bd hx
      have hyb := hk y hy'
      exact wide_mul (a := 5001) (b := 5) (Nat.lt_of_le_of_lt hlb (Nat.pow_lt_pow_right (by decide) (by decide))) (by omega) (by decide) (by decide) (by decide)
    · exact q H4 D (sA.trans s4) l4
end
end Rp

set_option Elab.async false
set_option linter.all false
set_option maxRecDepth 100000
set_option maxHeartbeats 2000000
namespace Rp
open PySem PySem.Spec PyProof.Rows L2
/-- a tracked list of tracked lists of whole numbers -/
def LL (H : Hp) (p : Addr) (rows : List (List Int)) : Prop := ∃ as : List Addr, H p = some (.lst (as.map V.ref)) ∧ as.length = rows.length ∧ ∀ (i : Nat) (a : Addr) (r : List Int), as[i]? = some a → rows[i]? = some r → LI H a r
theorem LL.same {H H' : Hp} {p : Addr} {rows : List (List Int)} (h : LL H p rows) (s : Same H H') : LL H' p rows := by
  obtain ⟨as, h1, h2, h3⟩ := h
  exact ⟨as, s _ _ h1, h2, fun i a r ha hr => s _ _ (h3 i a r ha hr)⟩
/-- the j-th row -/
def itU (k xs : List Int) (j : Nat) : List Int := (List.range j).foldl (fun b _ => Rf.upI k b) xs
theorem itU_succ (k xs : List Int) (j : Nat) : itU k xs (j + 1) = Rf.upI k (itU k xs j) := by
  unfold itU
  rw [List.range_succ, List.foldl_append]
  rfl
def rowsTo (k xs : List Int) (i : Nat) : List (List Int) := (List.range i).map (itU k xs)
theorem rowsTo_all (k xs : List Int) : rowsTo k xs k.length = Rf.rowsI k xs := rfl
theorem rowsTo_succ (k xs : List Int) (i : Nat) : rowsTo k xs (i + 1) = rowsTo k xs i ++ [itU k xs i] := by
  unfold rowsTo
  rw [List.range_succ, List.map_append]
  rfl
theorem itU_length {k xs : List Int} (h1 : 1 ≤ k.length) (h : xs.length = k.length) (j : Nat) : (itU k xs j).length = k.length := by
  induction j with
  | zero => exact h
  | succ j ih =>
    rw [itU_succ]
    unfold Rf.upI
    simp [ih]
    omega
theorem itU_bd {k xs : List Int} {M : Nat} (hk : Rf.Bd 20 k) (h : Rf.Bd M xs) {j : Nat} (hj : j ≤ 4) : Rf.Bd (2 ^ 18 * M) (itU k xs j) := by
  have h1 := Rf.ups_bd hk (List.range j) xs M h
  refine h1.mono (Nat.mul_le_mul_right _ ?_)
  rw [List.length_range]
  have : 21 ^ j ≤ 21 ^ 4 := Nat.pow_le_pow_right (by decide) hj
  omega
theorem LI_ne {H : Hp} {p r : Addr} {xs : List Int} {as : List Addr} (h : LI H p xs) (hr : H r = some (.lst (as.map V.ref))) (hx : xs ≠ []) : p ≠ r := by
  intro z
  subst z
  have h5 := h.symm.trans hr
  have h6 := HO.lst.inj (Option.some.inj h5)
  cases xs with
  | nil => exact hx rfl
  | cons x xs =>
    cases as with
    | nil => simp at h6
    | cons a as =>
      rw [List.map_cons, List.map_cons] at h6
      have := (List.cons.inj h6).1
      cases this
/-- a row more -/
theorem LL.push {H H1 H2 : Hp} {r p : Addr} {rows : List (List Int)} {x : List Int} {as : List Addr} (hn : H r = none) (h1 : H2 r = some (.lst (as.map V.ref))) (h2 : as.length = rows.length) (h3 : ∀ (i : Nat) (a : Addr) (y : List Int), as[i]? = some a → rows[i]? = some y → LI H2 a y) (hp : LI H2 p x) (hne : ∀ a ∈ as, a ≠ r) (hpr : p ≠ r) : LL (upd H2 r (.lst (as.map V.ref ++ [V.ref p]))) r (rows ++ [x]) := by
  refine ⟨as ++ [p], ?_, by simp [h2], fun i a y ha hy => ?_⟩
  · rw [upd_same, List.map_append]
    rfl
  · by_cases hi : i < as.length
    · rw [List.getElem?_append_left hi] at ha
      rw [List.getElem?_append_left (by omega)] at hy
      show (upd H2 r _) a = _
      rw [upd_ne (hne a (List.mem_of_getElem? ha))]
      exact h3 i a y ha hy
    · rw [List.getElem?_append_right (by omega)] at ha
      rw [List.getElem?_append_right (by omega)] at hy
      have e1 : i - as.length = 0 := by
        have := (List.getElem?_eq_some_iff.mp ha).1
        simp at this; omega
      have e2 : i - rows.length = 0 := by omega
      rw [e1] at ha
      rw [e2] at hy
      have e3 : p = a := Option.some.inj ha
      have e4 : x = y := Option.some.inj hy
      subst e3 e4
      show (upd H2 r _) p = _
      rw [upd_ne hpr]
      exact hp
section
variable {P : Program} {w : World} {K : PySem.W.Frag} {mg : Str → Option Value} {base : Heap}
abbrev s_rows_of : Stmt := topS 8
abbrev N_rows_of : List Str := ["coefficients", "above", "rows"]
theorem sc_rows_of : FnScope N_rows_of ["coefficients", "above"] (defScope s_rows_of) := ⟨rfl, rfl, rfl, by decide +kernel, rfl, by decide +kernel, by decide +kernel⟩
def spRows : Sp := fun vs H Q _ => ∃ (a b : Addr) (k xs : List Int), vs = [.ref a, .ref b] ∧ LI H a k ∧ LI H b xs ∧ xs.length = k.length ∧ 1 ≤ k.length ∧ k.length ≤ 4 ∧ Rf.Bd 20 k ∧ Rf.Bd (2 ^ 4900) xs ∧ ∀ H' p, Same H H' → LL H' p (Rf.rowsI k xs) → Q (.ref p) H'
theorem ok_rows_of {f : Addr} {fd : FuncData} (F : Fun K "rows_of" "rows_of" s_rows_of f fd) (B : Bt mg) (C_times_root : CalN P w K mg base 1 "times_root" ["coefficients", "row"] spRoot) : FnOk P w K mg base CX0 2 f fd ["coefficients", "above"] spRows := by
  obtain ⟨_, g_times_root, _, G_times_root, k_times_root, b_times_root⟩ := C_times_root
  refine F.ok sc_rows_of (fun vs H Q E h => ?_) (fun cdv A outer s H vs Q E hr h => ?_)
  · obtain ⟨a, b, k, xs, rfl, _⟩ := h
    rfl
  · obtain ⟨a, b, k, xs, rfl, ha, hb, hlen, h1, h4, hk, hx, q⟩ := h
    refine ⟨_, (pss_cons (ps_set (i := 2) sc_rows_of.nd rfl (Or.inl rfl) (pe_lst (pa_cons (pv 1) pa_nil)))
        (pss_cons (ps_while PassesOwn.never (pt_cmpR op_lt (pe_callB call_len_seq (by rfl) B.len PySem.boot_len (pa_cons (pv 2) pa_nil)) (pe_callB call_len_seq (by rfl) B.len PySem.boot_len (pa_cons (pv 0) pa_nil)) (nomark _)) (pss_one (ps_expr (pe_bm PySem.F.plainAttrs_list PySem.F.slot_list_append PySem.F.type_list_append mt_append (pv 2) (pa_cons (pe_call G_times_root (hr.mono (by decide)) (by rfl) g_times_root k_times_root b_times_root .nil pass0 (pa_cons (pv 0) (pa_cons (pe_ix ix_list (pv 2) (pe_un un_neg pe_int) (fun _ _ => rfl)) pa_nil))) pa_nil)))))
        (pss_one (ps_ret (pv 2))))), ?_⟩
    refine ⟨_, rfl, (by show 1 ≤ sizeLine; decide), fun r nr => ?_⟩
    have s1 : Same H (upd H r (.lst [.ref b])) := same_new nr
    refine while_by (fun σ H' => σ = [some (.ref a), some (.ref b), some (.ref r)] ∧ Same H H' ∧ ∃ (i : Nat) (as : List Addr), 1 ≤ i ∧ i ≤ k.length ∧ H' r = some (.lst (as.map V.ref)) ∧ as.length = i ∧ (∀ (j : Nat) (c : Addr), as[j]? = some c → LI H' c (itU k xs j) ∧ c ≠ r)) (fun _ H' => match H' r with | some (.lst l) => k.length - l.length | _ => 0) ?_ ?_ ?_
    · refine ⟨rfl, s1, 1, [b], Nat.le_refl 1, h1, upd_same, rfl, fun j c hc => ?_⟩
      have hj : j = 0 := by
        have := (List.getElem?_eq_some_iff.mp hc).1
        simp at this; omega
      subst hj
      have e : b = c := Option.some.inj hc
      subst e
      exact ⟨s1 _ _ hb, ne_of_none hb nr⟩
    · rintro σ H' ⟨rfl, s2, i, as, hi1, hi2, hr', hal, hrows⟩
      refine ⟨_, rfl, r, _, rfl, .inl (.inl (.inl hr')), _, rfl, a, _, rfl, .inl (LI.seq (s2 _ _ ha)), _, _, rfl, rfl, _, rfl, ?_⟩
      by_cases hlt : i < k.length
      · have e : decide (((as.map V.ref).length : Int) < ((k.map V.int).length : Int)) = true := by
          apply decide_eq_true
          rw [List.length_map, List.length_map]
          omega
        rw [e]
        obtain ⟨bs, last, rfl⟩ : ∃ bs last, as = bs ++ [last] := by
          have hne : as ≠ [] := by intro z; subst z; simp at hal; omega
          exact ⟨as.dropLast, as.getLast hne, (List.dropLast_concat_getLast hne).symm⟩
        have hbl : bs.length + 1 = i := by simpa using hal
        have hlast := hrows bs.length last (by rw [List.getElem?_append_right (Nat.le_refl _)]; simp)
        refine iteT ⟨_, rfl, .inl ⟨rfl, _, .inl (.inl hr')⟩, ?_⟩
        refine ⟨_, rfl, _, rfl, 1, rfl, r, _, _, _, rfl, rfl, .inl (.inl hr'), (by rw [List.map_append]; exact atI_last _ _), a, last, k, _, rfl, s2 _ _ ha, hlast.1, itU_length h1 hlen _, h1, h4, hk, ?_, ?_⟩
        · exact (itU_bd hk hx (by omega)).mono (by rw [← Nat.pow_add]; exact Nat.pow_le_pow_right (by decide) (by decide))
        · intro H2 p s3 lp
          rw [← itU_succ, hbl] at lp
          have hpl : (itU k xs i).length = k.length := itU_length h1 hlen i
          have hpr : p ≠ r := LI_ne lp (s3 _ _ hr') (by intro z; rw [z] at hpl; simp at hpl; omega)
          refine ⟨r, _, _, rfl, rfl, s3 _ _ hr', ?_, ?_⟩
          · rw [List.length_map]
            exact small1000 (by omega)
          · refine ⟨⟨rfl, same_store nr (s2.trans s3), i + 1, bs ++ [last] ++ [p], by omega, by omega, ?_, by simp; omega, fun j c hc => ?_⟩, ?_⟩
            · rw [upd_same, List.map_append (l₂ := [p])]
              rfl
            · by_cases hj : j < (bs ++ [last]).length
              · rw [List.getElem?_append_left hj] at hc
                obtain ⟨g1, g2⟩ := hrows j c hc
                refine ⟨?_, g2⟩
                show (upd H2 r _) c = _
                rw [upd_ne g2]
                exact s3 _ _ g1
              · rw [List.getElem?_append_right (by omega)] at hc
                have hj2 : j = i := by
                  have := (List.getElem?_eq_some_iff.mp hc).1
                  simp at this; simp at hj; omega
                have e3 : p = c := by
                  have e4 : j - (bs ++ [last]).length = 0 := by omega
                  rw [e4] at hc
                  exact Option.some.inj hc
                subst e3 hj2
                refine ⟨?_, hpr⟩
                show (upd H2 r _) p = _
                rw [upd_ne hpr]
                exact lp
            · have e5 : (upd H2 r (.lst ((bs ++ [last]).map V.ref ++ [V.ref p]))) r = some (.lst ((bs ++ [last]).map V.ref ++ [V.ref p])) := upd_same
              simp only [e5, hr', List.length_map, List.length_append, List.length_cons, List.length_nil]
              omega
      · have e : decide (((as.map V.ref).length : Int) < ((k.map V.int).length : Int)) = false := by
          apply decide_eq_false
          rw [List.length_map, List.length_map]
          omega
        rw [e]
        refine iteF ⟨_, rfl, q H' r s2 ⟨as, hr', ?_, fun j c y hc hy => ?_⟩⟩
        · rw [Rf.rowsI_length]; omega
        · have hik : i = k.length := by omega
          have hj : j < k.length := by
            have := (List.getElem?_eq_some_iff.mp hc).1
            omega
          have e2 : (Rf.rowsI k xs)[j]? = some (itU k xs j) := by
            show ((List.range k.length).map (itU k xs))[j]? = _
            rw [List.getElem?_map, List.getElem?_range hj]
            rfl
          rw [e2] at hy
          have e3 := Option.some.inj hy
          rw [← e3]
          exact (hrows j c hc).1
    · intro σ H' Q1 Q2 hQ
      rintro ⟨v1, g1, p1, ys1, g2, g3, v2, g4, p2, ys2, g5, g6, i1, j1, g7, g8, b1, g9, g10⟩
      exact ⟨v1, g1, p1, ys1, g2, g3, v2, g4, p2, ys2, g5, g6, i1, j1, g7, g8, b1, g9, hQ _ _ g10⟩
end
end Rp

set_option Elab.async false
set_option linter.all false
set_option maxRecDepth 100000
set_option maxHeartbeats 2000000
namespace Rp
open PySem PySem.Spec PyProof.Rows L2
/-- behind i turns of whole_product's loop -/
def prodTo (k l r : List Int) (i : Nat) : List Int := ((r.take i).foldl (fun (x : List Int × List Int) c => (Rf.plusI x.1 (Rf.scaleI c x.2), Rf.upI k x.2)) (List.replicate k.length 0, l)).1
theorem prodTo_snd (k l : List Int) : ∀ (r : List Int) (z : List Int), (r.foldl (fun (x : List Int × List Int) c => (Rf.plusI x.1 (Rf.scaleI c x.2), Rf.upI k x.2)) (z, l)).2 = itU k l r.length := by
  intro r
  induction r generalizing l with
  | nil => intro z; rfl
  | cons c r ih =>
    intro z
    rw [List.foldl_cons, ih (Rf.upI k l)]
    have h : ∀ j, itU k (Rf.upI k l) j = itU k l (j + 1) := by
      intro j
      induction j with
      | zero => rfl
      | succ j ihj =>
        rw [itU_succ, ihj]
        exact (itU_succ k l (j + 1)).symm
    rw [h, List.length_cons]
theorem prodTo_succ {k l r : List Int} {i : Nat} {c : Int} (h : r[i]? = some c) : prodTo k l r (i + 1) = Rf.plusI (prodTo k l r i) (Rf.scaleI c (itU k l i)) := by
  have hi : i < r.length := (List.getElem?_eq_some_iff.mp h).1
  unfold prodTo
  rw [List.take_add_one, h, List.foldl_append]
  show Rf.plusI _ (Rf.scaleI c _) = _
  rw [prodTo_snd, List.length_take]
  have : min i r.length = i := by omega
  rw [this]
theorem prodTo_bd {k l r : List Int} (hk : Rf.Bd 20 k) {A M : Nat} (hr : Rf.Bd A r) (hl : Rf.Bd M l) (i : Nat) (h4 : r.length ≤ 4) : Rf.Bd (A * M * 2 ^ 18) (prodTo k l r i) := by
  have h := Rf.timesI_bd (a := r.take i) hk (fun a ha => hr a (List.mem_of_mem_take ha)) hl (by rw [List.length_take]; omega)
  exact h
theorem step_zip (acc row : List Int) (c : Int) : (acc.zip row).map (fun p => p.1 + c * p.2) = Rf.plusI acc (Rf.scaleI c row) := by
  unfold Rf.plusI Rf.scaleI
  rw [List.zip_map_right, List.map_map]
  rfl
theorem prodTo_length {k l r : List Int} (h1 : 1 ≤ k.length) (hl : l.length = k.length) : ∀ i, i ≤ r.length → (prodTo k l r i).length = k.length := by
  intro i
  induction i with
  | zero => intro _; show (List.replicate _ _).length = _; simp
  | succ i ih =>
    intro hi
    have h : r[i]? = some (r[i]'(by omega)) := List.getElem?_eq_getElem (by omega)
    rw [prodTo_succ h]
    unfold Rf.plusI Rf.scaleI
    simp [ih (by omega), itU_length h1 hl]
section
variable {P : Program} {w : World} {K : PySem.W.Frag} {mg : Str → Option Value} {base : Heap}
abbrev s_whole_product : Stmt := topS 9
abbrev N_whole_product : List Str := ["coefficients", "left", "right", "above", "row", "factor", "one", "other"]
theorem sc_whole_product : FnScope N_whole_product ["coefficients", "left", "right"] (defScope s_whole_product) := ⟨rfl, rfl, rfl, by decide +kernel, rfl, by decide +kernel, by decide +kernel⟩
def spProd : Sp := fun vs H Q _ => ∃ (a b c : Addr) (k l r : List Int), vs = [.ref a, .ref b, .ref c] ∧ LI H a k ∧ LI H b l ∧ LI H c r ∧ l.length = k.length ∧ r.length = k.length ∧ 1 ≤ k.length ∧ k.length ≤ 4 ∧ Rf.Bd 20 k ∧ Rf.Bd (2 ^ 2000) l ∧ Rf.Bd (2 ^ 2000) r ∧ ∀ H' p, Same H H' → LI H' p (Rf.timesI k r l) → Q (.ref p) H'
theorem ok_whole_product {f : Addr} {fd : FuncData} (F : Fun K "whole_product" "whole_product" s_whole_product f fd) (B : Bt mg) (C_rows_of : CalN P w K mg base 2 "rows_of" ["coefficients", "above"] spRows) : FnOk P w K mg base CX0 3 f fd ["coefficients", "left", "right"] spProd := by
  obtain ⟨_, g_rows_of, _, G_rows_of, k_rows_of, b_rows_of⟩ := C_rows_of
  refine F.ok sc_whole_product (fun vs H Q E h => ?_) (fun cdv A outer s H vs Q E hr h => ?_)
  · obtain ⟨a, b, c, k, l, r, rfl, _⟩ := h
    rfl
  · obtain ⟨a, b, c, k, l, r, rfl, ha, hb, hc, hl, hrl, h1, h4, hk, hlb, hrb, q⟩ := h
    refine ⟨_, (pss_cons (ps_setLc (own := [("one", 6)]) (i := 3) (g := gName 6) (tt := tYes) rfl sc_whole_product.nd rfl rfl (sw_true rfl rfl rfl (by decide +kernel)) (pi_list (pv 0)) (blkOk_by (own := [("one", 6)]) (N := N_whole_product) (sc := defScope s_whole_product) (by decide +kernel)) (fun _ _ _ _ _ => (pg_name (i := 6) sc_whole_product.nd rfl (Or.inl rfl))) (fun _ _ _ _ _ => pts_nil) (fun _ _ _ _ _ => pe_int))
        (pss_cons (ps_for PassesOwn.never rfl (pi_zip (by rfl) B.zip (pa_cons (pe_call G_rows_of (hr.mono (by decide)) (by rfl) g_rows_of k_rows_of b_rows_of .nil pass0 (pa_cons (pv 0) (pa_cons (pv 1) pa_nil))) (pa_cons (pv 2) pa_nil))) (pg_tup rfl (pgs_cons (pg_name (i := 4) sc_whole_product.nd rfl (Or.inl rfl)) (pgs_cons (pg_name (i := 5) sc_whole_product.nd rfl (Or.inr rfl)) pgs_nil))) (pss_one (ps_setLc (own := [("one", 6), ("other", 7)]) (i := 3) (g := gTup K 2 (gCons (gName 6) (gCons (gName 7) gNil))) (tt := tYes) rfl sc_whole_product.nd rfl rfl (sw_true rfl rfl rfl (by decide +kernel)) (pi_zip (by rfl) B.zip (pa_cons (pv 3) (pa_cons (pv 4) pa_nil))) (blkOk_by (own := [("one", 6), ("other", 7)]) (N := N_whole_product) (sc := defScope s_whole_product) (by decide +kernel)) (fun _ _ _ _ _ => (pg_tup rfl (pgs_cons (pg_name (i := 6) sc_whole_product.nd rfl (Or.inl rfl)) (pgs_cons (pg_name (i := 7) sc_whole_product.nd rfl (Or.inl rfl)) pgs_nil)))) (fun _ _ _ _ _ => pts_nil) (fun _ _ _ _ _ => (pe_op op_add (pv 6) (pe_op op_mulW (pv 5) (pv 7)))))))
        (pss_one (ps_ret (pv 3))))), ?_⟩
    refine ⟨_, rfl, a, rfl, ⟨_, LI.seq ha⟩, fun D nD => ?_⟩
    refine lc_listI (K := K) nD ha (by omega) (fun _ => 0) (fun _ => rfl) (fun x H5 RY _ _ hR => hR _ (Same.refl _)) (fun H1 s1 l1 => ?_)
    have ez : (k.map fun _ => (0 : Int)) = prodTo k l r 0 := by
      show _ = List.replicate k.length 0
      exact List.map_const' ..
    rw [ez] at l1
    refine ⟨_, rfl, _, rfl, a, b, k, l, rfl, s1 _ _ ha, s1 _ _ hb, hl, h1, h4, hk, hlb.mono (Nat.pow_le_pow_right (by decide) (by decide)), fun H2 p s2 lp => ?_⟩
    have sA : Same H H2 := s1.trans s2
    obtain ⟨as, la1, la2, la3⟩ := lp
    have lD : LI H2 D (prodTo k l r 0) := s2 _ _ l1
    refine ⟨_, rfl, p, c, _, _, rfl, .inl (.inl la1), LI.seq (sA _ _ hc), ?_⟩
    refine for_it (walk_zip (K := K) (a := p) (b := c) (xs := as.map V.ref) (ys := r.map V.int) (n := k.length) (by rw [List.length_map, List.length_map, la2, Rf.rowsI_length]; omega)) (fun i σ H' => ∃ (d : Addr) (y1 y2 : Option V), σ = [some (.ref a), some (.ref b), some (.ref c), some (.ref d), y1, y2, none, none] ∧ Same H2 H' ∧ LI H' d (prodTo k l r i)) ⟨D, none, none, rfl, Same.refl _, lD⟩ (fun i σ H' _ ⟨_, _, _, _, s3, _⟩ => ⟨.inl (.inl (s3 _ _ la1)), LI.seq (s3 _ _ (sA _ _ hc))⟩) ?_ ?_
    · rintro i x σ H' H3 hi ⟨d, y1, y2, rfl, s3, ld⟩ ⟨T, z1, z2, rfl, nT, rfl, hz1, hz2⟩
      obtain ⟨f0, hf, rfl⟩ := int_at hz2
      dsimp only at hz1
      rw [List.getElem?_map] at hz1
      cases hai : as[i]? with
      | none => rw [hai] at hz1; cases hz1
      | some g =>
        rw [hai] at hz1
        have e1 : z1 = .ref g := (Option.some.inj hz1).symm
        subst e1
        have erow : (Rf.rowsI k l)[i]? = some (itU k l i) := by
          show ((List.range k.length).map (itU k l))[i]? = _
          rw [List.getElem?_map, List.getElem?_range hi]
          rfl
        have lg : LI H' g (itU k l i) := s3 _ _ (la3 i g _ hai erow)
        have s4 : Same H' (upd H' T (.tup [.ref g, .int f0])) := same_new nT
        refine ⟨T, _, rfl, .inl (.inl upd_same), rfl, _, _, rfl, _, _, rfl, rfl, ?_⟩
        refine ⟨_, rfl, _, rfl, d, g, _, _, rfl, LI.seq (s4 _ _ ld), LI.seq (s4 _ _ lg), fun D2 nD2 => ?_⟩
        have hpb := prodTo_bd hk hrb hlb i (by omega)
        have hib := itU_bd hk hlb (j := i) (by omega)
        refine lc_zipI (K := K) nD2 (s4 _ _ ld) (s4 _ _ lg) (by rw [prodTo_length h1 hl i (by omega)]; omega) (fun u v => u + f0 * v) (fun _ _ => rfl) (fun u v H5 RY hu hv s5 hR => ?_) (fun H4 s6 l6 => ?_)
        · refine ⟨_, rfl, _, rfl, _, rfl, _, _, rfl, rfl, ?_, u, _, rfl, rfl, hR⟩
          have g1 := hrb f0 (mem_of_at hf)
          have g2 := hib v hv
          rw [← Nat.pow_add] at g2
          exact wide_mul (a := 2001) (b := 2019) (Nat.lt_of_le_of_lt g1 (Nat.pow_lt_pow_right (by decide) (by decide))) (Nat.lt_of_le_of_lt g2 (Nat.pow_lt_pow_right (by decide) (by decide))) (by decide) (by decide) (by decide)
        · rw [step_zip, ← prodTo_succ hf] at l6
          exact ⟨D2, _, _, rfl, s3.trans (s4.trans s6), l6⟩
    · rintro σ H' ⟨d, y1, y2, rfl, s3, ld⟩
      have e : prodTo k l r k.length = Rf.timesI k r l := by
        unfold prodTo Rf.timesI
        rw [← hrl, List.take_length]
      rw [e] at ld
      exact ⟨_, rfl, q H' d (sA.trans s3) ld⟩
end
end Rp

set_option Elab.async false
set_option linter.all false
set_option maxRecDepth 100000
set_option maxHeartbeats 2000000
namespace Rp
open PySem PySem.Spec PyProof.Rows L2
def rLenK (K : PySem.W.Frag) : List V → Hp → VK → Prop := fun xs H Q => ∃ p ys, xs = [V.ref p] ∧ (SqL K H p ys ∨ SqT K H p ys) ∧ Q (.int (ys.length : Int)) H
theorem none_of_same {H H' : Hp} {p : Addr} (s : Same H H') (h : H' p = none) : H p = none := by
  cases e : H p with
  | none => rfl
  | some x => rw [s _ _ e] at h; cases h
theorem lcm_lt {v : Rf.L} (h : Sm v) : ((Rf.lcmOf v : Nat) : Int).natAbs < 2 ^ 241 := by
  rw [Int.natAbs_natCast]
  exact Nat.lt_of_le_of_lt (lcm_all h) (by decide)
theorem lcm_mul_ne (v u : Rf.L) : ((Rf.lcmOf v : Nat) : Int) * ((Rf.lcmOf u : Nat) : Int) ≠ 0 := by
  have h1 := Rf.lcmOf_ne v
  have h2 := Rf.lcmOf_ne u
  exact Int.mul_ne_zero (by omega) (by omega)
theorem lt300 {z : Int} (h : z.natAbs ≤ 2 ^ 300) : z.natAbs < 2 ^ 301 := Nat.lt_of_le_of_lt h (Nat.pow_lt_pow_right (by decide) (by decide))
theorem lt_pow {n a b : Nat} (h : n < 2 ^ a) (hab : a ≤ b) : n < 2 ^ b := Nat.lt_of_lt_of_le h (Nat.pow_le_pow_right (by decide) hab)
theorem sm_neg {v : Rf.L} (h : Sm v) : Sm (Rf.minusR v) := by
  refine ⟨by simp [Rf.minusR]; exact h.len, fun q hq => ?_, fun q hq => ?_⟩
  · unfold Rf.minusR at hq
    obtain ⟨x, hx, rfl⟩ := List.mem_map.mp hq
    exact h.den x hx
  · unfold Rf.minusR at hq
    obtain ⟨x, hx, rfl⟩ := List.mem_map.mp hq
    rw [Rat.neg_num, Int.natAbs_neg]
    exact h.num x hx
section
variable {P : Program} {w : World} {K : PySem.W.Frag} {mg : Str → Option Value} {base : Heap}
abbrev s_sum_of : Stmt := topS 5
abbrev N_sum_of : List Str := ["left", "right", "left_above", "left_below", "right_above", "right_below", "above", "one", "other"]
theorem sc_sum_of : FnScope N_sum_of ["left", "right"] (defScope s_sum_of) := ⟨rfl, rfl, rfl, by decide +kernel, rfl, by decide +kernel, by decide +kernel⟩
def spSum : Sp := fun vs H Q _ => ∃ (a b : Addr) (u v : Rf.L), vs = [.ref a, .ref b] ∧ LI H a (Rf.placesQ u) ∧ LI H b (Rf.placesQ v) ∧ Sm u ∧ Sm v ∧ u.length = v.length ∧ ∀ H' p, Same H H' → H p = none → LI H' p (Rf.placesQ (Rf.plusR u v)) → Q (.ref p) H'
theorem ok_sum_of {f : Addr} {fd : FuncData} (F : Fun K "sum_of" "sum_of" s_sum_of f fd) (B : Bt mg) (C_over_one_below : CalN P w K mg base 2 "over_one_below" ["places"] spOver) (C_places_of : CalN P w K mg base 3 "places_of" ["above", "below"] spPlaces) : FnOk P w K mg base CX0 4 f fd ["left", "right"] spSum := by
  obtain ⟨_, g_over_one_below, _, G_over_one_below, k_over_one_below, b_over_one_below⟩ := C_over_one_below
  obtain ⟨_, g_places_of, _, G_places_of, k_places_of, b_places_of⟩ := C_places_of
  refine F.ok sc_sum_of (fun vs H Q E h => ?_) (fun cdv A outer s H vs Q E hr h => ?_)
  · obtain ⟨a, b, u, v, rfl, _⟩ := h
    rfl
  · obtain ⟨a, b, u, v, rfl, ha, hb, hu, hv, hl, q⟩ := h
    refine ⟨_, (pss_cons (ps_asg (pe_call G_over_one_below (hr.mono (by omega)) (by rfl) g_over_one_below k_over_one_below b_over_one_below .nil pass0 (pa_cons (pv 0) pa_nil)) (pg_tup rfl (pgs_cons (pg_name (i := 2) sc_sum_of.nd rfl (Or.inl rfl)) (pgs_cons (pg_name (i := 3) sc_sum_of.nd rfl (Or.inr rfl)) pgs_nil))))
        (pss_cons (ps_asg (pe_call G_over_one_below (hr.mono (by omega)) (by rfl) g_over_one_below k_over_one_below b_over_one_below .nil pass0 (pa_cons (pv 1) pa_nil)) (pg_tup rfl (pgs_cons (pg_name (i := 4) sc_sum_of.nd rfl (Or.inl rfl)) (pgs_cons (pg_name (i := 5) sc_sum_of.nd rfl (Or.inr rfl)) pgs_nil))))
        (pss_cons (ps_setLc (own := [("one", 7), ("other", 8)]) (i := 6) (g := gTup K 2 (gCons (gName 7) (gCons (gName 8) gNil))) (tt := tYes) rfl sc_sum_of.nd rfl rfl (sw_true rfl rfl rfl (by decide +kernel)) (pi_zip (by rfl) B.zip (pa_cons (pv 2) (pa_cons (pv 4) pa_nil))) (blkOk_by (own := [("one", 7), ("other", 8)]) (N := N_sum_of) (sc := defScope s_sum_of) (by decide +kernel)) (fun _ _ _ _ _ => (pg_tup rfl (pgs_cons (pg_name (i := 7) sc_sum_of.nd rfl (Or.inl rfl)) (pgs_cons (pg_name (i := 8) sc_sum_of.nd rfl (Or.inl rfl)) pgs_nil)))) (fun _ _ _ _ _ => pts_nil) (fun _ _ _ _ _ => (pe_op op_add (pe_op op_mulW (pv 7) (pv 5)) (pe_op op_mulW (pv 8) (pv 3)))))
        (pss_one (ps_ret (pe_call G_places_of (hr.mono (by omega)) (by rfl) g_places_of k_places_of b_places_of .nil pass0 (pa_cons (pv 6) (pa_cons (pe_op op_mulW (pv 3) (pv 5)) pa_nil)))))))), ?_⟩
    refine ⟨_, rfl, a, u, rfl, ha, hu, fun H1 t1 p1 s1 ht1 hp1 => ?_⟩
    refine ⟨t1, _, rfl, .inl (.inl ht1), rfl, _, _, rfl, _, _, rfl, rfl, ?_⟩
    refine ⟨_, rfl, b, v, rfl, s1 _ _ hb, hv, fun H2 t2 p2 s2 ht2 hp2 => ?_⟩
    refine ⟨t2, _, rfl, .inl (.inl ht2), rfl, _, _, rfl, _, _, rfl, rfl, ?_⟩
    have hp1' : LI H2 p1 (Rf.abvOf u) := s2 _ _ hp1
    refine ⟨_, rfl, _, rfl, p1, p2, _, _, rfl, LI.seq hp1', LI.seq hp2, fun D nD => ?_⟩
    refine lc_zipI (K := K) nD hp1' hp2 (by rw [Rf.abv_length]; have := hu.len; omega) (fun x y => x * ((Rf.lcmOf v : Nat) : Int) + y * ((Rf.lcmOf u : Nat) : Int)) (fun _ _ => rfl) (fun x y H5 RY hx hy s5 hR => ?_) (fun H4 s4 l4 => ?_)
    · have g1 := lt300 (abv_bd hu x hx)
      have g2 := lt300 (abv_bd hv y hy)
      refine ⟨_, rfl, _, rfl, _, _, rfl, rfl, wide_mul g1 (lcm_lt hv) (by decide) (by decide) (by decide), _, rfl, _, rfl, _, _, rfl, rfl, wide_mul g2 (lcm_lt hu) (by decide) (by decide) (by decide), _, _, rfl, rfl, hR⟩
    · refine ⟨_, rfl, _, rfl, _, rfl, _, _, rfl, rfl, wide_mul (lcm_lt hu) (lcm_lt hv) (by decide) (by decide) (by decide), ?_⟩
      refine ⟨D, _, _, rfl, l4, ?_, lcm_mul_ne u v, ?_, fun H5 p s5 np lp => ?_⟩
      · rw [List.length_map, List.length_zip, Rf.abv_length]
        have := hu.len; omega
      · exact lt_pow (wide_lt (lcm_lt hu) (lcm_lt hv)) (by decide)
      · rw [Rf.sum_places u v hl] at lp
        exact q H5 p (s1.trans (s2.trans (s4.trans s5))) (none_of_same (s1.trans (s2.trans s4)) np) lp
abbrev s_difference_of : Stmt := topS 6
abbrev N_difference_of : List Str := ["left", "right", "above", "below"]
theorem sc_difference_of : FnScope N_difference_of ["left", "right"] (defScope s_difference_of) := ⟨rfl, rfl, rfl, by decide +kernel, rfl, by decide +kernel, by decide +kernel⟩
def spDiff : Sp := fun vs H Q _ => ∃ (a b : Addr) (u v : Rf.L), vs = [.ref a, .ref b] ∧ LI H a (Rf.placesQ u) ∧ LI H b (Rf.placesQ v) ∧ Sm u ∧ Sm v ∧ u.length = v.length ∧ ∀ H' p, Same H H' → H p = none → LI H' p (Rf.placesQ (Rf.plusR u (Rf.minusR v))) → Q (.ref p) H'
theorem ok_difference_of {f : Addr} {fd : FuncData} (F : Fun K "difference_of" "difference_of" s_difference_of f fd) (B : Bt mg) (C_over_one_below : CalN P w K mg base 2 "over_one_below" ["places"] spOver) (C_places_of : CalN P w K mg base 3 "places_of" ["above", "below"] spPlaces) (C_sum_of : CalN P w K mg base 4 "sum_of" ["left", "right"] spSum) : FnOk P w K mg base CX0 5 f fd ["left", "right"] spDiff := by
  obtain ⟨_, g_over_one_below, _, G_over_one_below, k_over_one_below, b_over_one_below⟩ := C_over_one_below
  obtain ⟨_, g_places_of, _, G_places_of, k_places_of, b_places_of⟩ := C_places_of
  obtain ⟨_, g_sum_of, _, G_sum_of, k_sum_of, b_sum_of⟩ := C_sum_of
  refine F.ok sc_difference_of (fun vs H Q E h => ?_) (fun cdv A outer s H vs Q E hr h => ?_)
  · obtain ⟨a, b, u, v, rfl, _⟩ := h
    rfl
  · obtain ⟨a, b, u, v, rfl, ha, hb, hu, hv, hl, q⟩ := h
    refine ⟨_, (pss_cons (ps_asg (pe_call G_over_one_below (hr.mono (by omega)) (by rfl) g_over_one_below k_over_one_below b_over_one_below .nil pass0 (pa_cons (pv 1) pa_nil)) (pg_tup rfl (pgs_cons (pg_name (i := 2) sc_difference_of.nd rfl (Or.inl rfl)) (pgs_cons (pg_name (i := 3) sc_difference_of.nd rfl (Or.inl rfl)) pgs_nil))))
        (pss_one (ps_ret (pe_call G_sum_of (hr.mono (by omega)) (by rfl) g_sum_of k_sum_of b_sum_of .nil pass0 (pa_cons (pv 0) (pa_cons (pe_call G_places_of (hr.mono (by omega)) (by rfl) g_places_of k_places_of b_places_of .nil pass0 (pa_cons (pv 2) (pa_cons (pe_un un_neg (pv 3)) pa_nil))) pa_nil)))))), ?_⟩
    refine ⟨_, rfl, b, v, rfl, hb, hv, fun H1 t1 p1 s1 ht1 hp1 => ?_⟩
    refine ⟨t1, _, rfl, .inl (.inl ht1), rfl, _, _, rfl, _, _, rfl, rfl, ?_⟩
    have hne := Rf.lcmOf_ne v
    refine ⟨_, rfl, _, rfl, _, rfl, _, rfl, p1, _, _, rfl, hp1, (by rw [Rf.abv_length]; have := hv.len; omega), (by omega), ?_, fun H2 p2 s2 np2 lp => ?_⟩
    · rw [Int.natAbs_neg]
      exact lt_pow (lcm_lt hv) (by decide)
    · rw [Rf.neg_places] at lp
      refine ⟨a, p2, u, Rf.minusR v, rfl, s2 _ _ (s1 _ _ ha), lp, hu, sm_neg hv, by simp [Rf.minusR, hl], fun H3 p3 s3 np3 lp3 => ?_⟩
      exact q H3 p3 (s1.trans (s2.trans s3)) (none_of_same (s1.trans s2) np3) lp3
abbrev s_product_of : Stmt := topS 10
abbrev N_product_of : List Str := ["coefficients", "left", "right", "left_above", "left_below", "right_above", "right_below"]
theorem sc_product_of : FnScope N_product_of ["coefficients", "left", "right"] (defScope s_product_of) := ⟨rfl, rfl, rfl, by decide +kernel, rfl, by decide +kernel, by decide +kernel⟩
def spProdOf : Sp := fun vs H Q _ => ∃ (c a b : Addr) (k : List Int) (u v : Rf.L), vs = [.ref c, .ref a, .ref b] ∧ LI H c k ∧ LI H a (Rf.placesQ u) ∧ LI H b (Rf.placesQ v) ∧ Sm u ∧ Sm v ∧ Rf.Deg k ∧ Rf.Bd 20 k ∧ u.length = k.length ∧ v.length = k.length ∧ ∀ H' p, Same H H' → H p = none → LI H' p (Rf.placesQ (Rf.timesR k u v)) → Q (.ref p) H'
theorem ok_product_of {f : Addr} {fd : FuncData} (F : Fun K "product_of" "product_of" s_product_of f fd) (B : Bt mg) (C_over_one_below : CalN P w K mg base 2 "over_one_below" ["places"] spOver) (C_places_of : CalN P w K mg base 3 "places_of" ["above", "below"] spPlaces) (C_whole_product : CalN P w K mg base 3 "whole_product" ["coefficients", "left", "right"] spProd) : FnOk P w K mg base CX0 4 f fd ["coefficients", "left", "right"] spProdOf := by
  obtain ⟨_, g_over_one_below, _, G_over_one_below, k_over_one_below, b_over_one_below⟩ := C_over_one_below
  obtain ⟨_, g_places_of, _, G_places_of, k_places_of, b_places_of⟩ := C_places_of
  obtain ⟨_, g_whole_product, _, G_whole_product, k_whole_product, b_whole_product⟩ := C_whole_product
  refine F.ok sc_product_of (fun vs H Q E h => ?_) (fun cdv A outer s H vs Q E hr h => ?_)
  · obtain ⟨c, a, b, k, u, v, rfl, _⟩ := h
    rfl
  · obtain ⟨c, a, b, k, u, v, rfl, hc, ha, hb, hu, hv, hd, hk, hul, hvl, q⟩ := h
    refine ⟨_, (pss_cons (ps_asg (pe_call G_over_one_below (hr.mono (by omega)) (by rfl) g_over_one_below k_over_one_below b_over_one_below .nil pass0 (pa_cons (pv 1) pa_nil)) (pg_tup rfl (pgs_cons (pg_name (i := 3) sc_product_of.nd rfl (Or.inl rfl)) (pgs_cons (pg_name (i := 4) sc_product_of.nd rfl (Or.inl rfl)) pgs_nil))))
        (pss_cons (ps_asg (pe_call G_over_one_below (hr.mono (by omega)) (by rfl) g_over_one_below k_over_one_below b_over_one_below .nil pass0 (pa_cons (pv 2) pa_nil)) (pg_tup rfl (pgs_cons (pg_name (i := 5) sc_product_of.nd rfl (Or.inl rfl)) (pgs_cons (pg_name (i := 6) sc_product_of.nd rfl (Or.inl rfl)) pgs_nil))))
        (pss_one (ps_ret (pe_call G_places_of (hr.mono (by omega)) (by rfl) g_places_of k_places_of b_places_of .nil pass0 (pa_cons (pe_call G_whole_product (hr.mono (by omega)) (by rfl) g_whole_product k_whole_product b_whole_product .nil pass0 (pa_cons (pv 0) (pa_cons (pv 3) (pa_cons (pv 5) pa_nil)))) (pa_cons (pe_op op_mulW (pv 4) (pv 6)) pa_nil))))))), ?_⟩
    refine ⟨_, rfl, a, u, rfl, ha, hu, fun H1 t1 p1 s1 ht1 hp1 => ?_⟩
    refine ⟨t1, _, rfl, .inl (.inl ht1), rfl, _, _, rfl, _, _, rfl, rfl, ?_⟩
    refine ⟨_, rfl, b, v, rfl, s1 _ _ hb, hv, fun H2 t2 p2 s2 ht2 hp2 => ?_⟩
    refine ⟨t2, _, rfl, .inl (.inl ht2), rfl, _, _, rfl, _, _, rfl, rfl, ?_⟩
    have h1 : 1 ≤ k.length := by have := hd.1; omega
    refine ⟨_, rfl, _, rfl, _, rfl, c, p1, p2, k, Rf.abvOf u, Rf.abvOf v, rfl, s2 _ _ (s1 _ _ hc), s2 _ _ hp1, hp2, by rw [Rf.abv_length, hul], by rw [Rf.abv_length, hvl], h1, hd.2, hk, (abv_bd hu).mono (Nat.pow_le_pow_right (by decide) (by decide)), (abv_bd hv).mono (Nat.pow_le_pow_right (by decide) (by decide)), fun H3 p3 s3 lp3 => ?_⟩
    refine ⟨_, rfl, _, rfl, _, _, rfl, rfl, wide_mul (lcm_lt hu) (lcm_lt hv) (by decide) (by decide) (by decide), ?_⟩
    refine ⟨p3, _, _, rfl, lp3, ?_, lcm_mul_ne u v, lt_pow (wide_lt (lcm_lt hu) (lcm_lt hv)) (by decide), fun H4 p4 s4 np4 lp4 => ?_⟩
    · have e : (Rf.timesI k (Rf.abvOf v) (Rf.abvOf u)).length = k.length := by
        rw [← Rf.castL_length, ← Rf.times_cast]
        exact Rf.times_length h1 _ (by rw [Rf.castL_length, Rf.abv_length, hul])
      rw [e]; have := hd.2; omega
    · rw [Rf.times_places hd u v hul hvl] at lp4
      exact q H4 p4 (s1.trans (s2.trans (s3.trans s4))) (none_of_same (s1.trans (s2.trans s3)) np4) lp4
end
end Rp

set_option Elab.async false
set_option linter.all false
set_option maxRecDepth 100000
set_option maxHeartbeats 2000000
namespace Rp
open PySem PySem.Spec PyProof.Rows L2
/-- a comprehension that makes lists of whole numbers -/
theorem lc_rows {J : It} {n : Nat} {G : Hp → Prop} {Y : Nat → Hp → V → Hp → Prop} (w : Walk J n G Y) {g : TG} {te : TE} {vs : List Nat} {σ : L2.St} {H1 : Hp} {D : Addr} {Qd : Hp → Prop} (hD : H1 D = none) (hn : n ≤ 1000) (ys : Nat → List Int) (hne : ∀ i, i < n → ys i ≠ [])
    (hG : ∀ H, Same H1 H → G H)
    (hs : ∀ i x H H', i < n → Same H1 H → Y i H x H' → ∀ (R : Hp → Prop) (RY : V → Hp → Prop), (∀ H4 p, Same H H4 → LI H4 p (ys i) → RY (.ref p) H4) →
      g x (wipe σ vs) H' fun σ2 H2 => wipe σ2 vs = wipe σ vs ∧ tYes σ2 H2 fun b H3 => if b = true then te σ2 H3 RY else R H3)
    (hd : ∀ H, Same H1 H → LL H D ((List.range n).map ys) → Qd H) : LcG J g tYes te vs σ H1 D Qd := by
  refine lc_it w (fun i H => Same H1 H ∧ ∃ as : List Addr, H D = some (.lst (as.map V.ref)) ∧ as.length = i ∧ ∀ (j : Nat) (c : Addr), as[j]? = some c → LI H c (ys j) ∧ c ≠ D) ⟨same_new hD, [], upd_same, rfl, fun j c hc => by simp at hc⟩ (fun i H _ p => hG H p.1) (fun i x H H' hi p y => ?_) (fun H p => ?_)
  · obtain ⟨s1, as, h1, h2, h3⟩ := p
    refine hs i x H H' hi s1 y _ _ (fun H4 p s4 lp => ?_)
    have hpD : p ≠ D := LI_ne lp (s4 _ _ h1) (hne i hi)
    refine ⟨_, s4 _ _ h1, by rw [List.length_map]; exact small1000 (by omega), same_store hD (s1.trans s4), as ++ [p], ?_, by simp [h2], fun j c hc => ?_⟩
    · rw [upd_same, List.map_append]; rfl
    · by_cases hj : j < as.length
      · rw [List.getElem?_append_left hj] at hc
        obtain ⟨g1, g2⟩ := h3 j c hc
        refine ⟨?_, g2⟩
        show (upd H4 D _) c = _
        rw [upd_ne g2]
        exact s4 _ _ g1
      · rw [List.getElem?_append_right (by omega)] at hc
        have hj2 : j = i := by
          have := (List.getElem?_eq_some_iff.mp hc).1
          simp at this; omega
        have e4 : j - as.length = 0 := by omega
        rw [e4] at hc
        have e3 : p = c := Option.some.inj hc
        subst e3 hj2
        refine ⟨?_, hpD⟩
        show (upd H4 D _) p = _
        rw [upd_ne hpD]
        exact lp
  · obtain ⟨s1, as, h1, h2, h3⟩ := p
    refine hd H s1 ⟨as, h1, by simp [h2], fun i a r ha hr => ?_⟩
    have hi : i < n := by
      have := (List.getElem?_eq_some_iff.mp ha).1
      omega
    rw [List.getElem?_map, List.getElem?_range hi] at hr
    have := Option.some.inj hr
    rw [← this]
    exact (h3 i a ha).1
theorem cut_to (xs : List V) (k : Nat) : cutV xs none (some (k : Int)) = xs.take k := by
  unfold cutV
  rw [HT.sIx_none, HT.sIx_nat, List.drop_zero, Nat.sub_zero]
  by_cases h : k ≤ xs.length
  · rw [Nat.min_eq_left h]
  · rw [Nat.min_eq_right (by omega), List.take_length, List.take_of_length_le (by omega)]
theorem cut_from (xs : List V) (k : Nat) : cutV xs (some (k : Int)) none = xs.drop k := by
  unfold cutV
  rw [HT.sIx_none, HT.sIx_nat]
  by_cases h : k ≤ xs.length
  · rw [Nat.min_eq_left h, List.take_of_length_le (by simp)]
  · rw [Nat.min_eq_right (by omega), List.drop_length, List.drop_of_length_le (by omega), List.take_nil]
theorem LL.at {H : Hp} {p : Addr} {rows : List (List Int)} (h : LL H p rows) {i : Nat} {r : List Int} (hr : rows[i]? = some r) : ∃ (as : List Addr) (a : Addr), H p = some (.lst (as.map V.ref)) ∧ as[i]? = some a ∧ LI H a r := by
  obtain ⟨as, h1, h2, h3⟩ := h
  have hi : i < rows.length := (List.getElem?_eq_some_iff.mp hr).1
  exact ⟨as, as[i]'(by omega), h1, List.getElem?_eq_getElem (by omega), h3 i _ r (List.getElem?_eq_getElem (by omega)) hr⟩
/-- what a determinant's first terms make -/
def detTo (n : Nat) (r : List Int) (s : List (List Int)) (i : Nat) : Int := ((r.zipIdx.map fun x => (if x.2 % 2 = 0 then x.1 else -x.1) * (Rf.detI n (s.map fun q => q.eraseIdx x.2))).take i).foldl (· + ·) 0
theorem detTo_succ {n : Nat} {r : List Int} {s : List (List Int)} {i : Nat} {f : Int} (h : r[i]? = some f) : detTo n r s (i + 1) = detTo n r s i + (if i % 2 = 0 then f else -f) * (Rf.detI n (s.map fun q => q.eraseIdx i)) := by
  unfold detTo
  have e : (r.zipIdx.map fun x => (if x.2 % 2 = 0 then x.1 else -x.1) * (Rf.detI n (s.map fun q => q.eraseIdx x.2)))[i]? = some ((if i % 2 = 0 then f else -f) * (Rf.detI n (s.map fun q => q.eraseIdx i))) := by
    rw [List.getElem?_map, List.getElem?_zipIdx, h]
    simp
  rw [List.take_add_one, e, List.foldl_append]
  rfl
theorem detTo_all (n : Nat) (r : List Int) (s : List (List Int)) : detTo n r s r.length = Rf.detI (n + 1) (r :: s) := by
  unfold detTo
  rw [List.take_of_length_le (by simp)]
  rfl
/-- a determinant's size -/
theorem detI_bd {M : Nat} : ∀ (n : Nat) (rows : List (List Int)), (∀ r ∈ rows, Rf.Bd M r ∧ r.length ≤ 4) → (Rf.detI n rows).natAbs ≤ (4 * M + 1) ^ n
  | 0, _, _ => by show (1 : Int).natAbs ≤ 1; decide
  | n + 1, [], _ => by
    show (1 : Int).natAbs ≤ _
    exact Nat.one_le_pow _ _ (by omega)
  | n + 1, r :: s, h => by
    obtain ⟨h1, h2⟩ := h r (List.mem_cons_self ..)
    have hb : Rf.Bd (M * (4 * M + 1) ^ n) (r.zipIdx.map fun x => (if x.2 % 2 = 0 then x.1 else -x.1) * (Rf.detI n (s.map fun q => q.eraseIdx x.2))) := by
      intro z hz
      obtain ⟨⟨x, i⟩, hx, rfl⟩ := List.mem_map.mp hz
      have g1 := h1 x (List.fst_mem_of_mem_zipIdx hx)
      have g2 : (if i % 2 = 0 then x else -x).natAbs ≤ M := by split <;> omega
      refine Rf.natAbs_mul_le g2 (detI_bd n _ fun q hq => ?_)
      obtain ⟨q0, hq0, rfl⟩ := List.mem_map.mp hq
      obtain ⟨g3, g4⟩ := h q0 (List.mem_cons_of_mem _ hq0)
      refine ⟨fun z hz => g3 z (List.mem_of_mem_eraseIdx hz), ?_⟩
      have h9 := List.length_eraseIdx_le q0 i
      show (q0.eraseIdx i).length ≤ 4
      omega
    have := Rf.sum_bd _ 0 0 (by simp) hb
    rw [List.length_map, List.length_zipIdx] at this
    show (List.foldl (· + ·) (0 : Int) _).natAbs ≤ _
    have h3 : r.length * (M * (4 * M + 1) ^ n) ≤ 4 * (M * (4 * M + 1) ^ n) := Nat.mul_le_mul_right _ h2
    have e : (4 * M + 1) ^ (n + 1) = 4 * (M * (4 * M + 1) ^ n) + (4 * M + 1) ^ n := by
      rw [Nat.pow_succ, Nat.mul_comm, Nat.add_mul, Nat.one_mul, Nat.mul_assoc]
    omega
section
variable {P : Program} {w : World} {K : PySem.W.Frag} {mg : Str → Option Value} {base : Heap}
abbrev s_determinant : Stmt := topS 11
abbrev N_determinant : List Str := ["rows", "total", "sign", "column", "factor", "smaller", "row"]
theorem sc_determinant : FnScope N_determinant ["rows"] (defScope s_determinant) := ⟨rfl, rfl, rfl, by decide +kernel, rfl, by decide +kernel, by decide +kernel⟩
def spDet (n : Nat) : Sp := fun vs H Q _ => ∃ (a : Addr) (rows : List (List Int)), vs = [.ref a] ∧ LL H a rows ∧ rows.length = n ∧ (∀ r ∈ rows, r.length = n ∧ Rf.Bd (2 ^ 1000) r) ∧ ∀ H', Same H H' → Q (.int (Rf.detI n rows)) H'
theorem ok_determinant {f : Addr} {fd : FuncData} (F : Fun K "determinant" "determinant" s_determinant f fd) (B : Bt mg) (g_determinant : mg "determinant" = some (.ref f)) (b_determinant : Binds K fd ["rows"] []) : ∀ n, n ≤ 4 → FnOk P w K mg base CX0 (n + 1) f fd ["rows"] (spDet n) := by
  have k_determinant := F.kp
  intro n
  induction n with
  | zero =>
    intro _
    refine F.ok sc_determinant (fun vs H Q E h => ?_) (fun cdv A outer s H vs Q E hr h => ?_)
    · obtain ⟨a, rows, rfl, _⟩ := h
      rfl
    · obtain ⟨a, rows, rfl, ⟨as, h1, h2, _⟩, hl, _, q⟩ := h
      refine ⟨_, (pss_cons (ps_if (pt_not (pt_truth (pv 0) (by intro _; rfl))) (pss_one (ps_ret pe_int)) pss_nil) pss_never), ?_⟩
      have e : as = [] := by rw [hl] at h2; simpa using h2
      subst e
      refine ⟨_, rfl, false, .inl ⟨_, .inl (.inl h1), rfl⟩, ?_⟩
      have e2 : rows = [] := by simpa using hl
      exact q H (Same.refl _)
  | succ n ih =>
    intro hn
    have G_determinant := ih (by omega)
    refine F.ok sc_determinant (fun vs H Q E h => ?_) (fun cdv A outer s H vs Q E hr h => ?_)
    · obtain ⟨a, rows, rfl, _⟩ := h
      rfl
    · obtain ⟨a, rows, rfl, hLL, hl, hrb, q⟩ := h
      refine ⟨_, (pss_cons (ps_if (pt_not (pt_truth (pv 0) (by intro _; rfl))) (pss_one (ps_ret pe_int)) pss_nil)
        (pss_cons (ps_set (i := 1) sc_determinant.nd rfl (Or.inl rfl) pe_int)
        (pss_cons (ps_set (i := 2) sc_determinant.nd rfl (Or.inl rfl) pe_int)
        (pss_cons (ps_for PassesOwn.never rfl (pi_enum (by rfl) B.enumerate (pa_cons (pe_ix (show IxR _ (rIxL K) from ix_list) (pv 0) pe_int (fun _ _ => rfl)) pa_nil)) (pg_tup rfl (pgs_cons (pg_name (i := 3) sc_determinant.nd rfl (Or.inr rfl)) (pgs_cons (pg_name (i := 4) sc_determinant.nd rfl (Or.inl rfl)) pgs_nil))) (pss_cons (ps_setLc (own := [("row", 6)]) (i := 5) (g := gName 6) (tt := tYes) rfl sc_determinant.nd rfl rfl (sw_true rfl rfl rfl (by decide +kernel)) (pi_list (pe_slice (show SlR _ (rSlL K) from sl_list) (pv 0) (po_some pe_int) po_none)) (blkOk_by (own := [("row", 6)]) (N := N_determinant) (sc := defScope s_determinant) (by decide +kernel)) (fun _ _ _ _ _ => (pg_name (i := 6) sc_determinant.nd rfl (Or.inl rfl))) (fun _ _ _ _ _ => pts_nil) (fun _ _ _ _ _ => (pe_op op_cat (pe_slice (show SlR _ (rSlL K) from sl_list) (pv 6) po_none (po_some (pv 3))) (pe_slice (show SlR _ (rSlL K) from sl_list) (pv 6) (po_some (pe_op op_add (pv 3) pe_int)) po_none))))
        (pss_cons (ps_set (i := 1) sc_determinant.nd rfl (Or.inl rfl) (pe_op op_add (pv 1) (pe_op op_mulW (pe_op op_mulW (pv 2) (pv 4)) (pe_call G_determinant (hr.mono (by omega)) (by rfl) g_determinant k_determinant b_determinant .nil pass0 (pa_cons (pv 5) pa_nil)))))
        (pss_one (ps_set (i := 2) sc_determinant.nd rfl (Or.inl rfl) (pe_un un_neg (pv 2)))))))
        (pss_one (ps_ret (pv 1))))))), ?_⟩
      obtain ⟨r, s0, rfl⟩ : ∃ r s0, rows = r :: s0 := by
        cases rows with
        | nil => simp at hl
        | cons r s0 => exact ⟨r, s0, rfl⟩
      obtain ⟨as0, h1, h2, h3⟩ := hLL
      obtain ⟨a0, as, rfl⟩ : ∃ a0 as, as0 = a0 :: as := by
        cases as0 with
        | nil => simp at h2
        | cons r s0 => exact ⟨r, s0, rfl⟩
      have hsl : s0.length = n := by simpa using hl
      have hal : as.length = n := by simp at h2; omega
      have lr : LI H a0 r := h3 0 a0 r rfl rfl
      obtain ⟨hrl, hrB⟩ := hrb r (List.mem_cons_self ..)
      have hsb : ∀ x ∈ s0, x.length = n + 1 ∧ Rf.Bd (2 ^ 1000) x := fun x hx => hrb x (List.mem_cons_of_mem _ hx)
      refine ⟨_, rfl, true, .inl ⟨_, .inl (.inl h1), rfl⟩, ?_⟩
      refine ⟨_, rfl, a, _, 0, .ref a0, rfl, rfl, .inl (.inl h1), atI_nat (j := 0) rfl, ?_⟩
      refine ⟨a0, _, rfl, LI.seq lr, ?_⟩
      refine for_it (walk_enum (K := K) (a := a0) (xs := r.map V.int)) (fun i σ H' => ∃ y3 y4 y5, σ = [some (.ref a), some (.int (detTo n r s0 i)), some (.int (if i % 2 = 0 then 1 else -1)), y3, y4, y5, none] ∧ Same H H') ⟨none, none, none, rfl, Same.refl _⟩ (fun i σ H' _ ⟨_, _, _, _, s2⟩ => LI.seq (s2 _ _ lr)) ?_ ?_
      · rintro i x σ H' H3 hi ⟨y3, y4, y5, rfl, s2⟩ ⟨T, z1, z2, rfl, nT, rfl, hz1, hz2⟩
        have e1 : z1 = .int (i : Int) := (Option.some.inj hz1).symm
        subst e1
        obtain ⟨f0, hf, rfl⟩ := int_at hz2
        have s3 : Same H' (upd H' T (.tup [.int (i : Int), .int f0])) := same_new nT
        refine ⟨T, _, rfl, .inl (.inl upd_same), rfl, _, _, rfl, _, _, rfl, rfl, ?_⟩
        generalize hH3 : upd H' T (.tup [.int (i : Int), .int f0]) = H3 at *
        have h1' : H3 a = some (.lst ((a0 :: as).map V.ref)) := s3 _ _ (s2 _ _ h1)
        refine ⟨_, rfl, 1, rfl, a, _, rfl, .inl (.inl h1'), fun c nc => ?_⟩
        have ec : cutV ((a0 :: as).map V.ref) (some 1) none = as.map V.ref := cut_from ((a0 :: as).map V.ref) 1
        rw [ec]
        have s4 : Same H3 (upd H3 c (.lst (as.map V.ref))) := same_new nc
        have lc : (upd H3 c (.lst (as.map V.ref))) c = some (.lst (as.map V.ref)) := upd_same
        generalize hH4 : upd H3 c (.lst (as.map V.ref)) = H4 at *
        refine ⟨c, rfl, ⟨_, .inl (.inl lc)⟩, fun D nD => ?_⟩
        refine lc_rows (walk_list (K := K) (a := c) (xs := as.map V.ref)) nD (by rw [List.length_map]; omega) (fun j => (s0.getD j []).eraseIdx i) (fun j hj => ?_) (fun H5 s5 => .inl (.inl (s5 _ _ lc))) ?_ (fun H5 s5 l5 => ?_)
        · rw [List.length_map] at hj
          have hj2 : s0[j]? = some (s0[j]'(by omega)) := List.getElem?_eq_getElem (by omega)
          have := (hsb _ (List.getElem_mem (by omega : j < s0.length))).1
          intro z
          have h9 := congrArg List.length z
          rw [List.getD_eq_getElem?_getD, hj2, Option.getD_some, List.length_eraseIdx, this] at h9
          simp at h9
          split at h9 <;> omega
        · rintro j x H5 H6 hj s5 ⟨rfl, hy⟩ R RY hk
          rw [List.length_map] at hj
          have hj2 : s0[j]? = some (s0[j]'(by omega)) := List.getElem?_eq_getElem (by omega)
          rw [List.getElem?_map] at hy
          have hj3 : as[j]? = some (as[j]'(by omega)) := List.getElem?_eq_getElem (by omega)
          rw [hj3] at hy
          have ex : x = .ref (as[j]'(by omega)) := (Option.some.inj hy).symm
          subst ex
          have hl2 := (hsb _ (List.getElem_mem (by omega : j < s0.length))).1
          have lq : LI H (as[j]'(by omega)) (s0[j]'(by omega)) := h3 (j + 1) _ _ (by simpa using hj3) (by simpa using hj2)
          have lq5 := s5 _ _ (s4 _ _ (s3 _ _ (s2 _ _ lq)))
          refine ⟨rfl, ?_⟩
          refine ⟨_, rfl, _, rfl, _, rfl, _, _, rfl, LI.seq lq5, fun p np => ?_⟩
          rw [cut_to]
          have s6 : Same _ (upd _ p (.lst ((List.map V.int (s0[j]'(by omega))).take i))) := same_new np
          refine ⟨_, rfl, _, rfl, _, _, rfl, rfl, _, rfl, _, _, rfl, LI.seq (s6 _ _ lq5), fun p2 np2 => ?_⟩
          have ec2 : cutV (List.map V.int (s0[j]'(by omega))) (some ((i : Int) + 1)) none = (List.map V.int (s0[j]'(by omega))).drop (i + 1) := cut_from _ (i + 1)
          rw [ec2]
          have hpp : p ≠ p2 := by
            intro z; subst z
            rw [upd_same] at np2; cases np2
          refine ⟨p, p2, _, _, rfl, rfl, by rw [upd_ne hpp]; exact upd_same, upd_same, ?_, fun p3 np3 => ?_⟩
          · rw [List.length_take, List.length_drop, List.length_map, hl2]
            exact Nat.le_of_lt (small1000 (by omega))
          · refine hk _ p3 ((s6.trans (same_new np2)).trans (same_new np3)) ?_
            show (upd _ p3 _) p3 = _
            rw [upd_same, List.getD_eq_getElem?_getD, hj2, Option.getD_some, List.eraseIdx_eq_take_drop_succ, List.map_append, List.map_take, List.map_drop]
        · rw [List.length_map] at l5
          have e6 : (List.range as.length).map (fun j => (s0.getD j []).eraseIdx i) = s0.map fun q => q.eraseIdx i := by
            rw [hal, ← hsl]
            exact range_map_get (fun q => q.eraseIdx i) [] s0
          rw [e6] at l5
          have hi2 : i < n + 1 := by rw [List.length_map] at hi; omega
          have hf2 : f0.natAbs < 2 ^ 1001 := Nat.lt_of_le_of_lt (hrB f0 (mem_of_at hf)) (Nat.pow_lt_pow_right (by decide) (by decide))
          have hsm : ∀ q ∈ s0.map (fun q => q.eraseIdx i), q.length = n ∧ Rf.Bd (2 ^ 1000) q := by
            intro q hq
            obtain ⟨q0, hq0, rfl⟩ := List.mem_map.mp hq
            obtain ⟨g1, g2⟩ := hsb q0 hq0
            refine ⟨?_, fun z hz => g2 z (List.mem_of_mem_eraseIdx hz)⟩
            rw [List.length_eraseIdx, g1]
            split <;> omega
          have hdb : (Rf.detI n (s0.map fun q => q.eraseIdx i)).natAbs < 2 ^ 3100 := by
            have g := detI_bd n (s0.map fun q => q.eraseIdx i) (fun q hq => ⟨(hsm q hq).2, by rw [(hsm q hq).1]; omega⟩)
            have g2 : (4 * 2 ^ 1000 + 1) ^ n ≤ (2 ^ 1003) ^ n := Nat.pow_le_pow_left (by decide) _
            have g3 : (2 ^ 1003) ^ n ≤ 2 ^ 3009 := by rw [← Nat.pow_mul]; exact Nat.pow_le_pow_right (by decide) (by omega)
            exact Nat.lt_of_le_of_lt (Nat.le_trans g (Nat.le_trans g2 g3)) (Nat.pow_lt_pow_right (by decide) (by decide))
          refine ⟨_, rfl, _, rfl, _, rfl, _, _, rfl, rfl, wide_mul (a := 2) (b := 1001) (by split <;> decide) hf2 (by decide) (by decide) (by decide), _, rfl, D, _, rfl, l5, by rw [List.length_map]; exact hsl, hsm, fun H7 s7 => ?_⟩
          refine ⟨_, _, rfl, rfl, wide_mul (a := 1003) (b := 3100) (wide_lt (a := 2) (b := 1001) (by split <;> decide) hf2) hdb (by decide) (by decide) (by decide), _, _, rfl, rfl, ?_⟩
          refine ⟨_, rfl, _, rfl, some (.int (i : Int)), some (.int f0), some (.ref D), ?_, s2.trans (s3.trans (s4.trans (s5.trans s7)))⟩
          · rw [detTo_succ hf]
            have ea : (if i % 2 = 0 then (1 : Int) else -1) * f0 = (if i % 2 = 0 then f0 else -f0) := by split <;> omega
            have eb : -(if i % 2 = 0 then (1 : Int) else -1) = (if (i + 1) % 2 = 0 then (1 : Int) else -1) := by
              by_cases hp : i % 2 = 0
              · rw [if_pos hp, if_neg (by omega)]
              · rw [if_neg hp, if_pos (by omega)]; rfl
            rw [← ea, ← eb]
            rfl
      · rintro σ H' ⟨y3, y4, y5, rfl, s2⟩
        rw [List.length_map, detTo_all]
        exact ⟨_, rfl, q H' s2⟩
end
end Rp

set_option Elab.async false
set_option linter.all false
set_option maxRecDepth 100000
set_option maxHeartbeats 2000000
set_option exponentiation.threshold 100000
namespace Rp
open PySem PySem.Spec PyProof.Rows L2
theorem LL.set {H : Hp} {q pl : Addr} {as : List Addr} {rows : List (List Int)} {l : List Int} {i : Nat} (hq : H q = some (.lst (((as.map V.ref).take i ++ [V.ref pl]) ++ (as.map V.ref).drop (i + 1)))) (hi : i < as.length) (hl : as.length = rows.length) (h3 : ∀ (j : Nat) (a : Addr) (r : List Int), as[j]? = some a → rows[j]? = some r → LI H a r) (hp : LI H pl l) : LL H q (rows.set i l) := by
  refine ⟨as.set i pl, ?_, by simp [hl], fun j a r ha hr => ?_⟩
  · rw [hq, List.set_eq_take_append_cons_drop, if_pos hi, List.map_append, List.map_cons, List.map_take, List.map_drop, List.append_assoc]
    rfl
  · rw [List.getElem?_set] at ha hr
    by_cases hij : i = j
    · rw [if_pos hij, if_pos hi] at ha
      rw [if_pos hij, if_pos (by omega)] at hr
      rw [← Option.some.inj ha, ← Option.some.inj hr]
      exact hp
    · rw [if_neg hij] at ha hr
      exact h3 j a r ha hr
theorem rowsI_mem {k xs : List Int} (h1 : 1 ≤ k.length) (h : xs.length = k.length) {r : List Int} (hr : r ∈ Rf.rowsI k xs) : r.length = k.length := by
  have : r ∈ (List.range k.length).map (itU k xs) := hr
  obtain ⟨j, _, rfl⟩ := List.mem_map.mp this
  exact itU_length h1 h j
theorem abv_rows {k : List Int} (hd : Rf.Deg k) (hk : Rf.Bd 20 k) {v : Rf.L} (hv : Sm v) (hl : v.length = k.length) : ∀ r ∈ Rf.rowsI k (Rf.abvOf v), r.length = k.length ∧ Rf.Bd (2 ^ 1000) r := by
  intro r hr
  refine ⟨rowsI_mem (by have := hd.1; omega) (by rw [Rf.abv_length, hl]) hr, (Rf.rowsI_bd hk hd.2 (abv_bd hv) r hr).mono ?_⟩
  rw [← Nat.pow_add]
  exact Nat.pow_le_pow_right (by decide) (by decide)
theorem det_lt {n : Nat} (hn : n ≤ 4) {rows : List (List Int)} (h : ∀ r ∈ rows, r.length = n ∧ Rf.Bd (2 ^ 1000) r) : (Rf.detI n rows).natAbs < 2 ^ 4100 := by
  have g := detI_bd n rows (fun q hq => ⟨(h q hq).2, by rw [(h q hq).1]; omega⟩)
  have g2 : (4 * 2 ^ 1000 + 1) ^ n ≤ (2 ^ 1003) ^ n := Nat.pow_le_pow_left (by decide) _
  have g3 : (2 ^ 1003) ^ n ≤ 2 ^ 4012 := by rw [← Nat.pow_mul]; exact Nat.pow_le_pow_right (by decide) (by omega)
  exact Nat.lt_of_le_of_lt (Nat.le_trans g (Nat.le_trans g2 g3)) (Nat.pow_lt_pow_right (by decide) (by decide))
theorem det_ne {k : List Int} (hd : Rf.Deg k) {v : Rf.L} (hl : v.length = k.length) (h : Rf.normR k v ≠ 0) : Rf.detI k.length (Rf.rowsI k (Rf.abvOf v)) ≠ 0 := by
  intro z
  apply h
  rw [← Rf.norm_places hd v hl, z, Rat.div_def]
  exact Rat.zero_mul _
section
variable {P : Program} {w : World} {K : PySem.W.Frag} {mg : Str → Option Value} {base : Heap}
def spDetA : Sp := fun vs H Q E => ∃ n, n ≤ 4 ∧ spDet n vs H Q E
theorem ok_determinantA {f : Addr} {fd : FuncData} (F : Fun K "determinant" "determinant" s_determinant f fd) (B : Bt mg) (g : mg "determinant" = some (.ref f)) (b : Binds K fd ["rows"] []) : FnOk P w K mg base CX0 5 f fd ["rows"] spDetA := by
  refine ⟨fun vs H Q E ⟨n, hn, h⟩ => (ok_determinant (P := P) (w := w) (base := base) F B g b n hn).len vs H Q E h, ?_⟩
  rintro A outer s H args us vs Q E hr he hb hv ⟨n, hn, h⟩
  exact (ok_determinant (P := P) (w := w) (base := base) F B g b n hn).run A outer s H args us vs Q E (hr.mono (by omega)) he hb hv h
abbrev s_quotient_of : Stmt := topS 12
abbrev N_quotient_of : List Str := ["coefficients", "left", "right", "left_above", "left_below", "right_above", "right_below", "rows", "above", "place", "replaced"]
theorem sc_quotient_of : FnScope N_quotient_of ["coefficients", "left", "right"] (defScope s_quotient_of) := ⟨rfl, rfl, rfl, by decide +kernel, rfl, by decide +kernel, by decide +kernel⟩
def spQuot : Sp := fun vs H Q _ => ∃ (c a b : Addr) (k : List Int) (u v : Rf.L), vs = [.ref c, .ref a, .ref b] ∧ LI H c k ∧ LI H a (Rf.placesQ u) ∧ LI H b (Rf.placesQ v) ∧ Sm u ∧ Sm v ∧ Rf.Deg k ∧ Rf.Bd 20 k ∧ u.length = k.length ∧ v.length = k.length ∧ Rf.normR k v ≠ 0 ∧ ∀ H' p, Same H H' → H p = none → LI H' p (Rf.placesQ (Rf.timesR k u (Rf.inverseR k v))) → Q (.ref p) H'
theorem ok_quotient_of {f : Addr} {fd : FuncData} (F : Fun K "quotient_of" "quotient_of" s_quotient_of f fd) (B : Bt mg) (C_over_one_below : CalN P w K mg base 2 "over_one_below" ["places"] spOver) (C_rows_of : CalN P w K mg base 2 "rows_of" ["coefficients", "above"] spRows) (C_determinant : CalN P w K mg base 5 "determinant" ["rows"] spDetA) (C_places_of : CalN P w K mg base 3 "places_of" ["above", "below"] spPlaces) : FnOk P w K mg base CX0 6 f fd ["coefficients", "left", "right"] spQuot := by
  obtain ⟨_, g_over_one_below, _, G_over_one_below, k_over_one_below, b_over_one_below⟩ := C_over_one_below
  obtain ⟨_, g_rows_of, _, G_rows_of, k_rows_of, b_rows_of⟩ := C_rows_of
  obtain ⟨_, g_determinant, _, G_determinant, k_determinant, b_determinant⟩ := C_determinant
  obtain ⟨_, g_places_of, _, G_places_of, k_places_of, b_places_of⟩ := C_places_of
  refine F.ok sc_quotient_of (fun vs H Q E h => ?_) (fun cdv A outer s H vs Q E hr h => ?_)
  · obtain ⟨c, a, b, k, u, v, rfl, _⟩ := h
    rfl
  · obtain ⟨c, a, b, k, u, v, rfl, hc, ha, hb, hu, hv, hd, hk, hul, hvl, hne, q⟩ := h
    refine ⟨_, (pss_cons (ps_asg (pe_call G_over_one_below (hr.mono (by omega)) (by rfl) g_over_one_below k_over_one_below b_over_one_below .nil pass0 (pa_cons (pv 1) pa_nil)) (pg_tup rfl (pgs_cons (pg_name (i := 3) sc_quotient_of.nd rfl (Or.inl rfl)) (pgs_cons (pg_name (i := 4) sc_quotient_of.nd rfl (Or.inl rfl)) pgs_nil))))
        (pss_cons (ps_asg (pe_call G_over_one_below (hr.mono (by omega)) (by rfl) g_over_one_below k_over_one_below b_over_one_below .nil pass0 (pa_cons (pv 2) pa_nil)) (pg_tup rfl (pgs_cons (pg_name (i := 5) sc_quotient_of.nd rfl (Or.inl rfl)) (pgs_cons (pg_name (i := 6) sc_quotient_of.nd rfl (Or.inl rfl)) pgs_nil))))
        (pss_cons (ps_set (i := 7) sc_quotient_of.nd rfl (Or.inl rfl) (pe_call G_rows_of (hr.mono (by omega)) (by rfl) g_rows_of k_rows_of b_rows_of .nil pass0 (pa_cons (pv 0) (pa_cons (pv 5) pa_nil))))
        (pss_cons (ps_set (i := 8) sc_quotient_of.nd rfl (Or.inl rfl) (pe_lst pa_nil))
        (pss_cons (ps_for PassesOwn.never rfl (pi_range1 (by rfl) B.range (pa_cons (pe_callB (show CallR _ _ (rLenK K) from call_len_seq) (by rfl) B.len PySem.boot_len (pa_cons (pv 7) pa_nil)) pa_nil)) (pg_name (i := 9) sc_quotient_of.nd rfl (Or.inl rfl)) (pss_cons (ps_set (i := 10) sc_quotient_of.nd rfl (Or.inl rfl) (pe_op op_cat (pe_op op_cat (pe_slice (show SlR _ (rSlL K) from sl_list) (pv 7) po_none (po_some (pv 9))) (pe_lst (pa_cons (pv 3) pa_nil))) (pe_slice (show SlR _ (rSlL K) from sl_list) (pv 7) (po_some (pe_op op_add (pv 9) pe_int)) po_none)))
        (pss_one (ps_expr (pe_bm PySem.F.plainAttrs_list PySem.F.slot_list_append PySem.F.type_list_append mt_append (pv 8) (pa_cons (pe_op op_mulW (pe_call G_determinant (hr.mono (by omega)) (by rfl) g_determinant k_determinant b_determinant .nil pass0 (pa_cons (pv 10) pa_nil)) (pv 6)) pa_nil))))))
        (pss_one (ps_ret (pe_call G_places_of (hr.mono (by omega)) (by rfl) g_places_of k_places_of b_places_of .nil pass0 (pa_cons (pv 8) (pa_cons (pe_op op_mulW (pe_call G_determinant (hr.mono (by omega)) (by rfl) g_determinant k_determinant b_determinant .nil pass0 (pa_cons (pv 7) pa_nil)) (pv 4)) pa_nil)))))))))), ?_⟩
    refine ⟨_, rfl, a, u, rfl, ha, hu, fun H1 t1 p1 s1 ht1 hp1 => ?_⟩
    refine ⟨t1, _, rfl, .inl (.inl ht1), rfl, _, _, rfl, _, _, rfl, rfl, ?_⟩
    refine ⟨_, rfl, b, v, rfl, s1 _ _ hb, hv, fun H2 t2 p2 s2 ht2 hp2 => ?_⟩
    refine ⟨t2, _, rfl, .inl (.inl ht2), rfl, _, _, rfl, _, _, rfl, rfl, ?_⟩
    have h1 : 1 ≤ k.length := by have := hd.1; omega
    refine ⟨_, rfl, _, rfl, c, p2, k, _, rfl, s2 _ _ (s1 _ _ hc), hp2, by rw [Rf.abv_length, hvl], h1, hd.2, hk, (abv_bd hv).mono (Nat.pow_le_pow_right (by decide) (by decide)), fun H3 p3 s3 lp3 => ?_⟩
    have hp1' : LI H3 p1 (Rf.abvOf u) := s3 _ _ (s2 _ _ hp1)
    have lp3' := lp3
    obtain ⟨as, la1, la2, la3⟩ := lp3
    have hasl : as.length = k.length := by rw [la2, Rf.rowsI_length]
    have habr := abv_rows hd hk hv hvl
    have hlu : ∀ z ∈ Rf.abvOf u, z.natAbs ≤ 2 ^ 1000 := (abv_bd hu).mono (Nat.pow_le_pow_right (by decide) (by decide))
    refine ⟨Nat.zero_le _, fun o no => ?_⟩
    have s4 : Same H3 (upd H3 o (.lst [])) := same_new no
    have lo : LI (upd H3 o (.lst [])) o [] := upd_same
    refine ⟨_, rfl, p3, _, rfl, .inl (.inl (.inl (s4 _ _ la1))), _, rfl, (by omega), (by rw [List.length_map, hasl]; have := hd.2; omega), ?_⟩
    refine for_range (fun i σ H' => ∃ y9 y10, σ = [some (.ref c), some (.ref a), some (.ref b), some (.ref p1), some (.int (Rf.lcmOf u)), some (.ref p2), some (.int (Rf.lcmOf v)), some (.ref p3), some (.ref o), y9, y10] ∧ Same H3 H' ∧ LI H' o ((List.range i).map fun j => Rf.cramI k (Rf.abvOf u) (Rf.abvOf v) j * ((Rf.lcmOf v : Nat) : Int))) ⟨none, none, rfl, s4, lo⟩ ?_ ?_
    · rintro i σ H' hi ⟨y9, y10, rfl, s5, l5⟩
      have hi2 : i < k.length := by rw [List.length_map, hasl] at hi; omega
      rw [Int.zero_add]
      refine ⟨_, rfl, _, rfl, _, rfl, p3, _, rfl, .inl (.inl (s5 _ _ la1)), fun q1 nq1 => ?_⟩
      rw [cut_to]
      have t1 : Same H' (upd H' q1 (.lst ((as.map V.ref).take i))) := same_new nq1
      have u1 : (upd H' q1 (.lst ((as.map V.ref).take i))) q1 = some (.lst ((as.map V.ref).take i)) := upd_same
      generalize upd H' q1 (.lst ((as.map V.ref).take i)) = G1 at *
      refine ⟨_, rfl, (by show 1 ≤ sizeLine; decide), fun q2 nq2 => ?_⟩
      have t2 : Same G1 (upd G1 q2 (.lst [.ref p1])) := same_new nq2
      have u2 : (upd G1 q2 (.lst [.ref p1])) q2 = some (.lst [.ref p1]) := upd_same
      generalize upd G1 q2 (.lst [.ref p1]) = G2 at *
      refine ⟨q1, q2, _, _, rfl, rfl, t2 _ _ u1, u2, ?_, fun q3 nq3 => ?_⟩
      · rw [List.length_take, List.length_map]
        exact Nat.le_of_lt (small1000 (by show _ + 1 ≤ 1000; have := hd.2; omega))
      have t3 : Same G2 (upd G2 q3 (.lst ((as.map V.ref).take i ++ [.ref p1]))) := same_new nq3
      have u3 : (upd G2 q3 (.lst ((as.map V.ref).take i ++ [.ref p1]))) q3 = some (.lst ((as.map V.ref).take i ++ [.ref p1])) := upd_same
      generalize upd G2 q3 (.lst ((as.map V.ref).take i ++ [.ref p1])) = G3 at *
      refine ⟨_, rfl, _, rfl, _, _, rfl, rfl, _, rfl, p3, _, rfl, .inl (.inl (t3 _ _ (t2 _ _ (t1 _ _ (s5 _ _ la1))))), fun q4 nq4 => ?_⟩
      have ec2 : cutV (as.map V.ref) (some ((i : Int) + 1)) none = (as.map V.ref).drop (i + 1) := cut_from _ (i + 1)
      rw [ec2]
      have t4 : Same G3 (upd G3 q4 (.lst ((as.map V.ref).drop (i + 1)))) := same_new nq4
      have u4 : (upd G3 q4 (.lst ((as.map V.ref).drop (i + 1)))) q4 = some (.lst ((as.map V.ref).drop (i + 1))) := upd_same
      generalize upd G3 q4 (.lst ((as.map V.ref).drop (i + 1))) = G4 at *
      refine ⟨q3, q4, _, _, rfl, rfl, t4 _ _ u3, u4, ?_, fun q5 nq5 => ?_⟩
      · rw [List.length_append, List.length_take, List.length_drop, List.length_map]
        exact Nat.le_of_lt (small1000 (by show _ + 1 + _ ≤ 1000; have := hd.2; omega))
      have t5 : Same G4 (upd G4 q5 (.lst (((as.map V.ref).take i ++ [.ref p1]) ++ (as.map V.ref).drop (i + 1)))) := same_new nq5
      have u5 : (upd G4 q5 (.lst (((as.map V.ref).take i ++ [.ref p1]) ++ (as.map V.ref).drop (i + 1)))) q5 = some (.lst (((as.map V.ref).take i ++ [.ref p1]) ++ (as.map V.ref).drop (i + 1))) := upd_same
      generalize upd G4 q5 (.lst (((as.map V.ref).take i ++ [.ref p1]) ++ (as.map V.ref).drop (i + 1))) = G5 at *
      have tA : Same H' G5 := t1.trans (t2.trans (t3.trans (t4.trans t5)))
      have lset : LL G5 q5 ((Rf.rowsI k (Rf.abvOf v)).set i (Rf.abvOf u)) := LL.set u5 (by omega) la2 (fun j a' r' ha' hr' => tA _ _ (s5 _ _ (la3 j a' r' ha' hr'))) (tA _ _ (s5 _ _ hp1'))
      have hset : ∀ r ∈ (Rf.rowsI k (Rf.abvOf v)).set i (Rf.abvOf u), r.length = k.length ∧ Rf.Bd (2 ^ 1000) r := by
        intro r hr
        rcases List.mem_or_eq_of_mem_set hr with hr | rfl
        · exact habr r hr
        · exact ⟨by rw [Rf.abv_length, hul], hlu⟩
      refine ⟨_, rfl, .inl ⟨rfl, _, LI.seq (tA _ _ l5)⟩, ?_⟩
      refine ⟨_, rfl, k.length, hd.2, q5, _, rfl, lset, by rw [List.length_set, Rf.rowsI_length], hset, fun G6 t6 => ?_⟩
      refine ⟨_, rfl, _, _, rfl, rfl, wide_mul (det_lt hd.2 hset) (lcm_lt hv) (by decide) (by decide) (by decide), ?_⟩
      have l6 : LI G6 o ((List.range i).map fun j => Rf.cramI k (Rf.abvOf u) (Rf.abvOf v) j * ((Rf.lcmOf v : Nat) : Int)) := t6 _ _ (tA _ _ l5)
      refine ⟨o, _, _, rfl, rfl, l6, ?_, some (.int (i : Int)), some (.ref q5), rfl, same_store no (s5.trans (tA.trans t6)), ?_⟩
      · rw [List.length_map, List.length_map, List.length_range]
        exact small1000 (by have := hd.2; omega)
      · show (upd G6 o _) o = _
        rw [upd_same, List.range_succ, List.map_append, List.map_append]
        rfl
    · rintro σ H' ⟨y9, y10, rfl, s5, l5⟩
      have en : (((as.map V.ref).length : Nat) : Int).toNat = k.length := by rw [List.length_map, hasl]; rfl
      rw [en] at l5
      refine ⟨_, rfl, _, rfl, k.length, hd.2, p3, _, rfl, lp3'.same s5, Rf.rowsI_length _ _, habr, fun H6 s6 => ?_⟩
      have hb1 := det_lt hd.2 habr
      refine ⟨_, rfl, _, _, rfl, rfl, wide_mul hb1 (lcm_lt hu) (by decide) (by decide) (by decide), ?_⟩
      have hlc := Rf.lcmOf_ne u
      refine ⟨o, _, _, rfl, s6 _ _ l5, ?_, Int.mul_ne_zero (det_ne hd hvl hne) (by omega), lt_pow (wide_lt hb1 (lcm_lt hu)) (by decide), fun H7 p7 s7 np7 l7 => ?_⟩
      · rw [List.length_map, List.length_range]; have := hd.2; omega
      · rw [Rf.quot_places hd u v hul hvl hne] at l7
        exact q H7 p7 (s1.trans (s2.trans (s3.trans (s5.trans (s6.trans s7))))) (none_of_same (s1.trans (s2.trans (s3.trans (s5.trans s6)))) np7) l7
abbrev s_norm_of : Stmt := topS 13
abbrev N_norm_of : List Str := ["coefficients", "number", "above", "below", "rows", "below_all_rows", "row"]
theorem sc_norm_of : FnScope N_norm_of ["coefficients", "number"] (defScope s_norm_of) := ⟨rfl, rfl, rfl, by decide +kernel, rfl, by decide +kernel, by decide +kernel⟩
def spNorm : Sp := fun vs H Q _ => ∃ (c a : Addr) (k : List Int) (v : Rf.L), vs = [.ref c, .ref a] ∧ LI H c k ∧ LI H a (Rf.placesQ v) ∧ Sm v ∧ Rf.Deg k ∧ Rf.Bd 20 k ∧ v.length = k.length ∧ ∀ H' p, Same H H' → LI H' p (Rf.frac (Rf.normR k v)) → Q (.ref p) H'
theorem ok_norm_of {f : Addr} {fd : FuncData} (F : Fun K "norm_of" "norm_of" s_norm_of f fd) (B : Bt mg) (C_over_one_below : CalN P w K mg base 2 "over_one_below" ["places"] spOver) (C_rows_of : CalN P w K mg base 2 "rows_of" ["coefficients", "above"] spRows) (C_determinant : CalN P w K mg base 5 "determinant" ["rows"] spDetA) (C_in_lowest_terms : CalN P w K mg base 2 "in_lowest_terms" ["above", "below"] spLow) : FnOk P w K mg base CX0 6 f fd ["coefficients", "number"] spNorm := by
  obtain ⟨_, g_over_one_below, _, G_over_one_below, k_over_one_below, b_over_one_below⟩ := C_over_one_below
  obtain ⟨_, g_rows_of, _, G_rows_of, k_rows_of, b_rows_of⟩ := C_rows_of
  obtain ⟨_, g_determinant, _, G_determinant, k_determinant, b_determinant⟩ := C_determinant
  obtain ⟨_, g_in_lowest_terms, _, G_in_lowest_terms, k_in_lowest_terms, b_in_lowest_terms⟩ := C_in_lowest_terms
  refine F.ok sc_norm_of (fun vs H Q E h => ?_) (fun cdv A outer s H vs Q E hr h => ?_)
  · obtain ⟨c, a, k, v, rfl, _⟩ := h
    rfl
  · obtain ⟨c, a, k, v, rfl, hc, ha, hv, hd, hk, hvl, q⟩ := h
    refine ⟨_, (pss_cons (ps_asg (pe_call G_over_one_below (hr.mono (by omega)) (by rfl) g_over_one_below k_over_one_below b_over_one_below .nil pass0 (pa_cons (pv 1) pa_nil)) (pg_tup rfl (pgs_cons (pg_name (i := 2) sc_norm_of.nd rfl (Or.inl rfl)) (pgs_cons (pg_name (i := 3) sc_norm_of.nd rfl (Or.inl rfl)) pgs_nil))))
        (pss_cons (ps_set (i := 4) sc_norm_of.nd rfl (Or.inl rfl) (pe_call G_rows_of (hr.mono (by omega)) (by rfl) g_rows_of k_rows_of b_rows_of .nil pass0 (pa_cons (pv 0) (pa_cons (pv 2) pa_nil))))
        (pss_cons (ps_set (i := 5) sc_norm_of.nd rfl (Or.inl rfl) pe_int)
        (pss_cons (ps_for PassesOwn.never rfl (pi_list (pv 4)) (pg_name (i := 6) sc_norm_of.nd rfl (Or.inl rfl)) (pss_one (ps_set (i := 5) sc_norm_of.nd rfl (Or.inl rfl) (pe_op op_mulW (pv 5) (pv 3)))))
        (pss_one (ps_ret (pe_call G_in_lowest_terms (hr.mono (by omega)) (by rfl) g_in_lowest_terms k_in_lowest_terms b_in_lowest_terms .nil pass0 (pa_cons (pe_call G_determinant (hr.mono (by omega)) (by rfl) g_determinant k_determinant b_determinant .nil pass0 (pa_cons (pv 4) pa_nil)) (pa_cons (pv 5) pa_nil))))))))), ?_⟩
    refine ⟨_, rfl, a, v, rfl, ha, hv, fun H1 t1 p1 s1 ht1 hp1 => ?_⟩
    refine ⟨t1, _, rfl, .inl (.inl ht1), rfl, _, _, rfl, _, _, rfl, rfl, ?_⟩
    have h1 : 1 ≤ k.length := by have := hd.1; omega
    refine ⟨_, rfl, _, rfl, c, p1, k, _, rfl, s1 _ _ hc, hp1, by rw [Rf.abv_length, hvl], h1, hd.2, hk, (abv_bd hv).mono (Nat.pow_le_pow_right (by decide) (by decide)), fun H3 p3 s3 lp3 => ?_⟩
    have lp3' := lp3
    obtain ⟨as, la1, la2, la3⟩ := lp3
    have hasl : as.length = k.length := by rw [la2, Rf.rowsI_length]
    have habr := abv_rows hd hk hv hvl
    have hp0 : ∀ i, i ≤ 4 → (((Rf.lcmOf v : Nat) : Int) ^ i).natAbs < 2 ^ 1000 := by
      intro i hi
      rw [Int.natAbs_pow]
      have g1 := Nat.le_of_lt (lcm_lt hv)
      have g2 := Nat.pow_le_pow_left g1 i
      refine Nat.lt_of_le_of_lt g2 ?_
      rw [← Nat.pow_mul]
      exact Nat.pow_lt_pow_right (by decide) (by omega)
    refine ⟨_, rfl, p3, rfl, ⟨_, .inl (.inl la1)⟩, for_list (K := K) (a := p3) (xs := as.map V.ref) (fun i σ H' => ∃ y, σ = [some (.ref c), some (.ref a), some (.ref p1), some (.int (Rf.lcmOf v)), some (.ref p3), some (.int (((Rf.lcmOf v : Nat) : Int) ^ i)), y] ∧ H' = H3) ⟨none, rfl, rfl⟩ (fun i σ H' _ ⟨_, _, e⟩ => by rw [e]; exact .inl (.inl la1)) ?_ ?_⟩
    · rintro i y σ H' hi ⟨y0, rfl, rfl⟩
      have hi2 : i < k.length := by
        have := (List.getElem?_eq_some_iff.mp hi).1
        rw [List.length_map, hasl] at this; exact this
      refine ⟨_, rfl, _, rfl, _, _, rfl, rfl, wide_mul (hp0 i (by have := hd.2; omega)) (lcm_lt hv) (by decide) (by decide) (by decide), some y, ?_, rfl⟩
      rw [Int.pow_succ]
      rfl
    · rintro σ H' ⟨y0, rfl, rfl⟩
      rw [List.length_map, hasl]
      refine ⟨_, rfl, k.length, hd.2, p3, _, rfl, lp3', Rf.rowsI_length _ _, habr, fun H6 s6 => ?_⟩
      have hlc := Rf.lcmOf_ne v
      refine ⟨_, rfl, _, _, rfl, Int.pow_ne_zero (by omega), lt_pow (hp0 _ hd.2) (by decide), fun H7 p7 s7 l7 => ?_⟩
      rw [Rf.norm_places hd v hvl] at l7
      exact q H7 p7 (s1.trans (s3.trans (s6.trans s7))) l7
end
end Rp

set_option Elab.async false
set_option linter.all false
set_option maxRecDepth 100000
set_option maxHeartbeats 2000000
set_option exponentiation.threshold 100000
namespace Rp
open PySem PySem.Spec PyProof.Rows L2
theorem lay_ints : ∀ xs : List Int, PyData.canLayAll0 (xs.map .int) = true
  | [] => by simp [PyData.canLayAll0]
  | x :: xs => by simp [PyData.canLayAll0, PyData.canLay0, lay_ints xs]
theorem dep_ints : ∀ xs : List Int, PyData.depthAll (xs.map .int) ≤ 63
  | [] => by simp [PyData.depthAll]
  | x :: xs => by
    have := dep_ints xs
    simp [PyData.depthAll, PyData.depth]
    omega
theorem shaped_ints (xs : List Int) : SeqAt.shaped (.list (xs.map .int)) = true := by
  unfold SeqAt.shaped
  simp [PyData.canLay0, PyData.depth]
  exact ⟨lay_ints xs, dep_ints xs⟩
theorem eqvAll_ints : ∀ xs ys : List Int, PyData.eqvAll (xs.map .int) (ys.map .int) = decide (xs = ys)
  | [], [] => by simp [PyData.eqvAll]
  | [], _ :: _ => by simp [PyData.eqvAll]
  | _ :: _, [] => by simp [PyData.eqvAll]
  | x :: xs, y :: ys => by
    rw [List.map_cons, List.map_cons, PyData.eqvAll.eq_2, PyData.eqv.eq_5, eqvAll_ints xs ys]
    by_cases h : x = y <;> by_cases h2 : xs = ys <;> simp [h, h2]
theorem eqv_ints (xs ys : List Int) : PyData.eqv (.list (xs.map .int)) (.list (ys.map .int)) = decide (xs = ys) := by
  rw [← eqvAll_ints]
  simp [PyData.eqv]
theorem dpAll_ints {K : PySem.W.Frag} {H : Hp} : ∀ xs : List Int, DpAll K H (xs.map V.int) (xs.map .int)
  | [] => .nil
  | x :: xs => .cons (.int x) (dpAll_ints xs)
theorem dp_ints {K : PySem.W.Frag} {H : Hp} {p : Addr} {xs : List Int} (h : LI H p xs) : Dp K H (.ref p) (.list (xs.map .int)) := .lst h.seq (dpAll_ints xs)
theorem eqD_ints {K : PySem.W.Frag} {H : Hp} {p q : Addr} {xs ys : List Int} {Q : V → Hp → Prop} (h : LI H p xs) (h2 : LI H q ys) (hq : Q (.bl (decide (xs = ys))) H) : rEqD K (.ref p) (.ref q) H Q := by
  refine ⟨_, _, dp_ints h, dp_ints h2, shaped_ints _, shaped_ints _, ?_⟩
  rw [eqv_ints]
  exact hq
theorem timesI_len {k a b : List Int} (h1 : 1 ≤ k.length) (h : b.length = k.length) : (Rf.timesI k a b).length = k.length := by
  rw [← Rf.castL_length, ← Rf.times_cast]
  exact Rf.times_length h1 _ (by rw [Rf.castL_length, h])
theorem trace_sum (k a : List Int) : ((List.range k.length).map fun i => ((Rf.rowsI k a).getD i []).getD i 0).sum = Rf.traceI k a := by
  unfold Rf.traceI
  rw [← List.sum_eq_foldl]
  congr 1
  apply List.ext_getElem
  · simp [Rf.rowsI_length]
  · intro i h1 h2
    have hi : i < (Rf.rowsI k a).length := by simpa using h2
    simp [List.getD_eq_getElem?_getD, hi]
theorem flI_len {k A : List Int} (h1 : 1 ≤ k.length) (hA : A.length = k.length) : ∀ j, (Rf.flI k A j).2.length = k.length
  | 0 => by show (Rf.ofI k 1).length = _; unfold Rf.ofI; simp; omega
  | j + 1 => by
    show (((Rf.timesI k (Rf.flI k A j).2 A).headD 0 + _) :: (Rf.timesI k (Rf.flI k A j).2 A).tail).length = _
    rw [List.length_cons, List.length_tail, timesI_len h1 hA]
    omega
theorem flI_len1 {k A : List Int} : ∀ j, (Rf.flI k A j).1.length = j + 1
  | 0 => rfl
  | j + 1 => by
    show (Rf.flI k A j).1.length + 1 = _
    rw [flI_len1 j]
section
variable {P : Program} {w : World} {K : PySem.W.Frag} {mg : Str → Option Value} {base : Heap}
abbrev s_whole_trace : Stmt := topS 14
abbrev N_whole_trace : List Str := ["coefficients", "above", "place", "row"]
theorem sc_whole_trace : FnScope N_whole_trace ["coefficients", "above"] (defScope s_whole_trace) := ⟨rfl, rfl, rfl, by decide +kernel, rfl, by decide +kernel, by decide +kernel⟩
def spTrace : Sp := fun vs H Q _ => ∃ (a b : Addr) (k xs : List Int), vs = [.ref a, .ref b] ∧ LI H a k ∧ LI H b xs ∧ xs.length = k.length ∧ 1 ≤ k.length ∧ k.length ≤ 4 ∧ Rf.Bd 20 k ∧ Rf.Bd (2 ^ 4900) xs ∧ ∀ H', Same H H' → Q (.int (Rf.traceI k xs)) H'
theorem ok_whole_trace {f : Addr} {fd : FuncData} (F : Fun K "whole_trace" "whole_trace" s_whole_trace f fd) (B : Bt mg) (C_rows_of : CalN P w K mg base 2 "rows_of" ["coefficients", "above"] spRows) : FnOk P w K mg base CX0 3 f fd ["coefficients", "above"] spTrace := by
  obtain ⟨_, g_rows_of, _, G_rows_of, k_rows_of, b_rows_of⟩ := C_rows_of
  refine F.ok sc_whole_trace (fun vs H Q E h => ?_) (fun cdv A outer s H vs Q E hr h => ?_)
  · obtain ⟨a, b, k, xs, rfl, _⟩ := h
    rfl
  · obtain ⟨a, b, k, xs, rfl, ha, hb, hlen, h1, h4, hk, hx, q⟩ := h
    refine ⟨_, (pss_one (ps_ret (pe_callB (cr_sum rfl) (by rfl) B.sum (by decide +kernel) (pa_cons (pe_lc (own := [("place", 2), ("row", 3)]) (g := gTup K 2 (gCons (gName 2) (gCons (gName 3) gNil))) (tt := tYes) rfl sc_whole_trace.nd (pi_enum (by rfl) B.enumerate (pa_cons (pe_call G_rows_of (hr.mono (by omega)) (by rfl) g_rows_of k_rows_of b_rows_of .nil pass0 (pa_cons (pv 0) (pa_cons (pv 1) pa_nil))) pa_nil)) (blkOk_by (own := [("place", 2), ("row", 3)]) (N := N_whole_trace) (sc := defScope s_whole_trace) (by decide +kernel)) (fun _ _ _ _ _ => (pg_tup rfl (pgs_cons (pg_name (i := 2) sc_whole_trace.nd rfl (Or.inl rfl)) (pgs_cons (pg_name (i := 3) sc_whole_trace.nd rfl (Or.inl rfl)) pgs_nil)))) (fun _ _ _ _ _ => pts_nil) (fun _ _ _ _ _ => (pe_ix (show IxR _ (rIxL K) from ix_list) (pv 3) (pv 2) (fun _ _ => rfl)))) pa_nil)))), ?_⟩
    refine ⟨_, rfl, _, rfl, a, b, k, xs, rfl, ha, hb, hlen, h1, h4, hk, hx, fun H1 p1 s1 lp1 => ?_⟩
    obtain ⟨as, la1, la2, la3⟩ := lp1
    have hasl : as.length = k.length := by rw [la2, Rf.rowsI_length]
    refine ⟨p1, _, rfl, .inl (.inl la1), fun D nD => ?_⟩
    refine lc_gen (walk_enum (K := K) (a := p1) (xs := as.map V.ref)) nD (by rw [List.length_map]; exact small1000 (by omega)) (fun i => .int (((Rf.rowsI k xs).getD i []).getD i 0)) (fun _ => true) (fun H5 s5 => .inl (.inl (s5 _ _ la1))) ?_ (fun H5 s5 hD => ?_)
    · rintro i x H4 H5 hi s5 ⟨T, z1, z2, rfl, nT, rfl, hz1, hz2⟩ R RY hk1 hk2
      have hi2 : i < k.length := by rw [List.length_map, hasl] at hi; exact hi
      have e1 : z1 = .int (i : Int) := (Option.some.inj hz1).symm
      subst e1
      dsimp only at hz2
      rw [List.getElem?_map] at hz2
      cases hai : as[i]? with
      | none => rw [hai] at hz2; cases hz2
      | some g =>
        rw [hai] at hz2
        have e2 : z2 = .ref g := (Option.some.inj hz2).symm
        subst e2
        have erow : (Rf.rowsI k xs)[i]? = some (itU k xs i) := by
          show ((List.range k.length).map (itU k xs))[i]? = _
          rw [List.getElem?_map, List.getElem?_range hi2]
          rfl
        have lg : LI H4 g (itU k xs i) := s5 _ _ (la3 i g _ hai erow)
        have s6 : Same H4 (upd H4 T (.tup [.int (i : Int), .ref g])) := same_new nT
        have hil : i < (itU k xs i).length := by rw [itU_length h1 hlen]; exact hi2
        have eg : ((Rf.rowsI k xs).getD i []).getD i 0 = (itU k xs i)[i] := by
          rw [List.getD_eq_getElem?_getD (l := Rf.rowsI k xs), erow, Option.getD_some, List.getD_eq_getElem?_getD, List.getElem?_eq_getElem hil]
          rfl
        refine ⟨T, _, rfl, .inl (.inl upd_same), rfl, _, _, rfl, _, _, rfl, rfl, rfl, ?_⟩
        refine ⟨_, rfl, _, rfl, g, _, _, .int ((itU k xs i)[i]), rfl, rfl, LI.seq (s6 _ _ lg), atI_nat ?_, ?_⟩
        · rw [List.getElem?_map, List.getElem?_eq_getElem hil]; rfl
        · rw [← eg]
          exact hk1 rfl _ s6
    · rw [filter_all, List.length_map, hasl] at hD
      refine ⟨D, (List.range k.length).map (fun i => ((Rf.rowsI k xs).getD i []).getD i 0), rfl, .inl (.inl ?_), ?_⟩
      · rw [List.map_map]
        exact hD
      · rw [trace_sum]
        exact q H5 (s1.trans s5)
abbrev s_trace_of : Stmt := topS 15
abbrev N_trace_of : List Str := ["coefficients", "number", "above", "below"]
theorem sc_trace_of : FnScope N_trace_of ["coefficients", "number"] (defScope s_trace_of) := ⟨rfl, rfl, rfl, by decide +kernel, rfl, by decide +kernel, by decide +kernel⟩
def spTraceOf : Sp := fun vs H Q _ => ∃ (c a : Addr) (k : List Int) (v : Rf.L), vs = [.ref c, .ref a] ∧ LI H c k ∧ LI H a (Rf.placesQ v) ∧ Sm v ∧ Rf.Deg k ∧ Rf.Bd 20 k ∧ v.length = k.length ∧ ∀ H' p, Same H H' → LI H' p (Rf.frac (Rf.traceR k v)) → Q (.ref p) H'
theorem ok_trace_of {f : Addr} {fd : FuncData} (F : Fun K "trace_of" "trace_of" s_trace_of f fd) (B : Bt mg) (C_over_one_below : CalN P w K mg base 2 "over_one_below" ["places"] spOver) (C_whole_trace : CalN P w K mg base 3 "whole_trace" ["coefficients", "above"] spTrace) (C_in_lowest_terms : CalN P w K mg base 2 "in_lowest_terms" ["above", "below"] spLow) : FnOk P w K mg base CX0 4 f fd ["coefficients", "number"] spTraceOf := by
  obtain ⟨_, g_over_one_below, _, G_over_one_below, k_over_one_below, b_over_one_below⟩ := C_over_one_below
  obtain ⟨_, g_whole_trace, _, G_whole_trace, k_whole_trace, b_whole_trace⟩ := C_whole_trace
  obtain ⟨_, g_in_lowest_terms, _, G_in_lowest_terms, k_in_lowest_terms, b_in_lowest_terms⟩ := C_in_lowest_terms
  refine F.ok sc_trace_of (fun vs H Q E h => ?_) (fun cdv A outer s H vs Q E hr h => ?_)
  · obtain ⟨c, a, k, v, rfl, _⟩ := h
    rfl
  · obtain ⟨c, a, k, v, rfl, hc, ha, hv, hd, hk, hvl, q⟩ := h
    refine ⟨_, (pss_cons (ps_asg (pe_call G_over_one_below (hr.mono (by omega)) (by rfl) g_over_one_below k_over_one_below b_over_one_below .nil pass0 (pa_cons (pv 1) pa_nil)) (pg_tup rfl (pgs_cons (pg_name (i := 2) sc_trace_of.nd rfl (Or.inl rfl)) (pgs_cons (pg_name (i := 3) sc_trace_of.nd rfl (Or.inl rfl)) pgs_nil))))
        (pss_one (ps_ret (pe_call G_in_lowest_terms (hr.mono (by omega)) (by rfl) g_in_lowest_terms k_in_lowest_terms b_in_lowest_terms .nil pass0 (pa_cons (pe_call G_whole_trace (hr.mono (by omega)) (by rfl) g_whole_trace k_whole_trace b_whole_trace .nil pass0 (pa_cons (pv 0) (pa_cons (pv 2) pa_nil))) (pa_cons (pv 3) pa_nil)))))), ?_⟩
    refine ⟨_, rfl, a, v, rfl, ha, hv, fun H1 t1 p1 s1 ht1 hp1 => ?_⟩
    refine ⟨t1, _, rfl, .inl (.inl ht1), rfl, _, _, rfl, _, _, rfl, rfl, ?_⟩
    have h1 : 1 ≤ k.length := by have := hd.1; omega
    refine ⟨_, rfl, _, rfl, c, p1, k, _, rfl, s1 _ _ hc, hp1, by rw [Rf.abv_length, hvl], h1, hd.2, hk, (abv_bd hv).mono (Nat.pow_le_pow_right (by decide) (by decide)), fun H3 s3 => ?_⟩
    have hlc := Rf.lcmOf_ne v
    refine ⟨_, rfl, _, _, rfl, (by omega), lt_pow (lcm_lt hv) (by decide), fun H7 p7 s7 l7 => ?_⟩
    have e : ((Rf.traceI k (Rf.abvOf v) : Int) : Rat) / (((Rf.lcmOf v : Nat) : Int) : Rat) = Rf.traceR k v := Rf.trace_places hd v hvl
    rw [e] at l7
    exact q H7 p7 (s1.trans (s3.trans s7)) l7
abbrev s_whole_polynomial : Stmt := topS 16
abbrev N_whole_polynomial : List Str := ["coefficients", "above", "polynomial", "left", "step", "product", "coefficient", "one"]
theorem sc_whole_polynomial : FnScope N_whole_polynomial ["coefficients", "above"] (defScope s_whole_polynomial) := ⟨rfl, rfl, rfl, by decide +kernel, rfl, by decide +kernel, by decide +kernel⟩
def spWPoly : Sp := fun vs H Q _ => ∃ (a b : Addr) (k A : List Int), vs = [.ref a, .ref b] ∧ LI H a k ∧ LI H b A ∧ A.length = k.length ∧ Rf.Deg k ∧ Rf.Bd 20 k ∧ Rf.Bd (2 ^ 300) A ∧ ∀ H' p, Same H H' → LI H' p (Rf.wpolyI k A) → Q (.ref p) H'
theorem ok_whole_polynomial {f : Addr} {fd : FuncData} (F : Fun K "whole_polynomial" "whole_polynomial" s_whole_polynomial f fd) (B : Bt mg) (C_whole_product : CalN P w K mg base 3 "whole_product" ["coefficients", "left", "right"] spProd) (C_whole_trace : CalN P w K mg base 3 "whole_trace" ["coefficients", "above"] spTrace) : FnOk P w K mg base CX0 4 f fd ["coefficients", "above"] spWPoly := by
  obtain ⟨_, g_whole_product, _, G_whole_product, k_whole_product, b_whole_product⟩ := C_whole_product
  obtain ⟨_, g_whole_trace, _, G_whole_trace, k_whole_trace, b_whole_trace⟩ := C_whole_trace
  refine F.ok sc_whole_polynomial (fun vs H Q E h => ?_) (fun cdv A outer s H vs Q E hr h => ?_)
  · obtain ⟨a, b, k, xs, rfl, _⟩ := h
    rfl
  · obtain ⟨a, b, k, A, rfl, ha, hb, hlen, hd, hk, hA, q⟩ := h
    refine ⟨_, (pss_cons (ps_set (i := 2) sc_whole_polynomial.nd rfl (Or.inl rfl) (pe_lst (pa_cons pe_int pa_nil)))
        (pss_cons (ps_set (i := 3) sc_whole_polynomial.nd rfl (Or.inl rfl) (pe_op op_cat (pe_lst (pa_cons pe_int pa_nil)) (pe_lc (own := [("one", 7)]) (g := gName 7) (tt := tYes) rfl sc_whole_polynomial.nd (pi_list (pe_slice (show SlR _ (rSlL K) from sl_list) (pv 0) (po_some pe_int) po_none)) (blkOk_by (own := [("one", 7)]) (N := N_whole_polynomial) (sc := defScope s_whole_polynomial) (by decide +kernel)) (fun _ _ _ _ _ => (pg_name (i := 7) sc_whole_polynomial.nd rfl (Or.inl rfl))) (fun _ _ _ _ _ => pts_nil) (fun _ _ _ _ _ => pe_int))))
        (pss_cons (ps_for PassesOwn.never rfl (pi_range2 (by rfl) B.range (pa_cons pe_int (pa_cons (pe_op op_add (pe_callB (show CallR _ _ (rLenK K) from call_len_seq) (by rfl) B.len PySem.boot_len (pa_cons (pv 0) pa_nil)) pe_int) pa_nil))) (pg_name (i := 4) sc_whole_polynomial.nd rfl (Or.inl rfl)) (pss_cons (ps_set (i := 5) sc_whole_polynomial.nd rfl (Or.inl rfl) (pe_call G_whole_product (hr.mono (by omega)) (by rfl) g_whole_product k_whole_product b_whole_product .nil pass0 (pa_cons (pv 0) (pa_cons (pv 1) (pa_cons (pv 3) pa_nil)))))
        (pss_cons (ps_set (i := 6) sc_whole_polynomial.nd rfl (Or.inl rfl) (pe_op op_fdivB (pe_un un_neg (pe_call G_whole_trace (hr.mono (by omega)) (by rfl) g_whole_trace k_whole_trace b_whole_trace .nil pass0 (pa_cons (pv 0) (pa_cons (pv 5) pa_nil)))) (pv 4)))
        (pss_cons (ps_set (i := 2) sc_whole_polynomial.nd rfl (Or.inl rfl) (pe_op op_cat (pe_lst (pa_cons (pv 6) pa_nil)) (pv 2)))
        (pss_one (ps_set (i := 3) sc_whole_polynomial.nd rfl (Or.inl rfl) (pe_op op_cat (pe_lst (pa_cons (pe_op op_add (pe_ix (show IxR _ (rIxL K) from ix_list) (pv 5) pe_int (fun _ _ => rfl)) (pv 6)) pa_nil)) (pe_slice (show SlR _ (rSlL K) from sl_list) (pv 5) (po_some pe_int) po_none))))))))
        (pss_one (ps_ret (pv 2)))))), ?_⟩
    have h1 : 1 ≤ k.length := by have := hd.1; omega
    have h4 := hd.2
    refine ⟨(by show 1 ≤ sizeLine; decide), fun o1 n1 => ?_⟩
    have s1 : Same H (upd H o1 (.lst [.int 1])) := same_new n1
    have lo1 : LI (upd H o1 (.lst [.int 1])) o1 [1] := upd_same
    generalize upd H o1 (.lst [.int 1]) = H1 at *
    refine ⟨(by show 1 ≤ sizeLine; decide), fun o2 n2 => ?_⟩
    have s2 : Same H1 (upd H1 o2 (.lst [.int 1])) := same_new n2
    have lo2 : (upd H1 o2 (.lst [.int 1])) o2 = some (.lst [.int 1]) := upd_same
    generalize upd H1 o2 (.lst [.int 1]) = H2 at *
    refine ⟨_, rfl, 1, rfl, a, _, rfl, LI.seq (s2 _ _ (s1 _ _ ha)), fun o3 n3 => ?_⟩
    have ec : cutV (k.map V.int) (some 1) none = (k.drop 1).map V.int := by rw [List.map_drop]; exact cut_from _ 1
    rw [ec]
    have s3 : Same H2 (upd H2 o3 (.lst ((k.drop 1).map V.int))) := same_new n3
    have lo3 : LI (upd H2 o3 (.lst ((k.drop 1).map V.int))) o3 (k.drop 1) := upd_same
    generalize upd H2 o3 (.lst ((k.drop 1).map V.int)) = H3 at *
    refine ⟨o3, rfl, ⟨_, LI.seq lo3⟩, fun o4 n4 => ?_⟩
    refine lc_listI (K := K) n4 lo3 (by rw [List.length_drop]; omega) (fun _ => 0) (fun _ => rfl) (fun x H5 RY _ _ hR => hR _ (Same.refl _)) (fun H4 s4 l4 => ?_)
    refine ⟨o2, o4, _, _, rfl, rfl, s4 _ _ (s3 _ _ lo2), l4, ?_, fun o5 n5 => ?_⟩
    · rw [List.length_map, List.length_map, List.length_drop]
      exact Nat.le_of_lt (small1000 (by show 1 + _ ≤ 1000; omega))
    have e0 : ([V.int 1] ++ ((k.drop 1).map fun _ => (0 : Int)).map V.int) = (Rf.ofI k 1).map V.int := by
      unfold Rf.ofI
      rw [List.map_const', List.length_drop]
      rfl
    rw [e0]
    have s5 : Same H4 (upd H4 o5 (.lst ((Rf.ofI k 1).map V.int))) := same_new n5
    have lo5 : LI (upd H4 o5 (.lst ((Rf.ofI k 1).map V.int))) o5 (Rf.ofI k 1) := upd_same
    generalize upd H4 o5 (.lst ((Rf.ofI k 1).map V.int)) = H5 at *
    have sA : Same H H5 := s1.trans (s2.trans (s3.trans (s4.trans s5)))
    refine ⟨_, rfl, a, _, rfl, .inl (LI.seq (sA _ _ ha)), _, _, rfl, rfl, _, _, rfl, ⟨by decide, by decide, by rw [List.length_map]; omega, by rw [List.length_map]; omega⟩, ?_⟩
    have en : (((k.map V.int).length : Int) + 1 - 1).toNat = k.length := by rw [List.length_map]; omega
    rw [en]
    refine for_range (fun i σ H' => ∃ (o6 o7 : Addr) (y4 y5 y6 : Option V), σ = [some (.ref a), some (.ref b), some (.ref o6), some (.ref o7), y4, y5, y6, none] ∧ Same H5 H' ∧ LI H' o6 (Rf.flI k A i).1 ∧ LI H' o7 (Rf.flI k A i).2) ⟨o1, o5, none, none, none, rfl, Same.refl _, s5 _ _ (s4 _ _ (s3 _ _ (s2 _ _ lo1))), lo5⟩ ?_ ?_
    · rintro i σ H' hi ⟨o6, o7, y4, y5, y6, rfl, t0, l6, l7⟩
      have hfb := (Rf.flI_bd hd hk hlen (M := 2 ^ 300) (by decide) hA i (by omega)).1
      have hfb2 : Rf.Bd (2 ^ 1500) (Rf.flI k A i).2 := hfb.mono (by
        rw [← Nat.pow_add, ← Nat.pow_mul]
        exact Nat.pow_le_pow_right (by decide) (by omega))
      have hfl := flI_len h1 hlen i
      have tH : Same H H' := sA.trans t0
      refine ⟨_, rfl, _, rfl, _, rfl, a, b, o7, k, A, (Rf.flI k A i).2, rfl, tH _ _ ha, tH _ _ hb, l7, hlen, hfl, h1, h4, hk, hA.mono (Nat.pow_le_pow_right (by decide) (by decide)), hfb2.mono (Nat.pow_le_pow_right (by decide) (by decide)), fun G1 pr t1 lpr => ?_⟩
      generalize hpr : Rf.timesI k (Rf.flI k A i).2 A = PR at *
      have hprl : PR.length = k.length := by rw [← hpr]; exact timesI_len h1 hlen
      have hprb : Rf.Bd (2 ^ 4900) PR := by
        rw [← hpr]
        refine (Rf.timesI_bd hk hfb2 hA (by omega)).mono ?_
        rw [← Nat.pow_add, ← Nat.pow_add]
        exact Nat.pow_le_pow_right (by decide) (by decide)
      refine ⟨_, rfl, _, rfl, a, pr, k, PR, rfl, t1 _ _ (tH _ _ ha), lpr, hprl, h1, h4, hk, hprb, fun G2 t2 => ?_⟩
      refine ⟨_, rfl, _, rfl, _, _, rfl, rfl, divB_of (b := 3) (by omega) (by omega) (by decide) (by decide), ?_⟩
      have ecf : (-(Rf.traceI k PR)).fdiv (1 + (i : Int)) = (-(Rf.traceI k PR)).fdiv ((i : Int) + 1) := by rw [Int.add_comm]
      show tSeq _ _ _ ([some (.ref a), some (.ref b), some (.ref o6), some (.ref o7), some (.int (1 + (i : Int))), some (.ref pr), some (.int ((-(Rf.traceI k PR)).fdiv (1 + (i : Int)))), none]) G2
      rw [ecf]
      generalize hcf : (-(Rf.traceI k PR)).fdiv ((i : Int) + 1) = cf at *
      refine ⟨_, rfl, (by show 1 ≤ sizeLine; decide), fun o8 n8 => ?_⟩
      have t3 : Same G2 (upd G2 o8 (.lst [.int cf])) := same_new n8
      have lo8 : (upd G2 o8 (.lst [.int cf])) o8 = some (.lst [.int cf]) := upd_same
      generalize upd G2 o8 (.lst [.int cf]) = G3 at *
      refine ⟨_, rfl, o8, o6, _, _, rfl, rfl, lo8, t3 _ _ (t2 _ _ (t1 _ _ l6)), ?_, fun o9 n9 => ?_⟩
      · rw [List.length_map, flI_len1]
        exact Nat.le_of_lt (small1000 (by show 1 + _ ≤ 1000; omega))
      have t4 : Same G3 (upd G3 o9 (.lst ([V.int cf] ++ (Rf.flI k A i).1.map V.int))) := same_new n9
      have lo9 : LI (upd G3 o9 (.lst ([V.int cf] ++ (Rf.flI k A i).1.map V.int))) o9 (cf :: (Rf.flI k A i).1) := upd_same
      generalize upd G3 o9 (.lst ([V.int cf] ++ (Rf.flI k A i).1.map V.int)) = G4 at *
      have lpr4 : LI G4 pr PR := t4 _ _ (t3 _ _ (t2 _ _ lpr))
      obtain ⟨x0, xr, rfl⟩ : ∃ x0 xr, PR = x0 :: xr := by
        cases PR with
        | nil => simp at hprl; omega
        | cons x0 xr => exact ⟨x0, xr, rfl⟩
      refine ⟨_, rfl, pr, _, 0, .int x0, rfl, rfl, LI.seq lpr4, atI_nat (j := 0) rfl, _, rfl, _, _, rfl, rfl, (by show 1 ≤ sizeLine; decide), fun o10 n10 => ?_⟩
      have t5 : Same G4 (upd G4 o10 (.lst [.int (x0 + cf)])) := same_new n10
      have lo10 : (upd G4 o10 (.lst [.int (x0 + cf)])) o10 = some (.lst [.int (x0 + cf)]) := upd_same
      generalize upd G4 o10 (.lst [.int (x0 + cf)]) = G5 at *
      refine ⟨_, rfl, 1, rfl, pr, _, rfl, LI.seq (t5 _ _ lpr4), fun o11 n11 => ?_⟩
      have ec2 : cutV ((x0 :: xr).map V.int) (some 1) none = xr.map V.int := cut_from _ 1
      rw [ec2]
      have t6 : Same G5 (upd G5 o11 (.lst (xr.map V.int))) := same_new n11
      have lo11 : LI (upd G5 o11 (.lst (xr.map V.int))) o11 xr := upd_same
      generalize upd G5 o11 (.lst (xr.map V.int)) = G6 at *
      refine ⟨o10, o11, _, _, rfl, rfl, t6 _ _ lo10, lo11, ?_, fun o12 n12 => ?_⟩
      · rw [List.length_map]
        simp at hprl
        exact Nat.le_of_lt (small1000 (by show 1 + _ ≤ 1000; omega))
      have e9 : Rf.flI k A (i + 1) = (cf :: (Rf.flI k A i).1, (x0 + cf) :: xr) := by
        show ((-(Rf.traceI k (Rf.timesI k (Rf.flI k A i).2 A))).fdiv ((i : Int) + 1) :: (Rf.flI k A i).1, ((Rf.timesI k (Rf.flI k A i).2 A).headD 0 + (-(Rf.traceI k (Rf.timesI k (Rf.flI k A i).2 A))).fdiv ((i : Int) + 1)) :: (Rf.timesI k (Rf.flI k A i).2 A).tail) = _
        rw [hpr, hcf]
        rfl
      have t7 : Same G6 (upd G6 o12 (.lst ([V.int (x0 + cf)] ++ xr.map V.int))) := same_new n12
      refine ⟨o9, o12, some (.int (1 + (i : Int))), some (.ref pr), some (.int cf), rfl, t0.trans (t1.trans (t2.trans (t3.trans (t4.trans (t5.trans (t6.trans t7)))))), ?_, ?_⟩
      · rw [e9]
        exact t7 _ _ (t6 _ _ (t5 _ _ lo9))
      · rw [e9]
        exact upd_same
    · rintro σ H' ⟨o6, o7, y4, y5, y6, rfl, t0, l6, l7⟩
      exact ⟨_, rfl, q H' o6 (sA.trans t0) l6⟩
end
end Rp

set_option Elab.async false
set_option linter.all false
set_option maxRecDepth 100000
set_option maxHeartbeats 2000000
set_option exponentiation.threshold 100000
namespace Rp
open PySem PySem.Spec PyProof.Rows L2
theorem wpoly_bd {k A : List Int} (hd : Rf.Deg k) (hk : Rf.Bd 20 k) (hlen : A.length = k.length) (hA : Rf.Bd (2 ^ 300) A) : Rf.Bd (2 ^ 1500) (Rf.wpolyI k A) := by
  have h4 := hd.2
  refine (Rf.flI_bd hd hk hlen (M := 2 ^ 300) (by decide) hA k.length (Nat.le_refl _)).2.mono ?_
  rw [← Nat.pow_add, ← Nat.pow_mul]
  exact Nat.pow_le_pow_right (by decide) (by omega)
theorem any_all (l : List Int) : (l.any fun z => z != 0) = !(l.all fun z => decide (z = 0)) := by
  induction l with
  | nil => rfl
  | cons x l ih =>
    rw [List.any_cons, List.all_cons, ih]
    by_cases h : x = 0 <;> simp [h]
theorem fdiv_two (z : Int) : z.fdiv 2 = z / 2 := Int.fdiv_eq_ediv_of_nonneg _ (by decide)
theorem half_le (z : Int) : (z / 2).natAbs ≤ z.natAbs + 1 := by omega
theorem wleast_length {k A : List Int} (hd : Rf.Deg k) (hlen : A.length = k.length) : (Rf.wholeLeast k A).length ≤ 5 := by
  unfold Rf.wholeLeast
  split
  · show 2 ≤ 5; decide
  · split
    · show 3 ≤ 5; decide
    · rw [Rf.wpoly_length hd hlen]
      have := hd.2; omega
theorem places_cons (q : Rat) (v : Rf.L) : Rf.placesQ (q :: v) = Rf.frac q ++ Rf.placesQ v := rfl
section
variable {P : Program} {w : World} {K : PySem.W.Frag} {mg : Str → Option Value} {base : Heap}
abbrev s_whole_least : Stmt := topS 17
abbrev N_whole_least : List Str := ["coefficients", "above", "polynomial", "a", "b"]
theorem sc_whole_least : FnScope N_whole_least ["coefficients", "above"] (defScope s_whole_least) := ⟨rfl, rfl, rfl, by decide +kernel, rfl, by decide +kernel, by decide +kernel⟩
def spWLeast : Sp := fun vs H Q _ => ∃ (a b : Addr) (k A : List Int), vs = [.ref a, .ref b] ∧ LI H a k ∧ LI H b A ∧ A.length = k.length ∧ Rf.Deg k ∧ Rf.Bd 20 k ∧ Rf.Bd (2 ^ 300) A ∧ ∀ H' p, Same H H' → LI H' p (Rf.wholeLeast k A) → Q (.ref p) H'
theorem ok_whole_least {f : Addr} {fd : FuncData} (F : Fun K "whole_least" "whole_least" s_whole_least f fd) (B : Bt mg) (C_whole_polynomial : CalN P w K mg base 4 "whole_polynomial" ["coefficients", "above"] spWPoly) : FnOk P w K mg base CX0 5 f fd ["coefficients", "above"] spWLeast := by
  obtain ⟨_, g_whole_polynomial, _, G_whole_polynomial, k_whole_polynomial, b_whole_polynomial⟩ := C_whole_polynomial
  refine F.ok sc_whole_least (fun vs H Q E h => ?_) (fun cdv A outer s H vs Q E hr h => ?_)
  · obtain ⟨a, b, k, xs, rfl, _⟩ := h
    rfl
  · obtain ⟨a, b, k, A, rfl, ha, hb, hlen, hd, hk, hA, q⟩ := h
    refine ⟨_, (pss_cons (ps_if (pt_not (pt_val (pe_callB (cr_anyI rfl) (by rfl) B.any (by decide +kernel) (pa_cons (pe_slice (show SlR _ (rSlL K) from sl_list) (pv 1) (po_some pe_int) po_none) pa_nil)))) (pss_one (ps_ret (pe_lst (pa_cons (pe_un un_neg (pe_ix (show IxR _ (rIxL K) from ix_list) (pv 1) pe_int (fun _ _ => rfl))) (pa_cons pe_int pa_nil))))) pss_nil)
        (pss_cons (ps_set (i := 2) sc_whole_least.nd rfl (Or.inl rfl) (pe_call G_whole_polynomial (hr.mono (by omega)) (by rfl) g_whole_polynomial k_whole_polynomial b_whole_polynomial .nil pass0 (pa_cons (pv 0) (pa_cons (pv 1) pa_nil))))
        (pss_cons (ps_if (pt_cmpR op_eq (pe_callB (show CallR _ _ (rLenK K) from call_len_seq) (by rfl) B.len PySem.boot_len (pa_cons (pv 2) pa_nil)) pe_int (nomark _)) (pss_cons (ps_set (i := 3) sc_whole_least.nd rfl (Or.inl rfl) (pe_op op_fdivB (pe_ix (show IxR _ (rIxL K) from ix_list) (pv 2) pe_int (fun _ _ => rfl)) pe_int))
        (pss_cons (ps_set (i := 4) sc_whole_least.nd rfl (Or.inl rfl) (pe_op op_fdivB (pe_op op_sub (pe_ix (show IxR _ (rIxL K) from ix_list) (pv 2) pe_int (fun _ _ => rfl)) (pe_op op_mulW (pv 3) (pv 3))) pe_int))
        (pss_one (ps_if (pt_cmpR (op_eqD hr.units) (pv 2) (pe_lst (pa_cons (pe_op op_mulW (pv 4) (pv 4)) (pa_cons (pe_op op_mulW (pe_op op_mulW pe_int (pv 3)) (pv 4)) (pa_cons (pe_op op_add (pe_op op_mulW (pv 3) (pv 3)) (pe_op op_mulW pe_int (pv 4))) (pa_cons (pe_op op_mulW pe_int (pv 3)) (pa_cons pe_int pa_nil)))))) (nomark _)) (pss_one (ps_ret (pe_lst (pa_cons (pv 4) (pa_cons (pv 3) (pa_cons pe_int pa_nil)))))) pss_nil)))) pss_nil)
        (pss_one (ps_ret (pv 2)))))), ?_⟩
    have h1 : 1 ≤ k.length := by have := hd.1; omega
    have h4 := hd.2
    have hwl : Rf.wholeLeast k A = _ := rfl
    obtain ⟨x0, xr, rfl⟩ : ∃ x0 xr, A = x0 :: xr := by
      cases A with
      | nil => simp at hlen; omega
      | cons x0 xr => exact ⟨x0, xr, rfl⟩
    refine ⟨_, rfl, 1, rfl, b, _, rfl, LI.seq hb, fun o1 n1 => ?_⟩
    have ec : cutV ((x0 :: xr).map V.int) (some 1) none = xr.map V.int := cut_from _ 1
    rw [ec]
    have s1 : Same H (upd H o1 (.lst (xr.map V.int))) := same_new n1
    have lo1 : LI (upd H o1 (.lst (xr.map V.int))) o1 xr := upd_same
    generalize upd H o1 (.lst (xr.map V.int)) = H1 at *
    refine ⟨o1, xr, rfl, LI.seq lo1, _, rfl, ?_⟩
    by_cases hz : (xr.all fun z => decide (z = 0)) = true
    · have hany : (xr.any fun z => z != 0) = false := by rw [any_all, hz]; rfl
      rw [hany]
      refine iteT ⟨_, rfl, b, _, 0, .int x0, rfl, rfl, LI.seq (s1 _ _ hb), atI_nat (j := 0) rfl, _, rfl, (by show 2 ≤ sizeLine; decide), fun o2 n2 => ?_⟩
      refine q _ o2 (s1.trans (same_new n2)) ?_
      have e : Rf.wholeLeast k (x0 :: xr) = [-x0, 1] := if_pos hz
      rw [e]
      exact upd_same
    · rw [Bool.not_eq_true] at hz
      have hany : (xr.any fun z => z != 0) = true := by rw [any_all, hz]; rfl
      rw [hany]
      refine iteF ?_
      have hz' : ¬ ((x0 :: xr).tail.all fun z => decide (z = 0)) = true := by rw [List.tail_cons, hz]; decide
      refine ⟨_, rfl, _, rfl, a, b, k, x0 :: xr, rfl, s1 _ _ ha, s1 _ _ hb, hlen, hd, hk, hA, fun H2 pp s2 lpp => ?_⟩
      have hpl := Rf.wpoly_length hd hlen
      have hpb := wpoly_bd hd hk hlen hA
      have e1 : Rf.wholeLeast k (x0 :: xr) = if (Rf.wpolyI k (x0 :: xr)).length = 5 ∧ Rf.wpolyI k (x0 :: xr) = [(((Rf.wpolyI k (x0 :: xr)).getD 2 0 - (Rf.wpolyI k (x0 :: xr)).getD 3 0 / 2 * ((Rf.wpolyI k (x0 :: xr)).getD 3 0 / 2)) / 2) * (((Rf.wpolyI k (x0 :: xr)).getD 2 0 - (Rf.wpolyI k (x0 :: xr)).getD 3 0 / 2 * ((Rf.wpolyI k (x0 :: xr)).getD 3 0 / 2)) / 2), 2 * ((Rf.wpolyI k (x0 :: xr)).getD 3 0 / 2) * (((Rf.wpolyI k (x0 :: xr)).getD 2 0 - (Rf.wpolyI k (x0 :: xr)).getD 3 0 / 2 * ((Rf.wpolyI k (x0 :: xr)).getD 3 0 / 2)) / 2), (Rf.wpolyI k (x0 :: xr)).getD 3 0 / 2 * ((Rf.wpolyI k (x0 :: xr)).getD 3 0 / 2) + 2 * (((Rf.wpolyI k (x0 :: xr)).getD 2 0 - (Rf.wpolyI k (x0 :: xr)).getD 3 0 / 2 * ((Rf.wpolyI k (x0 :: xr)).getD 3 0 / 2)) / 2), 2 * ((Rf.wpolyI k (x0 :: xr)).getD 3 0 / 2), 1]
        then [((Rf.wpolyI k (x0 :: xr)).getD 2 0 - (Rf.wpolyI k (x0 :: xr)).getD 3 0 / 2 * ((Rf.wpolyI k (x0 :: xr)).getD 3 0 / 2)) / 2, (Rf.wpolyI k (x0 :: xr)).getD 3 0 / 2, 1] else Rf.wpolyI k (x0 :: xr) := if_neg hz'
      clear hwl
      rw [e1] at q
      generalize Rf.wpolyI k (x0 :: xr) = W at *
      refine ⟨_, rfl, pp, _, rfl, .inl (LI.seq lpp), rfl, _, rfl, ?_⟩
      by_cases h5 : W.length = 5
      · obtain ⟨p0, p1, p2, p3, p4, rfl⟩ : ∃ p0 p1 p2 p3 p4, W = [p0, p1, p2, p3, p4] := by
          match W, h5 with
          | [p0, p1, p2, p3, p4], _ => exact ⟨_, _, _, _, _, rfl⟩
        have e : decide (V.int ((([p0, p1, p2, p3, p4] : List Int).map V.int).length : Int) = V.int 5) = true := decide_eq_true rfl
        rw [e]
        have q' : ∀ H' p, Same H H' → LI H' p (if [p0, p1, p2, p3, p4] = [((p2 - p3 / 2 * (p3 / 2)) / 2) * ((p2 - p3 / 2 * (p3 / 2)) / 2), 2 * (p3 / 2) * ((p2 - p3 / 2 * (p3 / 2)) / 2), p3 / 2 * (p3 / 2) + 2 * ((p2 - p3 / 2 * (p3 / 2)) / 2), 2 * (p3 / 2), 1] then [(p2 - p3 / 2 * (p3 / 2)) / 2, p3 / 2, 1] else [p0, p1, p2, p3, p4]) → Q (.ref p) H' := by
          intro H' p s' l'
          refine q H' p s' ?_
          have ea : ∀ (X : Prop) [Decidable X] (u v : List Int), (if (([p0, p1, p2, p3, p4] : List Int).length = 5 ∧ X) then u else v) = if X then u else v := by
            intro X _ u v
            by_cases hX : X
            · rw [if_pos ⟨rfl, hX⟩, if_pos hX]
            · rw [if_neg (fun z => hX z.2), if_neg hX]
          rw [ea]
          exact l'
        have b3 : p3.natAbs ≤ 2 ^ 1500 := hpb p3 (by simp)
        have b2 : p2.natAbs ≤ 2 ^ 1500 := hpb p2 (by simp)
        have ba : (p3 / 2).natAbs < 2 ^ 1502 := by have := half_le p3; omega
        have baa : (p3 / 2 * (p3 / 2)).natAbs < 2 ^ 3004 := wide_lt ba ba
        have bb : ((p2 - p3 / 2 * (p3 / 2)) / 2).natAbs < 2 ^ 3010 := by
          have := half_le (p2 - p3 / 2 * (p3 / 2))
          generalize p3 / 2 * (p3 / 2) = z at *
          omega
        refine iteT ⟨_, rfl, pp, _, 3, .int p3, rfl, rfl, LI.seq lpp, atI_nat (j := 3) rfl, _, _, rfl, rfl, divB_of (b := 2) (by decide) (by decide) (by decide) (by decide), ?_⟩
        show tSeq _ _ _ ([some (.ref a), some (.ref b), some (.ref pp), some (.int (p3.fdiv 2)), none]) H2
        rw [fdiv_two]
        generalize hα : p3 / 2 = α at *
        refine ⟨_, rfl, pp, _, 2, .int p2, rfl, rfl, LI.seq lpp, atI_nat (j := 2) rfl, _, rfl, _, rfl, _, _, rfl, rfl, wide_mul ba ba (by decide) (by decide) (by decide), _, _, rfl, rfl, _, _, rfl, rfl, divB_of (b := 2) (by decide) (by decide) (by decide) (by decide), ?_⟩
        dsimp only
        rw [fdiv_two]
        generalize hβ : (p2 - α * α) / 2 = β at *
        have b2a : (2 * α).natAbs < 2 ^ 1504 := by omega
        refine ⟨_, rfl, _, rfl, _, rfl, _, _, rfl, rfl, wide_mul bb bb (by decide) (by decide) (by decide), _, rfl, _, _, rfl, rfl, wide_mul (a := 2) (by decide) ba (by decide) (by decide) (by decide), _, rfl, _, _, rfl, rfl, wide_mul b2a bb (by decide) (by decide) (by decide), _, rfl, _, rfl, _, _, rfl, rfl, wide_mul ba ba (by decide) (by decide) (by decide), _, rfl, _, _, rfl, rfl, wide_mul (a := 2) (by decide) bb (by decide) (by decide) (by decide), _, _, rfl, rfl, _, rfl, _, _, rfl, rfl, wide_mul (a := 2) (by decide) ba (by decide) (by decide) (by decide), (by show 5 ≤ sizeLine; decide), fun o3 n3 => ?_⟩
        have s3 : Same H2 (upd H2 o3 (.lst [.int (β * β), .int (2 * α * β), .int (α * α + 2 * β), .int (2 * α), .int 1])) := same_new n3
        refine eqD_ints (xs := [p0, p1, p2, p3, p4]) (ys := [β * β, 2 * α * β, α * α + 2 * β, 2 * α, 1]) (s3 _ _ lpp) upd_same ⟨_, rfl, ?_⟩
        by_cases hW : ([p0, p1, p2, p3, p4] : List Int) = [β * β, 2 * α * β, α * α + 2 * β, 2 * α, 1]
        · rw [decide_eq_true hW]
          refine iteT ⟨_, rfl, _, rfl, (by show 3 ≤ sizeLine; decide), fun o4 n4 => ?_⟩
          refine q' _ o4 (s1.trans (s2.trans (s3.trans (same_new n4)))) ?_
          rw [if_pos hW]
          exact upd_same
        · rw [decide_eq_false hW]
          refine iteF ⟨_, rfl, q' _ pp (s1.trans (s2.trans s3)) ?_⟩
          rw [if_neg hW]
          exact s3 _ _ lpp
      · have e : decide (V.int ((W.map V.int).length : Int) = V.int 5) = false := by
          apply decide_eq_false
          intro z
          have := V.int.inj z
          rw [List.length_map] at this
          omega
        rw [e]
        refine iteF ⟨_, rfl, q _ pp (s1.trans s2) ?_⟩
        rw [if_neg (fun z => h5 z.1)]
        exact lpp
abbrev s_with_roots_divided : Stmt := topS 18
abbrev N_with_roots_divided : List Str := ["polynomial", "below", "fractions", "power", "coefficient"]
theorem sc_with_roots_divided : FnScope N_with_roots_divided ["polynomial", "below"] (defScope s_with_roots_divided) := ⟨rfl, rfl, rfl, by decide +kernel, rfl, by decide +kernel, by decide +kernel⟩
def spDivided : Sp := fun vs H Q _ => ∃ (a : Addr) (l : List Int) (b : Int), vs = [.ref a, .int b] ∧ LI H a l ∧ l.length ≤ 5 ∧ b ≠ 0 ∧ b.natAbs < 2 ^ 241 ∧ ∀ H' p, Same H H' → LI H' p (Rf.placesQ (Rf.wrd b l)) → Q (.ref p) H'
theorem ok_with_roots_divided {f : Addr} {fd : FuncData} (F : Fun K "with_roots_divided" "with_roots_divided" s_with_roots_divided f fd) (B : Bt mg) (C_in_lowest_terms : CalN P w K mg base 2 "in_lowest_terms" ["above", "below"] spLow) : FnOk P w K mg base CX0 3 f fd ["polynomial", "below"] spDivided := by
  obtain ⟨_, g_in_lowest_terms, _, G_in_lowest_terms, k_in_lowest_terms, b_in_lowest_terms⟩ := C_in_lowest_terms
  refine F.ok sc_with_roots_divided (fun vs H Q E h => ?_) (fun cdv A outer s H vs Q E hr h => ?_)
  · obtain ⟨a, l, b, rfl, _⟩ := h
    rfl
  · obtain ⟨a, l, b, rfl, ha, hl, hb, hb2, q⟩ := h
    refine ⟨_, (pss_cons (ps_set (i := 2) sc_with_roots_divided.nd rfl (Or.inl rfl) (pe_lst pa_nil))
        (pss_cons (ps_set (i := 3) sc_with_roots_divided.nd rfl (Or.inl rfl) pe_int)
        (pss_cons (ps_for PassesOwn.never rfl (pi_reversed (by rfl) B.reversed (pa_cons (pv 0) pa_nil)) (pg_name (i := 4) sc_with_roots_divided.nd rfl (Or.inl rfl)) (pss_cons (ps_set (i := 2) sc_with_roots_divided.nd rfl (Or.inl rfl) (pe_op op_cat (pe_call G_in_lowest_terms (hr.mono (by omega)) (by rfl) g_in_lowest_terms k_in_lowest_terms b_in_lowest_terms .nil pass0 (pa_cons (pv 4) (pa_cons (pv 3) pa_nil))) (pv 2)))
        (pss_one (ps_set (i := 3) sc_with_roots_divided.nd rfl (Or.inl rfl) (pe_op op_mulW (pv 3) (pv 1))))))
        (pss_one (ps_ret (pv 2)))))), ?_⟩
    have hp0 : ∀ i, i ≤ 5 → (b ^ i).natAbs < 2 ^ 1500 := by
      intro i hi
      rw [Int.natAbs_pow]
      have g2 := Nat.pow_le_pow_left (Nat.le_of_lt hb2) i
      refine Nat.lt_of_le_of_lt g2 ?_
      rw [← Nat.pow_mul]
      exact Nat.pow_lt_pow_right (by decide) (by omega)
    refine ⟨Nat.zero_le _, fun o no => ?_⟩
    have s1 : Same H (upd H o (.lst [])) := same_new no
    have lo : LI (upd H o (.lst [])) o [] := upd_same
    generalize upd H o (.lst []) = H1 at *
    refine ⟨_, rfl, a, _, rfl, LI.seq (s1 _ _ ha), ?_⟩
    refine for_it (walk_rev (K := K) (a := a) (xs := l.map V.int)) (fun i σ H' => ∃ (o' : Addr) (y : Option V), σ = [some (.ref a), some (.int b), some (.ref o'), some (.int (b ^ i)), y] ∧ Same H1 H' ∧ LI H' o' (Rf.placesQ (Rf.wrd b (l.drop (l.length - i))))) ⟨o, none, by rw [Int.pow_zero]; rfl, Same.refl _, by rw [Nat.sub_zero, List.drop_length]; exact lo⟩ (fun i σ H' _ ⟨_, _, _, s2, _⟩ => LI.seq (s2 _ _ (s1 _ _ ha))) ?_ ?_
    · rintro i x σ H' H3 hi ⟨o', y, rfl, s2, l2⟩ ⟨rfl, hx⟩
      rw [List.length_map] at hi hx
      obtain ⟨z, hz, rfl⟩ := int_at hx
      refine ⟨_, rfl, _, rfl, z, b ^ i, rfl, Int.pow_ne_zero hb, lt_pow (hp0 i (by omega)) (by decide), fun H2 p s3 lp => ?_⟩
      refine ⟨_, rfl, p, o', _, _, rfl, rfl, lp, s3 _ _ l2, ?_, fun o2 n2 => ?_⟩
      · rw [List.length_map, List.length_map, places_length, Rf.wrd_length, List.length_drop]
        exact Nat.le_of_lt (small1000 (by show 2 + _ ≤ 1000; omega))
      have s4 : Same H2 (upd H2 o2 (.lst ((Rf.frac ((z : Rat) / ((b ^ i : Int) : Rat))).map V.int ++ (Rf.placesQ (Rf.wrd b (l.drop (l.length - i)))).map V.int))) := same_new n2
      refine ⟨_, rfl, _, rfl, _, _, rfl, rfl, wide_mul (hp0 i (by omega)) hb2 (by decide) (by decide) (by decide), o2, some (.int z), ?_, s2.trans (s3.trans s4), ?_⟩
      · rw [Int.pow_succ]; rfl
      · have e : l.drop (l.length - (i + 1)) = z :: l.drop (l.length - i) := by
          have h9 := (List.getElem?_eq_some_iff.mp hz)
          obtain ⟨h10, h11⟩ := h9
          have e2 : l.length - (i + 1) = l.length - 1 - i := by omega
          rw [e2, List.drop_eq_getElem_cons h10, h11]
          have e3 : l.length - 1 - i + 1 = l.length - i := by omega
          rw [e3]
        have e4 : Rf.wrd b (z :: l.drop (l.length - i)) = (z : Rat) / ((b ^ i : Int) : Rat) :: Rf.wrd b (l.drop (l.length - i)) := by
          have e5 : (l.drop (l.length - i)).length = i := by rw [List.length_drop]; omega
          show (z : Rat) / ((b ^ (l.drop (l.length - i)).length : Int) : Rat) :: _ = _
          rw [e5]
        rw [e, e4, places_cons]
        show (upd _ o2 _) o2 = _
        rw [upd_same, List.map_append]
    · rintro σ H' ⟨o', y, rfl, s2, l2⟩
      rw [List.length_map, Nat.sub_self, List.drop_zero] at l2
      exact ⟨_, rfl, q H' o' (s1.trans s2) l2⟩
abbrev s_polynomial_of : Stmt := topS 19
abbrev N_polynomial_of : List Str := ["coefficients", "number", "above", "below"]
theorem sc_polynomial_of : FnScope N_polynomial_of ["coefficients", "number"] (defScope s_polynomial_of) := ⟨rfl, rfl, rfl, by decide +kernel, rfl, by decide +kernel, by decide +kernel⟩
def spPolyOf : Sp := fun vs H Q _ => ∃ (c a : Addr) (k : List Int) (v : Rf.L), vs = [.ref c, .ref a] ∧ LI H c k ∧ LI H a (Rf.placesQ v) ∧ Sm v ∧ Rf.Deg k ∧ Rf.Bd 20 k ∧ v.length = k.length ∧ ∀ H' p, Same H H' → LI H' p (Rf.placesQ (Rf.charR k v)) → Q (.ref p) H'
theorem ok_polynomial_of {f : Addr} {fd : FuncData} (F : Fun K "polynomial_of" "polynomial_of" s_polynomial_of f fd) (B : Bt mg) (C_over_one_below : CalN P w K mg base 2 "over_one_below" ["places"] spOver) (C_whole_polynomial : CalN P w K mg base 4 "whole_polynomial" ["coefficients", "above"] spWPoly) (C_with_roots_divided : CalN P w K mg base 3 "with_roots_divided" ["polynomial", "below"] spDivided) : FnOk P w K mg base CX0 5 f fd ["coefficients", "number"] spPolyOf := by
  obtain ⟨_, g_over_one_below, _, G_over_one_below, k_over_one_below, b_over_one_below⟩ := C_over_one_below
  obtain ⟨_, g_whole_polynomial, _, G_whole_polynomial, k_whole_polynomial, b_whole_polynomial⟩ := C_whole_polynomial
  obtain ⟨_, g_with_roots_divided, _, G_with_roots_divided, k_with_roots_divided, b_with_roots_divided⟩ := C_with_roots_divided
  refine F.ok sc_polynomial_of (fun vs H Q E h => ?_) (fun cdv A outer s H vs Q E hr h => ?_)
  · obtain ⟨c, a, k, v, rfl, _⟩ := h
    rfl
  · obtain ⟨c, a, k, v, rfl, hc, ha, hv, hd, hk, hvl, q⟩ := h
    refine ⟨_, (pss_cons (ps_asg (pe_call G_over_one_below (hr.mono (by omega)) (by rfl) g_over_one_below k_over_one_below b_over_one_below .nil pass0 (pa_cons (pv 1) pa_nil)) (pg_tup rfl (pgs_cons (pg_name (i := 2) sc_polynomial_of.nd rfl (Or.inl rfl)) (pgs_cons (pg_name (i := 3) sc_polynomial_of.nd rfl (Or.inl rfl)) pgs_nil))))
        (pss_one (ps_ret (pe_call G_with_roots_divided (hr.mono (by omega)) (by rfl) g_with_roots_divided k_with_roots_divided b_with_roots_divided .nil pass0 (pa_cons (pe_call G_whole_polynomial (hr.mono (by omega)) (by rfl) g_whole_polynomial k_whole_polynomial b_whole_polynomial .nil pass0 (pa_cons (pv 0) (pa_cons (pv 2) pa_nil))) (pa_cons (pv 3) pa_nil)))))), ?_⟩
    refine ⟨_, rfl, a, v, rfl, ha, hv, fun H1 t1 p1 s1 ht1 hp1 => ?_⟩
    refine ⟨t1, _, rfl, .inl (.inl ht1), rfl, _, _, rfl, _, _, rfl, rfl, ?_⟩
    refine ⟨_, rfl, _, rfl, c, p1, k, _, rfl, s1 _ _ hc, hp1, by rw [Rf.abv_length, hvl], hd, hk, abv_bd hv, fun H3 p3 s3 l3 => ?_⟩
    have hlc := Rf.lcmOf_ne v
    refine ⟨_, rfl, p3, _, _, rfl, l3, ?_, (by omega), lcm_lt hv, fun H7 p7 s7 l7 => ?_⟩
    · rw [Rf.wpoly_length hd (by rw [Rf.abv_length, hvl])]
      have := hd.2; omega
    · rw [Rf.poly_places hd v hvl] at l7
      exact q H7 p7 (s1.trans (s3.trans s7)) l7
def leastR (k : List Int) (v : Rf.L) : Rf.L := Rf.wrd (Rf.lcmOf v : Int) (Rf.wholeLeast k (Rf.abvOf v))
abbrev s_least_of : Stmt := topS 20
abbrev N_least_of : List Str := ["coefficients", "number", "above", "below"]
theorem sc_least_of : FnScope N_least_of ["coefficients", "number"] (defScope s_least_of) := ⟨rfl, rfl, rfl, by decide +kernel, rfl, by decide +kernel, by decide +kernel⟩
def spLeastOf : Sp := fun vs H Q _ => ∃ (c a : Addr) (k : List Int) (v : Rf.L), vs = [.ref c, .ref a] ∧ LI H c k ∧ LI H a (Rf.placesQ v) ∧ Sm v ∧ Rf.Deg k ∧ Rf.Bd 20 k ∧ v.length = k.length ∧ ∀ H' p, Same H H' → LI H' p (Rf.placesQ (leastR k v)) → Q (.ref p) H'
theorem ok_least_of {f : Addr} {fd : FuncData} (F : Fun K "least_of" "least_of" s_least_of f fd) (B : Bt mg) (C_over_one_below : CalN P w K mg base 2 "over_one_below" ["places"] spOver) (C_whole_least : CalN P w K mg base 5 "whole_least" ["coefficients", "above"] spWLeast) (C_with_roots_divided : CalN P w K mg base 3 "with_roots_divided" ["polynomial", "below"] spDivided) : FnOk P w K mg base CX0 6 f fd ["coefficients", "number"] spLeastOf := by
  obtain ⟨_, g_over_one_below, _, G_over_one_below, k_over_one_below, b_over_one_below⟩ := C_over_one_below
  obtain ⟨_, g_whole_least, _, G_whole_least, k_whole_least, b_whole_least⟩ := C_whole_least
  obtain ⟨_, g_with_roots_divided, _, G_with_roots_divided, k_with_roots_divided, b_with_roots_divided⟩ := C_with_roots_divided
  refine F.ok sc_least_of (fun vs H Q E h => ?_) (fun cdv A outer s H vs Q E hr h => ?_)
  · obtain ⟨c, a, k, v, rfl, _⟩ := h
    rfl
  · obtain ⟨c, a, k, v, rfl, hc, ha, hv, hd, hk, hvl, q⟩ := h
    refine ⟨_, (pss_cons (ps_asg (pe_call G_over_one_below (hr.mono (by omega)) (by rfl) g_over_one_below k_over_one_below b_over_one_below .nil pass0 (pa_cons (pv 1) pa_nil)) (pg_tup rfl (pgs_cons (pg_name (i := 2) sc_least_of.nd rfl (Or.inl rfl)) (pgs_cons (pg_name (i := 3) sc_least_of.nd rfl (Or.inl rfl)) pgs_nil))))
        (pss_one (ps_ret (pe_call G_with_roots_divided (hr.mono (by omega)) (by rfl) g_with_roots_divided k_with_roots_divided b_with_roots_divided .nil pass0 (pa_cons (pe_call G_whole_least (hr.mono (by omega)) (by rfl) g_whole_least k_whole_least b_whole_least .nil pass0 (pa_cons (pv 0) (pa_cons (pv 2) pa_nil))) (pa_cons (pv 3) pa_nil)))))), ?_⟩
    refine ⟨_, rfl, a, v, rfl, ha, hv, fun H1 t1 p1 s1 ht1 hp1 => ?_⟩
    refine ⟨t1, _, rfl, .inl (.inl ht1), rfl, _, _, rfl, _, _, rfl, rfl, ?_⟩
    refine ⟨_, rfl, _, rfl, c, p1, k, _, rfl, s1 _ _ hc, hp1, by rw [Rf.abv_length, hvl], hd, hk, abv_bd hv, fun H3 p3 s3 l3 => ?_⟩
    have hlc := Rf.lcmOf_ne v
    refine ⟨_, rfl, p3, _, _, rfl, l3, wleast_length hd (by rw [Rf.abv_length, hvl]), (by omega), lcm_lt hv, fun H7 p7 s7 l7 => ?_⟩
    exact q H7 p7 (s1.trans (s3.trans s7)) l7
end
end Rp

set_option Elab.async false
set_option linter.all false
set_option maxRecDepth 100000
set_option maxHeartbeats 2000000
set_option exponentiation.threshold 100000
namespace Rp
open PySem PySem.Spec PyProof.Rows L2
/-- what value_at holds behind the coefficients of l -/
def valP (l : List Int) (x y : Int) : Int × Int := l.foldr (fun c (p : Int × Int) => (p.1 * x + c * p.2, p.2 * y)) (0, 1)
theorem valP_bd {x y : Int} (hx : x.natAbs ≤ 2 ^ 1000) (hy : y.natAbs ≤ 2 ^ 1000) : ∀ l : List Int, Rf.Bd (2 ^ 60000) l → (valP l x y).1.natAbs ≤ 2 ^ (60000 + 1001 * l.length) ∧ (valP l x y).2.natAbs ≤ 2 ^ (1000 * l.length)
  | [], _ => ⟨Nat.zero_le _, Nat.le_refl 1⟩
  | c :: l, h => by
    obtain ⟨h1, h2⟩ := valP_bd hx hy l (fun z hz => h z (List.mem_cons_of_mem _ hz))
    have hc := h c (List.mem_cons_self ..)
    refine ⟨?_, ?_⟩
    · show ((valP l x y).1 * x + c * (valP l x y).2).natAbs ≤ _
      have g1 := Rf.natAbs_mul_le h1 hx
      have g2 := Rf.natAbs_mul_le hc h2
      rw [← Nat.pow_add] at g1 g2
      have g3 : (2 : Nat) ^ (60000 + 1001 * l.length + 1000) * 2 = 2 ^ (60000 + 1001 * (c :: l).length) := by
        have e5 : 60000 + 1001 * l.length + 1000 + 1 = 60000 + 1001 * (c :: l).length := by rw [List.length_cons]; omega
        rw [← Nat.pow_succ]
        exact congrArg (fun n => 2 ^ n) e5
      have g4 : (2 : Nat) ^ (60000 + 1000 * l.length) ≤ 2 ^ (60000 + 1001 * l.length + 1000) := Nat.pow_le_pow_right (by decide) (by omega)
      have g5 := Int.natAbs_add_le ((valP l x y).1 * x) (c * (valP l x y).2)
      omega
    · show ((valP l x y).2 * y).natAbs ≤ _
      have g1 := Rf.natAbs_mul_le h2 hy
      rw [← Nat.pow_add] at g1
      have g3 : 1000 * l.length + 1000 = 1000 * (c :: l).length := by simp; omega
      rw [g3] at g1
      exact g1
theorem max_bnd {l : List Int} {m : Int} (h1 : m ∈ l.map (fun z => if z < 0 then -z else z)) (h2 : ∀ y ∈ l.map (fun z : Int => if z < 0 then -z else z), y ≤ m) : 1 + m = (Rf.bndI l : Int) := by
  have hm : ∀ (l : List Int) (a : Nat), (∀ z ∈ l, z.natAbs ≤ l.foldl (fun m a => max m a.natAbs) a) ∧ a ≤ l.foldl (fun m a => max m a.natAbs) a ∧ (l.foldl (fun m a => max m a.natAbs) a = a ∨ ∃ z ∈ l, l.foldl (fun m a => max m a.natAbs) a = z.natAbs) := by
    intro l
    induction l with
    | nil => intro a; exact ⟨fun z hz => by simp at hz, Nat.le_refl _, .inl rfl⟩
    | cons x l ih =>
      intro a
      obtain ⟨i1, i2, i3⟩ := ih (max a x.natAbs)
      refine ⟨fun z hz => ?_, ?_, ?_⟩
      · rcases List.mem_cons.mp hz with rfl | hz
        · exact Nat.le_trans (Nat.le_max_right _ _) i2
        · exact i1 z hz
      · exact Nat.le_trans (Nat.le_max_left _ _) i2
      · rcases i3 with i3 | ⟨z, hz, i3⟩
        · rw [List.foldl_cons, i3]
          by_cases hx : a ≤ x.natAbs
          · exact .inr ⟨x, List.mem_cons_self .., Nat.max_eq_right hx⟩
          · exact .inl (Nat.max_eq_left (by omega))
        · exact .inr ⟨z, List.mem_cons_of_mem _ hz, i3⟩
  obtain ⟨k1, k2, k3⟩ := hm l 0
  have hb : Rf.bndI l = 1 + l.foldl (fun m a => max m a.natAbs) 0 := rfl
  rw [hb]
  generalize l.foldl (fun m a => max m a.natAbs) 0 = X at *
  obtain ⟨z, hz, rfl⟩ := List.mem_map.mp h1
  have g1 := k1 z hz
  rcases k3 with k3 | ⟨y, hy, k3⟩
  · split <;> omega
  · have g2 := h2 _ (List.mem_map_of_mem hy)
    split at g2 <;> split at g2 <;> split <;> omega
theorem bnd_le {l : List Int} {M : Nat} (h : Rf.Bd M l) : Rf.bndI l ≤ 1 + M := by
  have hm : ∀ (l : List Int) (a : Nat), a ≤ M → Rf.Bd M l → l.foldl (fun m a => max m a.natAbs) a ≤ M := by
    intro l
    induction l with
    | nil => intro a ha _; exact ha
    | cons x l ih =>
      intro a ha hl
      exact ih _ (Nat.max_le.mpr ⟨ha, hl x (List.mem_cons_self ..)⟩) (fun z hz => hl z (List.mem_cons_of_mem _ hz))
  have := hm l 0 (Nat.zero_le _) h
  show 1 + _ ≤ _
  omega
theorem roots_filter (l : List Int) : ((List.range (2 * Rf.bndI l + 1)).filter fun (i : Nat) => decide (Rf.valueI l (-(Rf.bndI l : Int) + (i : Int)) 1 = 0)).map (fun (i : Nat) => -(Rf.bndI l : Int) + (i : Int)) = Rf.wholeRoots l := by
  unfold Rf.wholeRoots
  rw [List.filter_map]
  have e : (fun (i : Nat) => -(Rf.bndI l : Int) + (i : Int)) = fun (i : Nat) => (i : Int) - (Rf.bndI l : Int) := by
    funext i; omega
  have e2 : (fun (i : Nat) => decide (Rf.valueI l (-(Rf.bndI l : Int) + (i : Int)) 1 = 0)) = (fun x => decide (Rf.valueI l x 1 = 0)) ∘ fun (i : Nat) => (i : Int) - (Rf.bndI l : Int) := by
    funext i
    show decide (Rf.valueI l (-(Rf.bndI l : Int) + (i : Int)) 1 = 0) = decide (Rf.valueI l ((i : Int) - (Rf.bndI l : Int)) 1 = 0)
    have : -(Rf.bndI l : Int) + (i : Int) = (i : Int) - (Rf.bndI l : Int) := by omega
    rw [this]
  rw [e, e2]
section
variable {P : Program} {w : World} {K : PySem.W.Frag} {mg : Str → Option Value} {base : Heap}
abbrev s_value_at : Stmt := topS 21
abbrev N_value_at : List Str := ["polynomial", "above", "below", "value", "power", "coefficient"]
theorem sc_value_at : FnScope N_value_at ["polynomial", "above", "below"] (defScope s_value_at) := ⟨rfl, rfl, rfl, by decide +kernel, rfl, by decide +kernel, by decide +kernel⟩
def spValue : Sp := fun vs H Q _ => ∃ (a : Addr) (l : List Int) (x y : Int), vs = [.ref a, .int x, .int y] ∧ LI H a l ∧ l.length ≤ 8 ∧ Rf.Bd (2 ^ 60000) l ∧ x.natAbs ≤ 2 ^ 1000 ∧ y.natAbs ≤ 2 ^ 1000 ∧ ∀ H', Same H H' → Q (.int (Rf.valueI l x y)) H'
theorem ok_value_at {f : Addr} {fd : FuncData} (F : Fun K "value_at" "value_at" s_value_at f fd) (B : Bt mg) : FnOk P w K mg base CX0 1 f fd ["polynomial", "above", "below"] spValue := by
  refine F.ok sc_value_at (fun vs H Q E h => ?_) (fun cdv A outer s H vs Q E hr h => ?_)
  · obtain ⟨a, l, x, y, rfl, _⟩ := h
    rfl
  · obtain ⟨a, l, x, y, rfl, ha, hl, hlb, hx, hy, q⟩ := h
    refine ⟨_, (pss_cons (ps_set (i := 3) sc_value_at.nd rfl (Or.inl rfl) pe_int)
        (pss_cons (ps_set (i := 4) sc_value_at.nd rfl (Or.inl rfl) pe_int)
        (pss_cons (ps_for PassesOwn.never rfl (pi_reversed (by rfl) B.reversed (pa_cons (pv 0) pa_nil)) (pg_name (i := 5) sc_value_at.nd rfl (Or.inl rfl)) (pss_cons (ps_set (i := 3) sc_value_at.nd rfl (Or.inl rfl) (pe_op op_add (pe_op op_mulW (pv 3) (pv 1)) (pe_op op_mulW (pv 5) (pv 4))))
        (pss_one (ps_set (i := 4) sc_value_at.nd rfl (Or.inl rfl) (pe_op op_mulW (pv 4) (pv 2))))))
        (pss_one (ps_ret (pv 3)))))), ?_⟩
    refine ⟨_, rfl, a, _, rfl, LI.seq ha, ?_⟩
    refine for_it (walk_rev (K := K) (a := a) (xs := l.map V.int)) (fun i σ H' => ∃ (z : Option V), σ = [some (.ref a), some (.int x), some (.int y), some (.int (valP (l.drop (l.length - i)) x y).1), some (.int (valP (l.drop (l.length - i)) x y).2), z] ∧ H' = H) ⟨none, by rw [Nat.sub_zero, List.drop_length]; rfl, rfl⟩ (fun i σ H' _ ⟨_, _, e⟩ => by rw [e]; exact LI.seq ha) ?_ ?_
    · rintro i u σ H' H3 hi ⟨z0, rfl, rfl⟩ ⟨rfl, hu⟩
      rw [List.length_map] at hi hu
      obtain ⟨z, hz, rfl⟩ := int_at hu
      have e : l.drop (l.length - (i + 1)) = z :: l.drop (l.length - i) := by
        have h9 := (List.getElem?_eq_some_iff.mp hz)
        obtain ⟨h10, h11⟩ := h9
        have e2 : l.length - (i + 1) = l.length - 1 - i := by omega
        rw [e2, List.drop_eq_getElem_cons h10, h11]
        have e3 : l.length - 1 - i + 1 = l.length - i := by omega
        rw [e3]
      obtain ⟨g1, g2⟩ := valP_bd hx hy (l.drop (l.length - i)) (fun z hz => hlb z (List.mem_of_mem_drop hz))
      have g3 : (l.drop (l.length - i)).length ≤ 8 := by rw [List.length_drop]; omega
      have b1 : (valP (l.drop (l.length - i)) x y).1.natAbs < 2 ^ 100000 := Nat.lt_of_le_of_lt g1 (Nat.pow_lt_pow_right (by decide) (by omega))
      have b2 : (valP (l.drop (l.length - i)) x y).2.natAbs < 2 ^ 10000 := Nat.lt_of_le_of_lt g2 (Nat.pow_lt_pow_right (by decide) (by omega))
      have bx : x.natAbs < 2 ^ 1001 := Nat.lt_of_le_of_lt hx (Nat.pow_lt_pow_right (by decide) (by decide))
      have by_ : y.natAbs < 2 ^ 1001 := Nat.lt_of_le_of_lt hy (Nat.pow_lt_pow_right (by decide) (by decide))
      have bz : z.natAbs < 2 ^ 60001 := Nat.lt_of_le_of_lt (hlb z (mem_of_at hz)) (Nat.pow_lt_pow_right (by decide) (by decide))
      rw [e]
      refine ⟨_, rfl, _, rfl, _, _, rfl, rfl, wide_mul b1 bx (by decide) (by decide) (by decide), _, rfl, _, rfl, _, _, rfl, rfl, wide_mul bz b2 (by decide) (by decide) (by decide), _, _, rfl, rfl, ?_⟩
      exact ⟨_, rfl, _, rfl, _, _, rfl, rfl, wide_mul b2 by_ (by decide) (by decide) (by decide), some (.int z), rfl, rfl⟩
    · rintro σ H' ⟨z0, rfl, rfl⟩
      rw [List.length_map, Nat.sub_self, List.drop_zero]
      exact ⟨_, rfl, q _ (Same.refl _)⟩
abbrev s_bound_of_roots : Stmt := topS 22
abbrev N_bound_of_roots : List Str := ["polynomial", "coefficient"]
theorem sc_bound_of_roots : FnScope N_bound_of_roots ["polynomial"] (defScope s_bound_of_roots) := ⟨rfl, rfl, rfl, by decide +kernel, rfl, by decide +kernel, by decide +kernel⟩
def spBound : Sp := fun vs H Q _ => ∃ (a : Addr) (l : List Int), vs = [.ref a] ∧ LI H a l ∧ l ≠ [] ∧ l.length ≤ 8 ∧ ∀ H', Same H H' → Q (.int (Rf.bndI l : Int)) H'
theorem ok_bound_of_roots {f : Addr} {fd : FuncData} (F : Fun K "bound_of_roots" "bound_of_roots" s_bound_of_roots f fd) (B : Bt mg) : FnOk P w K mg base CX0 1 f fd ["polynomial"] spBound := by
  refine F.ok sc_bound_of_roots (fun vs H Q E h => ?_) (fun cdv A outer s H vs Q E hr h => ?_)
  · obtain ⟨a, l, rfl, _⟩ := h
    rfl
  · obtain ⟨a, l, rfl, ha, hne, hl, q⟩ := h
    refine ⟨_, (pss_one (ps_ret (pe_op op_add pe_int (pe_callB (cr_max rfl) (by rfl) B.max (by decide +kernel) (pa_cons (pe_lc (own := [("coefficient", 1)]) (g := gName 1) (tt := tYes) rfl sc_bound_of_roots.nd (pi_list (pv 0)) (blkOk_by (own := [("coefficient", 1)]) (N := N_bound_of_roots) (sc := defScope s_bound_of_roots) (by decide +kernel)) (fun _ _ _ _ _ => (pg_name (i := 1) sc_bound_of_roots.nd rfl (Or.inl rfl))) (fun _ _ _ _ _ => pts_nil) (fun _ _ _ _ _ => (pe_callB call_abs (by rfl) B.abs (by decide +kernel) (pa_cons (pv 1) pa_nil)))) pa_nil))))), ?_⟩
    refine ⟨_, rfl, a, rfl, ⟨_, LI.seq ha⟩, fun D nD => ?_⟩
    refine lc_listI (K := K) nD ha (by omega) (fun z => if z < 0 then -z else z) (fun _ => rfl) (fun x H5 RY _ _ hR => ⟨_, rfl, x, rfl, hR _ (Same.refl _)⟩) (fun H4 s4 l4 => ?_)
    refine ⟨D, _, rfl, LI.seq l4, ?_, fun m hm1 hm2 => ?_⟩
    · rw [List.length_map]
      cases l with
      | nil => exact absurd rfl hne
      | cons x l => simp
    · refine ⟨_, _, rfl, rfl, ?_⟩
      have h9 := q H4 s4
      rw [← max_bnd hm1 hm2] at h9
      exact h9
abbrev s_whole_roots : Stmt := topS 23
abbrev N_whole_roots : List Str := ["polynomial", "bound", "point"]
theorem sc_whole_roots : FnScope N_whole_roots ["polynomial"] (defScope s_whole_roots) := ⟨rfl, rfl, rfl, by decide +kernel, rfl, by decide +kernel, by decide +kernel⟩
def spRootsW : Sp := fun vs H Q _ => ∃ (a : Addr) (l : List Int), vs = [.ref a] ∧ LI H a l ∧ l ≠ [] ∧ l.length ≤ 8 ∧ Rf.Bd 1000 l ∧ ∀ H' p, Same H H' → LI H' p (Rf.wholeRoots l) → Q (.ref p) H'
theorem ok_whole_roots {f : Addr} {fd : FuncData} (F : Fun K "whole_roots" "whole_roots" s_whole_roots f fd) (B : Bt mg) (C_bound_of_roots : CalN P w K mg base 1 "bound_of_roots" ["polynomial"] spBound) (C_value_at : CalN P w K mg base 1 "value_at" ["polynomial", "above", "below"] spValue) : FnOk P w K mg base CX0 2 f fd ["polynomial"] spRootsW := by
  obtain ⟨_, g_bound_of_roots, _, G_bound_of_roots, k_bound_of_roots, b_bound_of_roots⟩ := C_bound_of_roots
  obtain ⟨_, g_value_at, _, G_value_at, k_value_at, b_value_at⟩ := C_value_at
  refine F.ok sc_whole_roots (fun vs H Q E h => ?_) (fun cdv A outer s H vs Q E hr h => ?_)
  · obtain ⟨a, l, rfl, _⟩ := h
    rfl
  · obtain ⟨a, l, rfl, ha, hne, hl, hb, q⟩ := h
    refine ⟨_, (pss_cons (ps_set (i := 1) sc_whole_roots.nd rfl (Or.inl rfl) (pe_call G_bound_of_roots (hr.mono (by omega)) (by rfl) g_bound_of_roots k_bound_of_roots b_bound_of_roots .nil pass0 (pa_cons (pv 0) pa_nil)))
        (pss_one (ps_ret (pe_lc (own := [("point", 2)]) (g := gName 2) rfl sc_whole_roots.nd (pi_range2 (by rfl) B.range (pa_cons (pe_un un_neg (pv 1)) (pa_cons (pe_op op_add (pv 1) pe_int) pa_nil))) (blkOk_by (own := [("point", 2)]) (N := N_whole_roots) (sc := defScope s_whole_roots) (by decide +kernel)) (fun _ _ _ _ _ => (pg_name (i := 2) sc_whole_roots.nd rfl (Or.inl rfl))) (fun _ _ _ _ _ => (pts_one (pt_cmpR op_eq (pe_call G_value_at (hr.mono (by omega)) (by rfl) g_value_at k_value_at b_value_at .nil pass0 (pa_cons (pv 0) (pa_cons (pv 2) (pa_cons pe_int pa_nil)))) pe_int (nomark _)))) (fun _ _ _ _ _ => (pv 2)))))), ?_⟩
    have hbl := bnd_le hb
    refine ⟨_, rfl, a, l, rfl, ha, hne, hl, fun H1 s1 => ?_⟩
    refine ⟨_, rfl, _, rfl, _, rfl, _, _, rfl, rfl, _, _, rfl, ⟨by omega, by omega, by omega, by omega⟩, fun D nD => ?_⟩
    have en : ((Rf.bndI l : Int) + 1 - -(Rf.bndI l : Int)).toNat = 2 * Rf.bndI l + 1 := by omega
    rw [en]
    refine lc_gen (walk_range) nD (Nat.lt_of_le_of_lt (by omega : 2 * Rf.bndI l + 1 ≤ 4000) (by decide)) (fun i => .int (-(Rf.bndI l : Int) + (i : Int))) (fun (i : Nat) => decide (Rf.valueI l (-(Rf.bndI l : Int) + (i : Int)) 1 = 0)) (fun H5 s5 => trivial) ?_ (fun H5 s5 hD => ?_)
    · rintro i x H4 H5 hi s5 ⟨rfl, rfl⟩ R RY hk1 hk2
      refine ⟨rfl, ?_⟩
      refine ⟨_, rfl, _, rfl, a, l, _, 1, rfl, s5 _ _ (s1 _ _ ha), hl, hb.mono (by
        have : (1000 : Nat) ≤ 2 ^ 10 := by decide
        exact Nat.le_trans this (Nat.pow_le_pow_right (by decide) (by decide))), ?_, Nat.one_le_two_pow, fun H6 s6 => ?_⟩
      · have h9 : (2 : Nat) ^ 20 ≤ 2 ^ 1000 := Nat.pow_le_pow_right (by decide) (by decide)
        omega
      · refine ⟨rfl, _, rfl, ?_⟩
        by_cases hv : Rf.valueI l (-(Rf.bndI l : Int) + (i : Int)) 1 = 0
        · have e : decide (V.int (Rf.valueI l (-(Rf.bndI l : Int) + (i : Int)) 1) = V.int 0) = true := decide_eq_true (by rw [hv])
          rw [e]
          exact ⟨_, rfl, hk1 (decide_eq_true hv) _ s6⟩
        · have e : decide (V.int (Rf.valueI l (-(Rf.bndI l : Int) + (i : Int)) 1) = V.int 0) = false := decide_eq_false (fun z => hv (V.int.inj z))
          rw [e]
          exact hk2 (decide_eq_false hv) _ s6
    · refine q H5 D (s1.trans s5) ?_
      rw [← roots_filter]
      show H5 D = some (.lst (List.map V.int _))
      rw [List.map_map]
      exact hD
end
end Rp

set_option Elab.async false
set_option linter.all false
set_option maxRecDepth 100000
set_option maxHeartbeats 2000000
set_option exponentiation.threshold 100000
namespace Rp
open PySem PySem.Spec PyProof.Rows L2
/-- whether b is the last coefficient of a part -/
def goodB (c0 c1 c2 c3 b : Int) : Bool := decide (b ≠ 0) && decide (Int.fmod c0 b = 0) && (Rf.wholeRoots [c2 - b - Int.fdiv c0 b, -c3, 1]).any fun a => decide (a * Int.fdiv c0 b + (c3 - a) * b = c1)
theorem parts_eq (c0 c1 c2 c3 : Int) : Rf.partsI c0 c1 c2 c3 = (List.range (2 * c0.natAbs + 1)).any fun (i : Nat) => goodB c0 c1 c2 c3 (-(c0.natAbs : Int) + (i : Int)) := by
  unfold Rf.partsI
  rw [List.any_map]
  congr 1
  funext i
  show goodB c0 c1 c2 c3 ((i : Int) - (c0.natAbs : Int)) = _
  have : (i : Int) - (c0.natAbs : Int) = -(c0.natAbs : Int) + (i : Int) := by omega
  rw [this]
theorem any_succ {f : Nat → Bool} {i : Nat} (h : (List.range i).any f = false) (h2 : f i = false) : (List.range (i + 1)).any f = false := by
  rw [List.range_succ, List.any_append, h]
  simp [h2]
theorem any_hit {f : Nat → Bool} {i n : Nat} (h : i < n) (h2 : f i = true) : (List.range n).any f = true := List.any_eq_true.mpr ⟨i, List.mem_range.mpr h, h2⟩
theorem fdiv_le (a b : Int) : (a.fdiv b).natAbs ≤ a.natAbs + 1 := by
  by_cases h : b = 0
  · subst h
    rw [Int.fdiv_zero]; simp
  · have h1 := Int.mul_fdiv_add_fmod a b
    have h2 := fmod_lt a h
    have h3 : (b * a.fdiv b).natAbs ≤ a.natAbs + b.natAbs - 1 := by omega
    rw [Int.natAbs_mul] at h3
    have h4 : 1 ≤ b.natAbs := by omega
    generalize b.natAbs = x at *
    generalize (a.fdiv b).natAbs = y at *
    apply Nat.le_of_not_lt
    intro h5
    have h6 : x * (a.natAbs + 2) ≤ x * y := Nat.mul_le_mul_left _ (by omega)
    rw [Nat.mul_add] at h6
    have h7 : 1 * a.natAbs ≤ x * a.natAbs := Nat.mul_le_mul_right _ h4
    omega
section
variable {P : Program} {w : World} {K : PySem.W.Frag} {mg : Str → Option Value} {base : Heap}
abbrev s_parts_into_quadratics : Stmt := topS 24
abbrev N_parts_into_quadratics : List Str := ["polynomial", "c0", "c1", "c2", "c3", "b", "d", "a"]
theorem sc_parts_into_quadratics : FnScope N_parts_into_quadratics ["polynomial"] (defScope s_parts_into_quadratics) := ⟨rfl, rfl, rfl, by decide +kernel, rfl, by decide +kernel, by decide +kernel⟩
def spParts : Sp := fun vs H Q _ => ∃ (a : Addr) (c0 c1 c2 c3 c4 : Int), vs = [.ref a] ∧ LI H a [c0, c1, c2, c3, c4] ∧ Rf.Bd 20 [c0, c1, c2, c3, c4] ∧ ∀ H', Same H H' → Q (.bl (Rf.partsI c0 c1 c2 c3)) H'
theorem ok_parts_into_quadratics {f : Addr} {fd : FuncData} (F : Fun K "parts_into_quadratics" "parts_into_quadratics" s_parts_into_quadratics f fd) (B : Bt mg) (C_whole_roots : CalN P w K mg base 2 "whole_roots" ["polynomial"] spRootsW) : FnOk P w K mg base CX0 3 f fd ["polynomial"] spParts := by
  obtain ⟨_, g_whole_roots, _, G_whole_roots, k_whole_roots, b_whole_roots⟩ := C_whole_roots
  refine F.ok sc_parts_into_quadratics (fun vs H Q E h => ?_) (fun cdv A outer s H vs Q E hr h => ?_)
  · obtain ⟨a, c0, c1, c2, c3, c4, rfl, _⟩ := h
    rfl
  · obtain ⟨a, c0, c1, c2, c3, c4, rfl, ha, hb, q⟩ := h
    refine ⟨_, (pss_cons (ps_asg (pe_slice (show SlR _ (rSlL K) from sl_list) (pv 0) po_none (po_some pe_int)) (pg_unl rfl (pgs_cons (pg_name (i := 1) sc_parts_into_quadratics.nd rfl (Or.inl rfl)) (pgs_cons (pg_name (i := 2) sc_parts_into_quadratics.nd rfl (Or.inl rfl)) (pgs_cons (pg_name (i := 3) sc_parts_into_quadratics.nd rfl (Or.inl rfl)) (pgs_cons (pg_name (i := 4) sc_parts_into_quadratics.nd rfl (Or.inl rfl)) pgs_nil))))))
        (pss_cons (ps_for PassesOwn.never rfl (pi_range2 (by rfl) B.range (pa_cons (pe_un un_neg (pe_callB call_abs (by rfl) B.abs (by decide +kernel) (pa_cons (pv 1) pa_nil))) (pa_cons (pe_op op_add (pe_callB call_abs (by rfl) B.abs (by decide +kernel) (pa_cons (pv 1) pa_nil)) pe_int) pa_nil))) (pg_name (i := 5) sc_parts_into_quadratics.nd rfl (Or.inl rfl)) (pss_one (ps_if (PW.pt (pw_and (pt_cmpR op_ne (pv 5) pe_int (nomark _)) (pw_and1 (pt_cmpR op_eq (pe_op op_modN (pv 1) (pv 5)) pe_int (nomark _))))) (pss_cons (ps_set (i := 6) sc_parts_into_quadratics.nd rfl (Or.inl rfl) (pe_op op_fdivB (pv 1) (pv 5)))
        (pss_one (ps_for PassesOwn.never rfl (pi_list (pe_call G_whole_roots (hr.mono (by omega)) (by rfl) g_whole_roots k_whole_roots b_whole_roots .nil pass0 (pa_cons (pe_lst (pa_cons (pe_op op_sub (pe_op op_sub (pv 3) (pv 5)) (pv 6)) (pa_cons (pe_un un_neg (pv 4)) (pa_cons pe_int pa_nil)))) pa_nil))) (pg_name (i := 7) sc_parts_into_quadratics.nd rfl (Or.inl rfl)) (pss_one (ps_if (pt_cmpR op_eq (pe_op op_add (pe_op op_mulW (pv 7) (pv 6)) (pe_op op_mulW (pe_op op_sub (pv 4) (pv 7)) (pv 5))) (pv 2) (nomark _)) (pss_one (ps_ret pe_bl)) pss_nil))))) pss_nil)))
        (pss_one (ps_ret pe_bl)))), ?_⟩
    have b0 : c0.natAbs ≤ 20 := hb c0 (by simp)
    have b1 : c1.natAbs ≤ 20 := hb c1 (by simp)
    have b2 : c2.natAbs ≤ 20 := hb c2 (by simp)
    have b3 : c3.natAbs ≤ 20 := hb c3 (by simp)
    refine ⟨_, rfl, 4, rfl, a, _, rfl, LI.seq ha, fun o1 n1 => ?_⟩
    have ec : cutV (([c0, c1, c2, c3, c4] : List Int).map V.int) none (some 4) = [.int c0, .int c1, .int c2, .int c3] := cut_to _ 4
    rw [ec]
    have s1 : Same H (upd H o1 (.lst [.int c0, .int c1, .int c2, .int c3])) := same_new n1
    have lo1 : (upd H o1 (.lst [.int c0, .int c1, .int c2, .int c3])) o1 = some (.lst [.int c0, .int c1, .int c2, .int c3]) := upd_same
    generalize upd H o1 (.lst [.int c0, .int c1, .int c2, .int c3]) = H1 at *
    refine ⟨o1, _, rfl, .inl (.inl lo1), rfl, _, _, rfl, _, _, rfl, _, _, rfl, _, _, rfl, rfl, ?_⟩
    have hab : (if c0 < 0 then -c0 else c0) = (c0.natAbs : Int) := by split <;> omega
    refine ⟨_, rfl, c0, rfl, _, rfl, _, rfl, c0, rfl, _, _, rfl, rfl, ?_⟩
    rw [hab]
    refine ⟨_, _, rfl, ⟨by omega, by omega, by omega, by omega⟩, ?_⟩
    have en : ((c0.natAbs : Int) + 1 - -(c0.natAbs : Int)).toNat = 2 * c0.natAbs + 1 := by omega
    rw [en]
    refine for_range (fun i σ H' => ∃ y5 y6 y7, σ = [some (.ref a), some (.int c0), some (.int c1), some (.int c2), some (.int c3), y5, y6, y7] ∧ Same H1 H' ∧ ((List.range i).any fun (i : Nat) => goodB c0 c1 c2 c3 (-(c0.natAbs : Int) + (i : Int))) = false) ⟨none, none, none, rfl, Same.refl _, rfl⟩ ?_ ?_
    · rintro i σ H' hi ⟨y5, y6, y7, rfl, s2, hn⟩
      generalize hbb : -(c0.natAbs : Int) + (i : Int) = b at *
      refine ⟨_, rfl, rfl, _, rfl, ?_⟩
      by_cases hb0 : b = 0
      · have e : (!decide (V.int b = V.int 0)) = false := by subst hb0; simp
        rw [e]
        refine iteF ?_
        refine iteF ⟨_, _, _, rfl, s2, any_succ hn ?_⟩
        rw [hbb]
        unfold goodB
        rw [decide_eq_false (fun z => z hb0)]
        rfl
      · have e : (!decide (V.int b = V.int 0)) = true := by
          have : ¬ V.int b = V.int 0 := fun z => hb0 (V.int.inj z)
          simp [this]
        rw [e]
        refine iteT ⟨_, rfl, _, rfl, c0, b, rfl, rfl, hb0, rfl, _, rfl, ?_⟩
        by_cases hm : c0.fmod b = 0
        · have e2 : decide (V.int (c0.fmod b) = V.int 0) = true := decide_eq_true (by rw [hm])
          rw [e2]
          refine iteT ⟨_, rfl, _, rfl, c0, b, rfl, rfl, divB_of (b := 6) hb0 (by omega) (by decide) (by decide), ?_⟩
          have hd := fdiv_le c0 b
          dsimp only
          generalize hdd : c0.fdiv b = d at *
          refine ⟨_, rfl, _, rfl, _, _, rfl, rfl, _, rfl, _, _, rfl, rfl, _, rfl, _, rfl, (by show 3 ≤ sizeLine; decide), fun o2 n2 => ?_⟩
          have s3 : Same H' (upd H' o2 (.lst [.int (c2 - b - d), .int (-c3), .int 1])) := same_new n2
          have lo2 : LI (upd H' o2 (.lst [.int (c2 - b - d), .int (-c3), .int 1])) o2 [c2 - b - d, -c3, 1] := upd_same
          refine ⟨o2, _, rfl, lo2, by simp, by show 3 ≤ 8; decide, ?_, fun H2 p s4 lp => ?_⟩
          · intro z hz
            simp only [List.mem_cons, List.not_mem_nil, or_false] at hz
            rcases hz with rfl | rfl | rfl <;> omega
          · refine ⟨p, rfl, ⟨_, LI.seq lp⟩, for_list (K := K) (a := p) (xs := (Rf.wholeRoots [c2 - b - d, -c3, 1]).map V.int) (fun j σ H3 => ∃ y, σ = [some (.ref a), some (.int c0), some (.int c1), some (.int c2), some (.int c3), some (.int b), some (.int d), y] ∧ Same H2 H3 ∧ (((Rf.wholeRoots [c2 - b - d, -c3, 1]).take j).any fun a => decide (a * d + (c3 - a) * b = c1)) = false) ⟨_, rfl, Same.refl _, rfl⟩ (fun j σ H3 _ ⟨_, _, s5, _⟩ => LI.seq (s5 _ _ lp)) ?_ ?_⟩
            · rintro j u σ H3 hu ⟨y, rfl, s5, hnj⟩
              obtain ⟨z, hz, rfl⟩ := int_at hu
              have hzb : z.natAbs ≤ 2000 := by
                have hmem := mem_of_at hz
                unfold Rf.wholeRoots at hmem
                have h8 := (List.mem_filter.mp hmem).1
                obtain ⟨x, hx, rfl⟩ := List.mem_map.mp h8
                have h9 := List.mem_range.mp hx
                have h10 : Rf.bndI [c2 - b - d, -c3, 1] ≤ 1 + 200 := bnd_le (M := 200) (by
                  intro z hz
                  simp only [List.mem_cons, List.not_mem_nil, or_false] at hz
                  rcases hz with rfl | rfl | rfl <;> omega)
                omega
              refine ⟨_, rfl, _, rfl, z, d, rfl, rfl, wide_mul (a := 12) (b := 12) (by omega) (by omega) (by decide) (by decide) (by decide), _, rfl, _, rfl, _, _, rfl, rfl, _, rfl, _, _, rfl, rfl, wide_mul (a := 12) (b := 12) (by omega) (by omega) (by decide) (by decide) (by decide), _, _, rfl, rfl, _, rfl, rfl, _, rfl, ?_⟩
              by_cases hg : z * d + (c3 - z) * b = c1
              · have e3 : decide (V.int (z * d + (c3 - z) * b) = V.int c1) = true := decide_eq_true (by rw [hg])
                rw [e3]
                refine iteT ?_
                have hP : Rf.partsI c0 c1 c2 c3 = true := by
                  rw [parts_eq]
                  refine any_hit hi ?_
                  rw [hbb]
                  unfold goodB
                  rw [decide_eq_true hb0, decide_eq_true hm, hdd]
                  exact List.any_eq_true.mpr ⟨z, mem_of_at hz, decide_eq_true hg⟩
                have := q H3 (s1.trans (s2.trans (s3.trans (s4.trans s5))))
                rw [hP] at this
                exact this
              · have e3 : decide (V.int (z * d + (c3 - z) * b) = V.int c1) = false := decide_eq_false (fun h => hg (V.int.inj h))
                rw [e3]
                refine iteF ⟨some (.int z), rfl, s5, ?_⟩
                rw [List.take_add_one, hz, List.any_append, hnj]
                simp [hg]
            · rintro σ H3 ⟨y, rfl, s5, hnj⟩
              rw [List.length_map, List.take_length] at hnj
              refine ⟨_, _, _, rfl, s2.trans (s3.trans (s4.trans s5)), any_succ hn ?_⟩
              rw [hbb]
              unfold goodB
              rw [hdd, hnj, Bool.and_false]
        · have e2 : decide (V.int (c0.fmod b) = V.int 0) = false := decide_eq_false (fun z => hm (V.int.inj z))
          rw [e2]
          refine iteF ⟨_, _, _, rfl, s2, any_succ hn ?_⟩
          rw [hbb]
          unfold goodB
          rw [decide_eq_false hm, Bool.and_false]
          rfl
    · rintro σ H' ⟨y5, y6, y7, rfl, s2, hn⟩
      rw [← parts_eq] at hn
      have := q H' (s1.trans s2)
      rw [hn] at this
      exact this
abbrev s_can_be_parted : Stmt := topS 25
abbrev N_can_be_parted : List Str := ["polynomial"]
theorem sc_can_be_parted : FnScope N_can_be_parted ["polynomial"] (defScope s_can_be_parted) := ⟨rfl, rfl, rfl, by decide +kernel, rfl, by decide +kernel, by decide +kernel⟩
def spParted : Sp := fun vs H Q _ => ∃ (a : Addr) (k : List Int), vs = [.ref a] ∧ LI H a (k ++ [1]) ∧ Rf.Deg k ∧ Rf.Bd 20 k ∧ ∀ H', Same H H' → Q (.bl (Rf.canBeParted k)) H'
theorem ok_can_be_parted {f : Addr} {fd : FuncData} (F : Fun K "can_be_parted" "can_be_parted" s_can_be_parted f fd) (B : Bt mg) (C_whole_roots : CalN P w K mg base 2 "whole_roots" ["polynomial"] spRootsW) (C_parts_into_quadratics : CalN P w K mg base 3 "parts_into_quadratics" ["polynomial"] spParts) : FnOk P w K mg base CX0 4 f fd ["polynomial"] spParted := by
  obtain ⟨_, g_whole_roots, _, G_whole_roots, k_whole_roots, b_whole_roots⟩ := C_whole_roots
  obtain ⟨_, g_parts_into_quadratics, _, G_parts_into_quadratics, k_parts_into_quadratics, b_parts_into_quadratics⟩ := C_parts_into_quadratics
  refine F.ok sc_can_be_parted (fun vs H Q E h => ?_) (fun cdv A outer s H vs Q E hr h => ?_)
  · obtain ⟨a, k, rfl, _⟩ := h
    rfl
  · obtain ⟨a, k, rfl, ha, hd, hk, q⟩ := h
    refine ⟨_, (pss_cons (ps_if (pt_truth (pe_call G_whole_roots (hr.mono (by omega)) (by rfl) g_whole_roots k_whole_roots b_whole_roots .nil pass0 (pa_cons (pv 0) pa_nil)) (by intro _; rfl)) (pss_one (ps_ret pe_bl)) pss_nil)
        (pss_one (ps_ret (pe_and (pe_cmpR op_eq (pe_callB (show CallR _ _ (rLenK K) from call_len_seq) (by rfl) B.len PySem.boot_len (pa_cons (pv 0) pa_nil)) pe_int (nomark _)) (pe_one (pe_call G_parts_into_quadratics (hr.mono (by omega)) (by rfl) g_parts_into_quadratics k_parts_into_quadratics b_parts_into_quadratics .nil pass0 (pa_cons (pv 0) pa_nil))))))), ?_⟩
    have hk1 : Rf.Bd 20 (k ++ [1]) := by
      intro z hz
      rcases List.mem_append.mp hz with hz | hz
      · exact hk z hz
      · simp at hz; subst hz; decide
    have hl : (k ++ [1]).length = k.length + 1 := by simp
    have h4 := hd.2
    refine ⟨_, rfl, a, k ++ [1], rfl, ha, by simp, by omega, hk1.mono (by decide), fun H1 p s1 lp => ?_⟩
    refine ⟨_, .inl ⟨_, LI.seq lp, rfl⟩, ?_⟩
    have hcb : Rf.canBeParted k = (!(Rf.wholeRoots (k ++ [1])).isEmpty || decide (k.length = 4) && Rf.partsI (k.getD 0 0) (k.getD 1 0) (k.getD 2 0) (k.getD 3 0)) := rfl
    cases hR : Rf.wholeRoots (k ++ [1]) with
    | cons z zs =>
      refine iteT ?_
      have := q H1 s1
      rw [hcb, hR] at this
      exact this
    | nil =>
      refine iteF ?_
      refine ⟨_, rfl, a, _, rfl, .inl (LI.seq (s1 _ _ ha)), rfl, _, rfl, ?_⟩
      have hcb2 : Rf.canBeParted k = (decide (k.length = 4) && Rf.partsI (k.getD 0 0) (k.getD 1 0) (k.getD 2 0) (k.getD 3 0)) := by rw [hcb, hR]; rfl
      by_cases h5 : k.length = 4
      · have e : decide (V.int (((k ++ [1]).map V.int).length : Int) = V.int 5) = true := decide_eq_true (by rw [List.length_map, hl, h5]; rfl)
        rw [e]
        obtain ⟨c0, c1, c2, c3, rfl⟩ : ∃ c0 c1 c2 c3, k = [c0, c1, c2, c3] := by
          match k, h5 with
          | [c0, c1, c2, c3], _ => exact ⟨_, _, _, _, rfl⟩
        refine iteT ⟨_, rfl, a, c0, c1, c2, c3, 1, rfl, s1 _ _ ha, hk1, fun H2 s2 => ?_⟩
        have := q H2 (s1.trans s2)
        rw [hcb2] at this
        exact this
      · have e : decide (V.int (((k ++ [1]).map V.int).length : Int) = V.int 5) = false := decide_eq_false (fun z => by
          have := V.int.inj z
          rw [List.length_map, hl] at this
          omega)
        rw [e]
        refine iteF ?_
        have := q H1 s1
        rw [hcb2, decide_eq_false h5] at this
        exact this
end
end Rp

set_option Elab.async false
set_option linter.all false
set_option maxRecDepth 100000
set_option maxHeartbeats 2000000
set_option exponentiation.threshold 1000000
namespace Rp
open PySem PySem.Spec PyProof.Rows L2
theorem trim_self : ∀ {l : List Int}, Rf.Trim l → Re02.trim l = l
  | [], _ => rfl
  | a :: l, h => by
    show (if a = 0 ∧ Re02.trim l = [] then [] else a :: Re02.trim l) = a :: l
    cases l with
    | nil =>
      have h1 : a ≠ 0 := h (by simp)
      have e : Re02.trim ([] : List Int) = [] := rfl
      rw [e, if_neg (fun z => h1 z.1)]
    | cons b l =>
      have h2 : Rf.Trim (b :: l) := fun hn => by
        have := h (by simp)
        rw [List.getLast_cons hn] at this
        exact this
      rw [trim_self h2, if_neg (fun z => by cases z.2)]
theorem trim_zero (l : List Int) : Re02.trim (l ++ [0]) = Re02.trim l := by
  unfold Re02.trim
  rw [List.foldr_append]
  rfl
theorem take_succ_at {l : List Int} {i : Nat} {z : Int} (h : l[i]? = some z) : l.take (i + 1) = l.take i ++ [z] := by
  rw [List.take_add_one, h]; rfl
theorem lead_at {g : List Int} (hg : g ≠ []) : ∃ g', g = g' ++ [Re02.lead g] := by
  refine ⟨g.dropLast, ?_⟩
  have : Re02.lead g = g.getLast hg := by
    unfold Re02.lead
    rw [List.getLastD_eq_getLast?, List.getLast?_eq_some_getLast hg]; rfl
  rw [this]
  exact (List.dropLast_concat_getLast hg).symm
theorem atI_lead {g : List Int} (hg : g ≠ []) : atI (g.map V.int) (-1) = some (.int (Re02.lead g)) := by
  obtain ⟨g', e⟩ := lead_at hg
  conv => lhs; rw [e, List.map_append]
  exact atI_last _ _
theorem lead_mem {g : List Int} (hg : g ≠ []) : Re02.lead g ∈ g := by
  obtain ⟨g', e⟩ := lead_at hg
  exact (congrArg (fun x => Re02.lead g ∈ x) e).mpr (by simp)
theorem stepP_bd {r d : List Int} {M N : Nat} (hr : Rf.Bd M r) (hd : Rf.Bd N d) (hrn : r ≠ []) (hdn : d ≠ []) : Rf.Bd (M * (2 * N)) (Rf.stepP r d) := by
  have ht : ∀ l : List Int, ∀ z ∈ Re02.trim l, z ∈ l := by
    intro l
    induction l with
    | nil => intro z hz; exact hz
    | cons a l ih =>
      intro z hz
      have e : Re02.trim (a :: l) = (if a = 0 ∧ Re02.trim l = [] then [] else a :: Re02.trim l) := rfl
      rw [e] at hz
      split at hz
      · cases hz
      · rcases List.mem_cons.mp hz with rfl | hz
        · exact List.mem_cons_self ..
        · exact List.mem_cons_of_mem _ (ih z hz)
  intro z hz
  have h1 := ht _ z hz
  obtain ⟨⟨x, y⟩, hxy, rfl⟩ := List.mem_map.mp h1
  have hx := hr x (List.of_mem_zip hxy).1
  have hy0 := (List.of_mem_zip hxy).2
  have hy : y.natAbs ≤ N := by
    rcases List.mem_append.mp hy0 with h | h
    · rw [(List.mem_replicate.mp h).2]; exact Nat.zero_le _
    · exact hd y h
  have hl := hd _ (lead_mem hdn)
  have hlr := hr _ (lead_mem hrn)
  have hs : (Rf.sgnP d * Re02.lead r).natAbs ≤ M := by
    unfold Rf.sgnP
    split <;> omega
  have g1 : (((Re02.lead d).natAbs : Int) * x).natAbs ≤ N * M := Rf.natAbs_mul_le (by rw [Int.natAbs_natCast]; exact hl) hx
  have g2 := Rf.natAbs_mul_le hs hy
  have g3 := Int.natAbs_sub_le (((Re02.lead d).natAbs : Int) * x) (Rf.sgnP d * Re02.lead r * y)
  have e1 : M * (2 * N) = N * M + M * N := by rw [Nat.mul_comm 2 N, ← Nat.mul_assoc, Nat.mul_two, Nat.mul_comm N M]
  show (((Re02.lead d).natAbs : Int) * x - Rf.sgnP d * Re02.lead r * y).natAbs ≤ _
  omega
section
variable {P : Program} {w : World} {K : PySem.W.Frag} {mg : Str → Option Value} {base : Heap}
abbrev s_without_zero_tops : Stmt := topS 26
abbrev N_without_zero_tops : List Str := ["polynomial", "length"]
theorem sc_without_zero_tops : FnScope N_without_zero_tops ["polynomial"] (defScope s_without_zero_tops) := ⟨rfl, rfl, rfl, by decide +kernel, rfl, by decide +kernel, by decide +kernel⟩
def spTops : Sp := fun vs H Q _ => ∃ (a : Addr) (l : List Int), vs = [.ref a] ∧ LI H a l ∧ ∀ H' p, Same H H' → LI H' p (Re02.trim l) → Q (.ref p) H'
theorem ok_without_zero_tops {f : Addr} {fd : FuncData} (F : Fun K "without_zero_tops" "without_zero_tops" s_without_zero_tops f fd) (B : Bt mg) : FnOk P w K mg base CX0 1 f fd ["polynomial"] spTops := by
  refine F.ok sc_without_zero_tops (fun vs H Q E h => ?_) (fun cdv A outer s H vs Q E hr h => ?_)
  · obtain ⟨a, l, rfl, _⟩ := h
    rfl
  · obtain ⟨a, l, rfl, ha, q⟩ := h
    refine ⟨_, (pss_cons (ps_set (i := 1) sc_without_zero_tops.nd rfl (Or.inl rfl) (pe_callB (show CallR _ _ (rLenK K) from call_len_seq) (by rfl) B.len PySem.boot_len (pa_cons (pv 0) pa_nil)))
        (pss_cons (ps_while PassesOwn.never (PW.pt (pw_and (pt_cmpR op_gt (pv 1) pe_int (nomark _)) (pw_and1 (pt_cmpR op_eq (pe_ix (show IxR _ (rIxL K) from ix_list) (pv 0) (pe_op op_sub (pv 1) pe_int) (fun _ _ => rfl)) pe_int (nomark _))))) (pss_one (ps_set (i := 1) sc_without_zero_tops.nd rfl (Or.inl rfl) (pe_op op_sub (pv 1) pe_int))))
        (pss_one (ps_ret (pe_slice (show SlR _ (rSlL K) from sl_list) (pv 0) po_none (po_some (pv 1))))))), ?_⟩
    refine ⟨_, rfl, a, _, rfl, .inl (LI.seq ha), ?_⟩
    refine while_by (fun σ H' => ∃ n : Nat, σ = [some (.ref a), some (.int (n : Int))] ∧ H' = H ∧ n ≤ l.length ∧ Re02.trim (l.take n) = Re02.trim l) (fun σ _ => match σ with | [_, some (.int y)] => y.natAbs | _ => 0) ⟨l.length, by rw [List.length_map]; rfl, rfl, Nat.le_refl _, by rw [List.take_length]⟩ ?_ ?_
    · rintro σ H' ⟨n, rfl, rfl, hn, ht⟩
      refine ⟨_, rfl, _, _, rfl, rfl, _, rfl, ?_⟩
      cases n with
      | zero =>
        have e : decide ((0 : Int) < ((0 : Nat) : Int)) = false := rfl
        rw [e]
        refine iteF (iteF ?_)
        refine ⟨_, rfl, _, rfl, _, rfl, a, _, rfl, LI.seq ha, fun p hp => q _ p (same_new hp) ?_⟩
        rw [← ht]
        show (upd _ p _) p = _
        rw [upd_same]
        exact congrArg (fun x => some (HO.lst x)) (cut_to _ 0)
      | succ n =>
        have e : decide ((0 : Int) < ((n + 1 : Nat) : Int)) = true := decide_eq_true (by omega)
        rw [e]
        have hln : l[n]? = some (l[n]'(by omega)) := List.getElem?_eq_getElem (by omega)
        have en : ((n + 1 : Nat) : Int) - 1 = (n : Int) := by omega
        refine iteT ⟨_, rfl, _, rfl, _, _, rfl, rfl, ?_⟩
        refine ⟨a, _, ((n + 1 : Nat) : Int) - 1, .int (l[n]'(by omega)), rfl, rfl, LI.seq ha, (by rw [en]; exact atI_nat (by rw [List.getElem?_map, hln]; rfl)), rfl, _, rfl, ?_⟩
        by_cases h0 : l[n]'(by omega) = 0
        · have e2 : decide (V.int (l[n]'(by omega)) = V.int 0) = true := decide_eq_true (by rw [h0])
          rw [e2]
          refine iteT ⟨_, rfl, _, _, rfl, rfl, ⟨n, ?_, rfl, by omega, ?_⟩, ?_⟩
          · show [some (V.ref a), some (V.int (((n + 1 : Nat) : Int) - 1))] = _
            rw [en]
          · rw [← ht, take_succ_at hln, h0, trim_zero]
          · show (((n + 1 : Nat) : Int) - 1).natAbs < ((n + 1 : Nat) : Int).natAbs
            omega
        · have e2 : decide (V.int (l[n]'(by omega)) = V.int 0) = false := decide_eq_false (fun z => h0 (V.int.inj z))
          rw [e2]
          refine iteF ⟨_, rfl, _, rfl, _, rfl, a, _, rfl, LI.seq ha, fun p hp => q _ p (same_new hp) ?_⟩
          have hT : Rf.Trim (l.take (n + 1)) := by
            intro hne
            have e3 := take_succ_at hln
            have : (l.take (n + 1)).getLast hne = l[n]'(by omega) := by
              simp only [e3, List.getLast_append]
              simp
            rw [this]
            exact h0
          rw [← ht, trim_self hT]
          show (upd _ p _) p = _
          rw [upd_same, List.map_take]
          exact congrArg (fun x => some (HO.lst x)) (cut_to _ (n + 1))
    · intro σ H' Q1 Q2 hQ
      rintro ⟨v1, g1, i1, j1, g2, g3, k1, g4, g5⟩
      refine ⟨v1, g1, i1, j1, g2, g3, k1, g4, ?_⟩
      cases k1 with
      | false => exact hQ _ _ g5
      | true =>
        obtain ⟨v2, g6, v3, g7, i2, j2, g8, g9, p, xs, i3, v4, g10, g11, g12, g13, g14, k2, g15, g16⟩ := g5
        exact ⟨v2, g6, v3, g7, i2, j2, g8, g9, p, xs, i3, v4, g10, g11, g12, g13, g14, k2, g15, hQ _ _ g16⟩
end
end Rp

set_option Elab.async false
set_option linter.all false
set_option maxRecDepth 100000
set_option maxHeartbeats 2000000
set_option exponentiation.threshold 1000000
namespace Rp
open PySem PySem.Spec PyProof.Rows L2
theorem restP_step {n : Nat} {r d : List Int} (h : d.length ≤ r.length) (hd : d ≠ []) (hn : r.length ≤ n) : Rf.restP n r d = Rf.restP (n - 1) (Rf.stepP r d) d := by
  cases n with
  | zero =>
    cases d with
    | nil => exact absurd rfl hd
    | cons x d => simp only [List.length_cons] at h; omega
  | succ n =>
    show (if r.length < d.length then r else Rf.restP n (Rf.stepP r d) d) = _
    rw [if_neg (by omega)]
    rfl
theorem restP_done {n : Nat} {r d : List Int} (h : r.length < d.length) : Rf.restP n r d = r := by
  cases n with
  | zero => rfl
  | succ n => exact if_pos h
section
variable {P : Program} {w : World} {K : PySem.W.Frag} {mg : Str → Option Value} {base : Heap}
abbrev s_rest_of_division : Stmt := topS 27
abbrev N_rest_of_division : List Str := ["dividend", "divisor", "size", "sign", "rest", "top", "shifted", "step", "one", "other"]
theorem sc_rest_of_division : FnScope N_rest_of_division ["dividend", "divisor"] (defScope s_rest_of_division) := ⟨rfl, rfl, rfl, by decide +kernel, rfl, by decide +kernel, by decide +kernel⟩
def spRest : Sp := fun vs H Q _ => ∃ (a b : Addr) (f g : List Int) (M N : Nat), vs = [.ref a, .ref b] ∧ LI H a f ∧ LI H b g ∧ g ≠ [] ∧ f.length ≤ 5 ∧ Rf.Bd M f ∧ Rf.Bd N g ∧ 1 ≤ N ∧ N ≤ 2 ^ 60000 ∧ M * (2 * N) ^ 5 ≤ 2 ^ 400000 ∧ (∀ z ∈ [Re02.lead g], z ≠ 0) ∧ ∀ H' p, Same H H' → LI H' p (Rf.restP f.length f g) → Rf.Bd (M * (2 * N) ^ 5) (Rf.restP f.length f g) → Q (.ref p) H'
theorem ok_rest_of_division {f : Addr} {fd : FuncData} (F : Fun K "rest_of_division" "rest_of_division" s_rest_of_division f fd) (B : Bt mg) (C_without_zero_tops : CalN P w K mg base 1 "without_zero_tops" ["polynomial"] spTops) : FnOk P w K mg base CX0 2 f fd ["dividend", "divisor"] spRest := by
  obtain ⟨_, g_without_zero_tops, _, G_without_zero_tops, k_without_zero_tops, b_without_zero_tops⟩ := C_without_zero_tops
  refine F.ok sc_rest_of_division (fun vs H Q E h => ?_) (fun cdv A outer s H vs Q E hr h => ?_)
  · obtain ⟨a, b, f, g, M, N, rfl, _⟩ := h
    rfl
  · obtain ⟨a, b, f, g, M, N, rfl, ha, hb, hg, hf5, hM, hN, hN1, hN2, hMN, hl0, q⟩ := h
    refine ⟨_, (pss_cons (ps_set (i := 2) sc_rest_of_division.nd rfl (Or.inr rfl) (pe_callB call_abs (by rfl) B.abs (by decide +kernel) (pa_cons (pe_ix (show IxR _ (rIxL K) from ix_list) (pv 1) (pe_un un_neg pe_int) (fun _ _ => rfl)) pa_nil)))
        (pss_cons (ps_set (i := 3) sc_rest_of_division.nd rfl (Or.inl rfl) (pe_ifExp (pt_cmpR op_gt (pe_ix (show IxR _ (rIxL K) from ix_list) (pv 1) (pe_un un_neg pe_int) (fun _ _ => rfl)) pe_int (nomark _)) pe_int (pe_un un_neg pe_int)))
        (pss_cons (ps_set (i := 4) sc_rest_of_division.nd rfl (Or.inl rfl) (pv 0))
        (pss_cons (ps_while PassesOwn.never (pt_cmpR op_ge (pe_callB (show CallR _ _ (rLenK K) from call_len_seq) (by rfl) B.len PySem.boot_len (pa_cons (pv 4) pa_nil)) (pe_callB (show CallR _ _ (rLenK K) from call_len_seq) (by rfl) B.len PySem.boot_len (pa_cons (pv 1) pa_nil)) (nomark _)) (pss_cons (ps_set (i := 5) sc_rest_of_division.nd rfl (Or.inr rfl) (pe_op op_mulW (pv 3) (pe_ix (show IxR _ (rIxL K) from ix_list) (pv 4) (pe_un un_neg pe_int) (fun _ _ => rfl))))
        (pss_cons (ps_set (i := 6) sc_rest_of_division.nd rfl (Or.inl rfl) (pe_op op_cat (pe_lc (own := [("step", 7)]) (g := gName 7) (tt := tYes) rfl sc_rest_of_division.nd (pi_range1 (by rfl) B.range (pa_cons (pe_op op_sub (pe_callB (show CallR _ _ (rLenK K) from call_len_seq) (by rfl) B.len PySem.boot_len (pa_cons (pv 4) pa_nil)) (pe_callB (show CallR _ _ (rLenK K) from call_len_seq) (by rfl) B.len PySem.boot_len (pa_cons (pv 1) pa_nil))) pa_nil)) (blkOk_by (own := [("step", 7)]) (N := N_rest_of_division) (sc := defScope s_rest_of_division) (by decide +kernel)) (fun _ _ _ _ _ => (pg_name (i := 7) sc_rest_of_division.nd rfl (Or.inl rfl))) (fun _ _ _ _ _ => pts_nil) (fun _ _ _ _ _ => pe_int)) (pv 1)))
        (pss_one (ps_set (i := 4) sc_rest_of_division.nd rfl (Or.inl rfl) (pe_call G_without_zero_tops (hr.mono (by omega)) (by rfl) g_without_zero_tops k_without_zero_tops b_without_zero_tops .nil pass0 (pa_cons (pe_lc (own := [("one", 8), ("other", 9)]) (g := gTup K 2 (gCons (gName 8) (gCons (gName 9) gNil))) (tt := tYes) rfl sc_rest_of_division.nd (pi_zip (by rfl) B.zip (pa_cons (pv 4) (pa_cons (pv 6) pa_nil))) (blkOk_by (own := [("one", 8), ("other", 9)]) (N := N_rest_of_division) (sc := defScope s_rest_of_division) (by decide +kernel)) (fun _ _ _ _ _ => (pg_tup rfl (pgs_cons (pg_name (i := 8) sc_rest_of_division.nd rfl (Or.inl rfl)) (pgs_cons (pg_name (i := 9) sc_rest_of_division.nd rfl (Or.inl rfl)) pgs_nil)))) (fun _ _ _ _ _ => pts_nil) (fun _ _ _ _ _ => (pe_op op_sub (pe_op op_mulW (pv 2) (pv 8)) (pe_op op_mulW (pv 5) (pv 9))))) pa_nil)))))))
        (pss_one (ps_ret (pv 4))))))), ?_⟩
    have hlz : Re02.lead g ≠ 0 := hl0 _ (by simp)
    have hlb : (Re02.lead g).natAbs ≤ N := hN _ (lead_mem hg)
    refine ⟨_, rfl, 1, rfl, b, _, -1, _, rfl, rfl, LI.seq hb, atI_lead hg, _, rfl, ?_⟩
    have esz : (if Re02.lead g < 0 then -(Re02.lead g) else Re02.lead g) = ((Re02.lead g).natAbs : Int) := by split <;> omega
    rw [esz]
    refine ⟨_, rfl, 1, rfl, b, _, -1, _, rfl, rfl, LI.seq hb, atI_lead hg, _, _, rfl, rfl, _, rfl, ?_⟩
    have key : ∀ (σ : L2.St) (Q1 : V → Hp → Prop), Q1 (.int (Rf.sgnP g)) H → (if decide (0 < Re02.lead g) = true then tC (V.int 1) σ H Q1 else tUn (rU fun i => V.int (-i)) (tC (V.int 1)) σ H Q1) := by
      intro σ Q1 hQ1
      by_cases hs : (0 : Int) < Re02.lead g
      · rw [decide_eq_true hs]
        have es : Rf.sgnP g = 1 := if_pos hs
        rw [es] at hQ1
        exact iteT hQ1
      · rw [decide_eq_false hs]
        have es : Rf.sgnP g = -1 := if_neg hs
        rw [es] at hQ1
        exact iteF ⟨1, rfl, hQ1⟩
    refine key _ _ ?_
    refine ⟨_, rfl, ?_⟩
    refine while_by (fun σ H' => ∃ (c : Addr) (r : List Int) (n : Nat) (y5 y6 : Option V), σ = [some (.ref a), some (.ref b), some (.int ((Re02.lead g).natAbs : Int)), some (.int (Rf.sgnP g)), some (.ref c), y5, y6, none, none, none] ∧ Same H H' ∧ LI H' c r ∧ r.length ≤ n ∧ Rf.restP f.length f g = Rf.restP n r g ∧ r.length ≤ f.length ∧ Rf.Bd (M * (2 * N) ^ (f.length - r.length)) r) (fun (σ : L2.St) (H' : Hp) => match σ[4]? with | some (some (V.ref c)) => (match H' c with | some (HO.lst l) => l.length | _ => 0) | _ => 0) ⟨a, f, f.length, none, none, rfl, Same.refl _, ha, Nat.le_refl _, rfl, Nat.le_refl _, by rw [Nat.sub_self, Nat.pow_zero, Nat.mul_one]; exact hM⟩ ?_ ?_
    · rintro σ H' ⟨c, r, n, y5, y6, rfl, s1, lr, hrn, hrest, hrf, hrb⟩
      refine ⟨_, rfl, c, _, rfl, .inl (LI.seq lr), _, rfl, b, _, rfl, .inl (LI.seq (s1 _ _ hb)), _, _, rfl, rfl, _, rfl, ?_⟩
      by_cases hlt : g.length ≤ r.length
      · have e : decide (((g.map V.int).length : Int) ≤ ((r.map V.int).length : Int)) = true := decide_eq_true (by rw [List.length_map, List.length_map]; omega)
        rw [e]
        have hrne : r ≠ [] := by
          intro z; subst z
          cases g with
          | nil => exact hg rfl
          | cons x g => simp at hlt
        have hbb : M * (2 * N) ^ (f.length - r.length) ≤ 2 ^ 400000 := by
          refine Nat.le_trans (Nat.mul_le_mul_left _ (Nat.pow_le_pow_right (by omega) ?_)) hMN
          omega
        have hlr : (Re02.lead r).natAbs < 2 ^ 400001 := Nat.lt_of_le_of_lt (Nat.le_trans (hrb _ (lead_mem hrne)) hbb) (Nat.pow_lt_pow_right (by decide) (by decide))
        have hsg : (Rf.sgnP g).natAbs < 2 ^ 1 := by unfold Rf.sgnP; split <;> decide
        refine iteT ⟨_, rfl, _, rfl, 1, rfl, c, _, -1, _, rfl, rfl, LI.seq lr, atI_lead hrne, _, _, rfl, rfl, wide_mul hsg hlr (by decide) (by decide) (by decide), ?_⟩
        refine ⟨_, rfl, c, _, rfl, .inl (LI.seq lr), _, rfl, b, _, rfl, .inl (LI.seq (s1 _ _ hb)), _, _, rfl, rfl, _, rfl, (by rw [List.length_map, List.length_map]; omega), (by rw [List.length_map, List.length_map]; omega), fun D nD => ?_⟩
        have en : (((r.map V.int).length : Int) - ((g.map V.int).length : Int)).toNat = r.length - g.length := by rw [List.length_map, List.length_map]; omega
        rw [en]
        refine lc_gen (walk_range) nD (small1000 (by omega)) (fun _ => .int 0) (fun _ => true) (fun H5 s5 => trivial) ?_ (fun H5 s5 hD => ?_)
        · rintro i x H4 H5 hi s5 ⟨rfl, rfl⟩ R RY hk1 hk2
          exact ⟨rfl, hk1 rfl _ (Same.refl _)⟩
        · rw [filter_all] at hD
          have eD : (List.range (r.length - g.length)).map (fun _ => V.int 0) = (List.replicate (r.length - g.length) (0 : Int)).map V.int := by
            rw [List.map_const', List.length_range, List.map_replicate]
          rw [eD] at hD
          have hb5 : LI H5 b g := s5 _ _ (s1 _ _ hb)
          refine ⟨_, rfl, D, b, _, _, rfl, rfl, hD, hb5, ?_, fun o1 n1 => ?_⟩
          · rw [List.length_map, List.length_map, List.length_replicate]
            exact Nat.le_of_lt (small1000 (by omega))
          have s6 : Same H5 (upd H5 o1 (.lst ((List.replicate (r.length - g.length) (0 : Int)).map V.int ++ g.map V.int))) := same_new n1
          have lo1 : LI (upd H5 o1 (.lst ((List.replicate (r.length - g.length) (0 : Int)).map V.int ++ g.map V.int))) o1 (List.replicate (r.length - g.length) 0 ++ g) := by
            show (upd H5 o1 _) o1 = _
            rw [upd_same, List.map_append]
          generalize upd H5 o1 (.lst ((List.replicate (r.length - g.length) (0 : Int)).map V.int ++ g.map V.int)) = H6 at *
          have lr6 : LI H6 c r := s6 _ _ (s5 _ _ lr)
          refine ⟨_, rfl, _, rfl, c, o1, _, _, rfl, LI.seq lr6, LI.seq lo1, fun D2 nD2 => ?_⟩
          refine lc_zipI (K := K) nD2 lr6 lo1 (by omega) (fun x y => ((Re02.lead g).natAbs : Int) * x - Rf.sgnP g * Re02.lead r * y) (fun _ _ => rfl) (fun x y H7 RY hx hy s7 hR => ?_) (fun H7 s7 l7 => ?_)
          · have gx : x.natAbs < 2 ^ 400001 := Nat.lt_of_le_of_lt (Nat.le_trans (hrb x hx) hbb) (Nat.pow_lt_pow_right (by decide) (by decide))
            have gy : y.natAbs < 2 ^ 60001 := by
              have : y.natAbs ≤ N := by
                rcases List.mem_append.mp hy with h | h
                · rw [(List.mem_replicate.mp h).2]; exact Nat.zero_le _
                · exact hN y h
              exact Nat.lt_of_le_of_lt (Nat.le_trans this hN2) (Nat.pow_lt_pow_right (by decide) (by decide))
            have gl : (((Re02.lead g).natAbs : Int)).natAbs < 2 ^ 60001 := by
              rw [Int.natAbs_natCast]
              exact Nat.lt_of_le_of_lt (Nat.le_trans hlb hN2) (Nat.pow_lt_pow_right (by decide) (by decide))
            exact ⟨_, rfl, _, rfl, _, _, rfl, rfl, wide_mul gl gx (by decide) (by decide) (by decide), _, rfl, _, rfl, _, _, rfl, rfl, wide_mul (wide_lt hsg hlr) gy (by decide) (by decide) (by decide), _, _, rfl, rfl, hR⟩
          · refine ⟨D2, _, rfl, l7, fun H8 p s8 lp => ?_⟩
            have est : Re02.trim ((r.zip (List.replicate (r.length - g.length) 0 ++ g)).map fun p => ((Re02.lead g).natAbs : Int) * p.1 - Rf.sgnP g * Re02.lead r * p.2) = Rf.stepP r g := rfl
            rw [est] at lp
            have hsh := Rf.stepP_short hg (r := r) hlt
            refine ⟨⟨p, Rf.stepP r g, n - 1, _, _, rfl, s1.trans (s5.trans (s6.trans (s7.trans s8))), lp, by omega, ?_, by omega, ?_⟩, ?_⟩
            · rw [hrest, restP_step hlt hg hrn]
            · refine (stepP_bd hrb hN hrne hg).mono ?_
              rw [Nat.mul_assoc, ← Nat.pow_succ]
              exact Nat.mul_le_mul_left _ (Nat.pow_le_pow_right (by omega) (by omega))
            · show (match H8 p with | some (.lst l) => l.length | _ => 0) < (match H' c with | some (.lst l) => l.length | _ => 0)
              rw [lp, lr]
              show ((Rf.stepP r g).map V.int).length < (r.map V.int).length
              rw [List.length_map, List.length_map]
              exact hsh
      · have e : decide (((g.map V.int).length : Int) ≤ ((r.map V.int).length : Int)) = false := decide_eq_false (by rw [List.length_map, List.length_map]; omega)
        rw [e]
        have er : Rf.restP f.length f g = r := by rw [hrest, restP_done (by omega)]
        refine iteF ⟨_, rfl, q H' c s1 (by rw [er]; exact lr) ?_⟩
        rw [er]
        refine hrb.mono (Nat.mul_le_mul_left _ (Nat.pow_le_pow_right (by omega) (by omega)))
    · intro σ H' Q1 Q2 hQ
      rintro ⟨v1, g1, p1, ys1, g2, g3, v2, g4, p2, ys2, g5, g6, i1, j1, g7, g8, b1, g9, g10⟩
      exact ⟨v1, g1, p1, ys1, g2, g3, v2, g4, p2, ys2, g5, g6, i1, j1, g7, g8, b1, g9, hQ _ _ g10⟩
end
end Rp

set_option Elab.async false
set_option linter.all false
set_option maxRecDepth 100000
set_option maxHeartbeats 2000000
set_option exponentiation.threshold 1000000
namespace Rp
open PySem PySem.Spec PyProof.Rows L2
theorem trim_sub : ∀ {l : List Int} {z : Int}, z ∈ Re02.trim l → z ∈ l
  | [], _, h => h
  | a :: l, z, h => by
    have e : Re02.trim (a :: l) = (if a = 0 ∧ Re02.trim l = [] then [] else a :: Re02.trim l) := rfl
    rw [e] at h
    split at h
    · cases h
    · rcases List.mem_cons.mp h with rfl | h
      · exact List.mem_cons_self ..
      · exact List.mem_cons_of_mem _ (trim_sub h)
def cbit : Nat → Nat
  | 0 => 325
  | 1 => 1635
  | 2 => 8505
  | 3 => 44165
  | _ => 229335
def pbit : Nat → Nat
  | 0 => 5
  | j + 1 => cbit j
theorem bit_step {j : Nat} (h : j ≤ 3) : 2 ^ pbit j * (2 * 2 ^ cbit j) ^ 5 = 2 ^ cbit (j + 1) := by
  have e : ∀ p c : Nat, 2 ^ p * (2 * 2 ^ c) ^ 5 = 2 ^ (p + (c + 1) * 5) := by
    intro p c
    rw [Nat.mul_comm 2 (2 ^ c), ← Nat.pow_succ, ← Nat.pow_mul, ← Nat.pow_add]
  rw [e]
  congr 1
  match j, h with
  | 0, _ => rfl
  | 1, _ => rfl
  | 2, _ => rfl
  | 3, _ => rfl
theorem cbit_le {j : Nat} (h : j ≤ 3) : cbit j ≤ 60000 := by
  match j, h with
  | 0, _ => decide
  | 1, _ => decide
  | 2, _ => decide
  | 3, _ => decide
theorem pbit_le {j : Nat} (h : j ≤ 4) : pbit j ≤ 60000 := by
  cases j with
  | zero => decide
  | succ j => exact cbit_le (by omega)
theorem cbit4_le {j : Nat} (h : j ≤ 4) : cbit j ≤ 400000 := by
  match j, h with
  | 0, _ => decide
  | 1, _ => decide
  | 2, _ => decide
  | 3, _ => decide
  | 4, _ => decide
abbrev Rst : List Int → List Int → List Int := fun f g => Rf.restP f.length f g
theorem chainG_more {n : Nat} {f g : List Int} (hg : g ≠ []) (hn : 1 ≤ n) : Rf.chainG Rst n f g = f :: Rf.chainG Rst (n - 1) g (Re02.scale (-1) (Rst f g)) := by
  cases n with
  | zero => omega
  | succ n => exact if_neg hg
theorem chainG_done {n : Nat} {f : List Int} : Rf.chainG Rst n f [] = [f] := by
  cases n with
  | zero => rfl
  | succ n => exact if_pos rfl
theorem scale_neg (l : List Int) : l.map (fun z => -z) = Re02.scale (-1) l := by
  unfold Re02.scale
  apply List.map_congr_left
  intro z _
  omega
theorem atI_last2 {α : Type} (xs : List α) (u v : α) : atI (xs ++ [u] ++ [v]) (-2) = some u := by
  unfold atI
  have e : ixN (xs ++ [u] ++ [v]).length (-2) = some xs.length := by
    unfold ixN
    simp
    omega
  rw [e]
  simp
theorem slope_length (k : List Int) : (Rf.slopeI k).length = k.length := by
  unfold Rf.slopeI Re02.slope
  simp
theorem slope_bd {k : List Int} (hd : Rf.Deg k) (hk : Rf.Bd 20 k) : Rf.Bd (2 ^ 7) (Rf.slopeI k) := by
  intro z hz
  unfold Rf.slopeI Re02.slope at hz
  obtain ⟨⟨x, i⟩, hx, rfl⟩ := List.mem_map.mp hz
  have h1 := List.mem_of_mem_drop hx
  have h2 := List.snd_lt_of_mem_zipIdx h1
  have h3 := List.fst_mem_of_mem_zipIdx h1
  have h4 : i ≤ 4 := by
    simp at h2
    have := hd.2
    omega
  have h5 : x.natAbs ≤ 20 := by
    rcases List.mem_append.mp h3 with h | h
    · exact hk x h
    · simp at h; subst h; decide
  have := Rf.natAbs_mul_le (a := (i : Int)) (b := x) (by rw [Int.natAbs_natCast]; exact h4) h5
  exact Nat.le_trans this (by decide)
theorem deg_bd1 {k : List Int} (hk : Rf.Bd 20 k) : Rf.Bd (2 ^ 5) (k ++ [1]) := by
  intro z hz
  rcases List.mem_append.mp hz with hz | hz
  · exact Nat.le_trans (hk z hz) (by decide)
  · simp at hz; subst hz; decide
/-- [e for i, x in enumerate(xs)], all whole numbers -/
theorem lc_enumI {K : PySem.W.Frag} {a : Addr} {xs : List Int} {te : TE} {vs : List Nat} {σ : L2.St} {H1 : Hp} {D : Addr} {Qd : Hp → Prop} {i j : Nat} (nD : H1 D = none) (la : LI H1 a xs) (hn : xs.length ≤ 1000) (f : Int → Int → Int)
    (hw : ∀ u v, wipe (((wipe σ vs).set i (some u)).set j (some v)) vs = wipe σ vs)
    (hte : ∀ (n : Nat) x H5 (RY : V → Hp → Prop), x ∈ xs → n < xs.length → Same H1 H5 → RY (.int (f n x)) H5 → te (((wipe σ vs).set i (some (.int (n : Int)))).set j (some (.int x))) H5 RY)
    (hd : ∀ H4, Same H1 H4 → LI H4 D (xs.zipIdx.map fun p => f p.2 p.1) → Qd H4) : LcG (Ite K a) (gTup K 2 (gCons (gName i) (gCons (gName j) gNil))) tYes te vs σ H1 D Qd := by
  refine lc_gen (walk_enum (K := K) (a := a) (xs := xs.map V.int)) nD (by rw [List.length_map]; exact small1000 hn) (fun i => .int (f i (xs.getD i 0))) (fun _ => true) (fun H4 s5 => LI.seq (s5 _ _ la)) ?_ ?_
  · rintro i' x H4 H5 hi s5 ⟨T, y1, y2, rfl, nT, rfl, hy1, hy2⟩ R RY hk1 hk2
    have e1 : y1 = .int (i' : Int) := (Option.some.inj hy1).symm
    subst e1
    obtain ⟨z2, h2, rfl⟩ := int_at hy2
    rw [List.length_map] at hi
    refine ⟨T, _, rfl, .inl (.inl upd_same), rfl, _, _, rfl, _, _, rfl, rfl, hw _ _, ?_⟩
    refine hte i' z2 _ RY (mem_of_at h2) hi (s5.trans (same_new nT)) ?_
    have e2 : xs.getD i' 0 = z2 := by rw [List.getD_eq_getElem?_getD, h2]; rfl
    have := hk1 rfl (upd H4 T (.tup [.int (i' : Int), .int z2])) (same_new nT)
    rw [e2] at this
    exact this
  · intro H4 s5 hD
    rw [filter_all, List.length_map] at hD
    refine hd H4 s5 ?_
    have e : (xs.zipIdx.map fun p => f p.2 p.1) = (List.range xs.length).map fun (i : Nat) => f (i : Int) (xs.getD i 0) := by
      apply List.ext_getElem
      · simp
      · intro n h1 h2
        have hx : n < xs.length := by simpa using h1
        simp [List.getD_eq_getElem?_getD, hx]
    rw [e]
    show H4 D = some (.lst (List.map V.int _))
    rw [List.map_map]
    exact hD
section
variable {P : Program} {w : World} {K : PySem.W.Frag} {mg : Str → Option Value} {base : Heap}
abbrev s_sturm_chain : Stmt := topS 28
abbrev N_sturm_chain : List Str := ["coefficients", "above", "polynomial", "slope", "following", "chain", "power", "coefficient", "one"]
theorem sc_sturm_chain : FnScope N_sturm_chain ["coefficients", "above"] (defScope s_sturm_chain) := ⟨rfl, rfl, rfl, by decide +kernel, rfl, by decide +kernel, by decide +kernel⟩
/-- lists small enough to be valued -/
def ChOk (rows : List (List Int)) : Prop := rows.length ≤ 8 ∧ ∀ l ∈ rows, l.length ≤ 5 ∧ Rf.Bd (2 ^ 60000) l
def spSturm : Sp := fun vs H Q _ => ∃ (a b : Addr) (k A : List Int), vs = [.ref a, .ref b] ∧ LI H a k ∧ LI H b A ∧ A.length = k.length ∧ Rf.Deg k ∧ Rf.Bd 20 k ∧ Rf.Bd (2 ^ 300) A ∧ ∀ H' p, Same H H' → LL H' p (Rf.chainP k A) → ChOk (Rf.chainP k A) → Q (.ref p) H'
theorem ok_sturm_chain {f : Addr} {fd : FuncData} (F : Fun K "sturm_chain" "sturm_chain" s_sturm_chain f fd) (B : Bt mg) (C_without_zero_tops : CalN P w K mg base 1 "without_zero_tops" ["polynomial"] spTops) (C_whole_product : CalN P w K mg base 3 "whole_product" ["coefficients", "left", "right"] spProd) (C_rest_of_division : CalN P w K mg base 2 "rest_of_division" ["dividend", "divisor"] spRest) : FnOk P w K mg base CX0 4 f fd ["coefficients", "above"] spSturm := by
  obtain ⟨_, g_without_zero_tops, _, G_without_zero_tops, k_without_zero_tops, b_without_zero_tops⟩ := C_without_zero_tops
  obtain ⟨_, g_whole_product, _, G_whole_product, k_whole_product, b_whole_product⟩ := C_whole_product
  obtain ⟨_, g_rest_of_division, _, G_rest_of_division, k_rest_of_division, b_rest_of_division⟩ := C_rest_of_division
  refine F.ok sc_sturm_chain (fun vs H Q E h => ?_) (fun cdv A outer s H vs Q E hr h => ?_)
  · obtain ⟨a, b, k, A, rfl, _⟩ := h
    rfl
  · obtain ⟨a, b, k, A, rfl, ha, hb, hA, hd, hk, hAb, q⟩ := h
    refine ⟨_, (pss_cons (ps_set (i := 2) sc_sturm_chain.nd rfl (Or.inl rfl) (pe_op op_cat (pv 0) (pe_lst (pa_cons pe_int pa_nil))))
        (pss_cons (ps_set (i := 3) sc_sturm_chain.nd rfl (Or.inl rfl) (pe_slice (show SlR _ (rSlL K) from sl_list) (pe_lc (own := [("power", 6), ("coefficient", 7)]) (g := gTup K 2 (gCons (gName 6) (gCons (gName 7) gNil))) (tt := tYes) rfl sc_sturm_chain.nd (pi_enum (by rfl) B.enumerate (pa_cons (pv 2) pa_nil)) (blkOk_by (own := [("power", 6), ("coefficient", 7)]) (N := N_sturm_chain) (sc := defScope s_sturm_chain) (by decide +kernel)) (fun _ _ _ _ _ => (pg_tup rfl (pgs_cons (pg_name (i := 6) sc_sturm_chain.nd rfl (Or.inl rfl)) (pgs_cons (pg_name (i := 7) sc_sturm_chain.nd rfl (Or.inl rfl)) pgs_nil)))) (fun _ _ _ _ _ => pts_nil) (fun _ _ _ _ _ => (pe_op op_mulW (pv 6) (pv 7)))) (po_some pe_int) po_none))
        (pss_cons (ps_set (i := 4) sc_sturm_chain.nd rfl (Or.inl rfl) (pe_call G_without_zero_tops (hr.mono (by omega)) (by rfl) g_without_zero_tops k_without_zero_tops b_without_zero_tops .nil pass0 (pa_cons (pe_call G_whole_product (hr.mono (by omega)) (by rfl) g_whole_product k_whole_product b_whole_product .nil pass0 (pa_cons (pv 0) (pa_cons (pv 3) (pa_cons (pv 1) pa_nil)))) pa_nil)))
        (pss_cons (ps_set (i := 5) sc_sturm_chain.nd rfl (Or.inl rfl) (pe_lst (pa_cons (pv 2) pa_nil)))
        (pss_cons (ps_while PassesOwn.never (pt_truth (pv 4) (by intro _; rfl)) (pss_cons (ps_expr (pe_bm PySem.F.plainAttrs_list PySem.F.slot_list_append PySem.F.type_list_append mt_append (pv 5) (pa_cons (pv 4) pa_nil)))
        (pss_one (ps_setLc (own := [("one", 8)]) (i := 4) (g := gName 8) (tt := tYes) rfl sc_sturm_chain.nd rfl rfl (sw_true rfl rfl rfl (by decide +kernel)) (pi_list (pe_call G_rest_of_division (hr.mono (by omega)) (by rfl) g_rest_of_division k_rest_of_division b_rest_of_division .nil pass0 (pa_cons (pe_ix (show IxR _ (rIxL K) from ix_list) (pv 5) (pe_un un_neg pe_int) (fun _ _ => rfl)) (pa_cons (pe_ix (show IxR _ (rIxL K) from ix_list) (pv 5) (pe_un un_neg pe_int) (fun _ _ => rfl)) pa_nil)))) (blkOk_by (own := [("one", 8)]) (N := N_sturm_chain) (sc := defScope s_sturm_chain) (by decide +kernel)) (fun _ _ _ _ _ => (pg_name (i := 8) sc_sturm_chain.nd rfl (Or.inl rfl))) (fun _ _ _ _ _ => pts_nil) (fun _ _ _ _ _ => (pe_un un_neg (pv 8)))))))
        (pss_one (ps_ret (pv 5)))))))), ?_⟩
    have h1 : 1 ≤ k.length := by have := hd.1; omega
    have h4 := hd.2
    refine ⟨_, rfl, (by show 1 ≤ sizeLine; decide), fun o1 n1 => ?_⟩
    have s1 : Same H (upd H o1 (.lst [.int 1])) := same_new n1
    have lo1 : (upd H o1 (.lst [.int 1])) o1 = some (.lst [.int 1]) := upd_same
    generalize upd H o1 (.lst [.int 1]) = H1 at *
    refine ⟨a, o1, _, _, rfl, rfl, s1 _ _ ha, lo1, ?_, fun o2 n2 => ?_⟩
    · rw [List.length_map]
      exact Nat.le_of_lt (small1000 (by show _ + 1 ≤ 1000; omega))
    have s2 : Same H1 (upd H1 o2 (.lst (k.map V.int ++ [.int 1]))) := same_new n2
    have lo2 : LI (upd H1 o2 (.lst (k.map V.int ++ [.int 1]))) o2 (k ++ [1]) := by
      show (upd H1 o2 _) o2 = _
      rw [upd_same, List.map_append]
      rfl
    generalize upd H1 o2 (.lst (k.map V.int ++ [.int 1])) = H2 at *
    refine ⟨_, rfl, o2, _, rfl, LI.seq lo2, fun D nD => ?_⟩
    refine lc_enumI (K := K) nD lo2 (by rw [List.length_append]; show _ + 1 ≤ _; omega) (fun i x => i * x) (fun _ _ => rfl) (fun n x H5 RY hx hn s5 hR => ?_) (fun H3 s3 l3 => ?_)
    · have hxb := deg_bd1 hk x hx
      rw [List.length_append] at hn
      exact ⟨_, rfl, _, rfl, _, _, rfl, rfl, wide_mul (a := 10) (b := 10) (by rw [Int.natAbs_natCast]; have : n < k.length + 1 := hn; omega) (by omega) (by decide) (by decide) (by decide), hR⟩
    · refine ⟨1, rfl, D, _, rfl, LI.seq l3, fun o3 n3 => ?_⟩
      have ec : cutV ((((k ++ [1]).zipIdx.map fun (p : Int × Nat) => ((p.2 : Nat) : Int) * p.1)).map V.int) (some 1) none = (Rf.slopeI k).map V.int := by
        have := cut_from ((((k ++ [1]).zipIdx.map fun (p : Int × Nat) => ((p.2 : Nat) : Int) * p.1)).map V.int) 1
        refine this.trans ?_
        unfold Rf.slopeI Re02.slope
        rw [List.map_drop, List.map_drop]
      rw [ec]
      have s4 : Same H3 (upd H3 o3 (.lst ((Rf.slopeI k).map V.int))) := same_new n3
      have lo3 : LI (upd H3 o3 (.lst ((Rf.slopeI k).map V.int))) o3 (Rf.slopeI k) := upd_same
      generalize upd H3 o3 (.lst ((Rf.slopeI k).map V.int)) = H4 at *
      have sA : Same H H4 := s1.trans (s2.trans (s3.trans s4))
      refine ⟨_, rfl, _, rfl, _, rfl, a, o3, b, k, Rf.slopeI k, A, rfl, sA _ _ ha, lo3, sA _ _ hb, slope_length k, hA, h1, h4, hk, (slope_bd hd hk).mono (Nat.pow_le_pow_right (by decide) (by decide)), hAb.mono (Nat.pow_le_pow_right (by decide) (by decide)), fun H5 p5 s5 l5 => ?_⟩
      refine ⟨p5, _, rfl, l5, fun H6 p6 s6 l6 => ?_⟩
      refine ⟨_, rfl, (by show 1 ≤ sizeLine; decide), fun c nc => ?_⟩
      have s7 : Same H6 (upd H6 c (.lst [.ref o2])) := same_new nc
      have lc : (upd H6 c (.lst [.ref o2])) c = some (.lst [.ref o2]) := upd_same
      generalize upd H6 c (.lst [.ref o2]) = H7 at *
      have sB : Same H6 H7 := s7
      have lo2' : LI H6 o2 (k ++ [1]) := s6 _ _ (s5 _ _ (s4 _ _ (s3 _ _ lo2)))
      have sH6 : Same H H6 := sA.trans (s5.trans s6)
      have hTl : (Rf.timesI k A (Rf.slopeI k)).length = k.length := timesI_len h1 (slope_length k)
      have hTb : Rf.Bd (2 ^ 325) (Re02.trim (Rf.timesI k A (Rf.slopeI k))) := by
        intro z hz
        have := Rf.timesI_bd hk hAb (slope_bd hd hk) (by omega) z (trim_sub hz)
        rw [← Nat.pow_add, ← Nat.pow_add] at this
        exact this
      dsimp only [gName]
      refine while_by (fun σ H' => ∃ (as : List Addr) (pa ca : Addr) (don : List (List Int)) (prev cur : List Int) (n j : Nat), σ = [some (.ref a), some (.ref b), some (.ref o2), some (.ref o3), some (.ref ca), some (.ref c), none, none, none] ∧ Same H6 H' ∧ H' c = some (.lst ((as ++ [pa]).map V.ref)) ∧ as.length = don.length ∧ (∀ (i : Nat) (a : Addr) (y : List Int), (as ++ [pa])[i]? = some a → (don ++ [prev])[i]? = some y → LI H' a y) ∧ (∀ a ∈ as ++ [pa], a ≠ c) ∧ LI H' ca cur ∧ ca ≠ c ∧ Rf.chainP k A = don ++ Rf.chainG Rst n prev cur ∧ cur.length + 1 ≤ n ∧ cur.length + j ≤ 4 ∧ prev.length ≤ 5 ∧ Rf.Bd (2 ^ pbit j) prev ∧ Rf.Bd (2 ^ cbit j) cur ∧ Rf.Trim prev ∧ Rf.Trim cur ∧ don.length = j ∧ (∀ l ∈ don, l.length ≤ 5 ∧ Rf.Bd (2 ^ 60000) l)) (fun (σ : L2.St) (H' : Hp) => match σ[4]? with | some (some (V.ref c)) => (match H' c with | some (HO.lst l) => l.length | _ => 0) | _ => 0) ?_ ?_ ?_
      · refine ⟨[], o2, p6, [], k ++ [1], Re02.trim (Rf.timesI k A (Rf.slopeI k)), k.length + 2, 0, rfl, s7, lc, rfl, fun i a' y ha' hy => ?_, fun a' ha' => ?_, s7 _ _ l6, ne_of_none l6 nc, rfl, ?_, ?_, by simp; omega, deg_bd1 hk, hTb, Rf.trim_f k, Rf.trim_trim _, rfl, fun l hl => by cases hl⟩
        · cases i with
          | zero =>
            rw [← Option.some.inj ha', ← Option.some.inj hy]
            exact s7 _ _ lo2'
          | succ i => cases ha'
        · rw [List.mem_singleton.mp ha']
          exact ne_of_none lo2' nc
        · have := Rf.trim_length (Rf.timesI k A (Rf.slopeI k)); omega
        · have := Rf.trim_length (Rf.timesI k A (Rf.slopeI k)); omega
      · rintro σ H' ⟨as, pa, ca, don, prev, cur, n, j, rfl, t0, hc, hal, hrows, hnc, lca, hcac, hch, hn, hj, hp5, hpb, hcb, hpt, hct, hdj, hdon⟩
        refine ⟨_, rfl, _, .inl ⟨_, LI.seq lca, rfl⟩, ?_⟩
        cases hcur : cur with
        | nil =>
          subst hcur
          have eR : Rf.chainP k A = don ++ [prev] := by rw [hch, chainG_done]
          refine iteF ⟨_, rfl, q H' c (sH6.trans t0) ?_ ?_⟩
          · rw [eR]
            exact ⟨as ++ [pa], hc, by simp [hal], hrows⟩
          · rw [eR]
            refine ⟨by rw [List.length_append]; show _ + 1 ≤ 8; omega, fun l hl => ?_⟩
            rcases List.mem_append.mp hl with hl | hl
            · exact hdon l hl
            · rw [List.mem_singleton.mp hl]
              exact ⟨hp5, hpb.mono (Nat.pow_le_pow_right (by decide) (pbit_le (by omega)))⟩
        | cons c0 cr =>
          rw [hcur] at lca
          have hne : cur ≠ [] := by rw [hcur]; simp
          rw [← hcur] at lca
          have hcl : 1 ≤ cur.length := by rw [hcur]; simp
          have hpa : LI H' pa prev := hrows as.length pa prev (by rw [List.getElem?_append_right (Nat.le_refl _)]; simp) (by rw [hal, List.getElem?_append_right (Nat.le_refl _)]; simp)
          refine iteT ⟨_, rfl, .inl ⟨rfl, _, .inl (.inl hc)⟩, _, rfl, c, _, _, rfl, rfl, hc, ?_, ?_⟩
          · rw [List.length_map, List.length_append]
            exact small1000 (by show _ + 1 ≤ 1000; omega)
          have t1 : Same H6 (upd H' c (.lst ((as ++ [pa]).map V.ref ++ [.ref ca]))) := same_store nc t0
          have keepp : ∀ (x : Addr) (o : HO), x ≠ c → H' x = some o → (upd H' c (.lst ((as ++ [pa]).map V.ref ++ [.ref ca]))) x = some o := fun x o hx e => by rw [upd_ne hx]; exact e
          have lc1 : (upd H' c (.lst ((as ++ [pa]).map V.ref ++ [.ref ca]))) c = some (.lst ((as ++ [pa] ++ [ca]).map V.ref)) := by
            rw [upd_same, List.map_append (l₂ := [ca])]; rfl
          have lca1 := keepp _ _ hcac lca
          have lpa1 := keepp _ _ (hnc pa (by simp)) hpa
          have hrows1 : ∀ (i : Nat) (a : Addr) (y : List Int), (as ++ [pa])[i]? = some a → (don ++ [prev])[i]? = some y → LI (upd H' c (.lst ((as ++ [pa]).map V.ref ++ [.ref ca]))) a y := fun i a y ha hy => keepp _ _ (hnc a (List.mem_of_getElem? ha)) (hrows i a y ha hy)
          generalize upd H' c (.lst ((as ++ [pa]).map V.ref ++ [.ref ca])) = G1 at *
          have e1 : (as ++ [pa] ++ [ca]).map V.ref = as.map V.ref ++ [V.ref pa] ++ [V.ref ca] := by rw [List.map_append, List.map_append]; rfl
          have hlz : ∀ z ∈ [Re02.lead cur], z ≠ 0 := by
            intro z hz
            rw [List.mem_singleton.mp hz]
            have := hct hne
            rw [← Rf.lead_eq hne] at this
            exact this
          have hok := Rf.restP_ok prev.length prev cur (Nat.le_refl _) hne hct
          have hbits : 2 ^ pbit j * (2 * 2 ^ cbit j) ^ 5 = 2 ^ cbit (j + 1) := bit_step (by omega)
          refine ⟨_, rfl, 2, rfl, c, _, -2, .ref pa, rfl, rfl, .inl (.inl lc1), (by rw [e1]; exact atI_last2 _ _ _), _, rfl, 1, rfl, c, _, -1, .ref ca, rfl, rfl, .inl (.inl lc1), (by rw [e1]; exact atI_last _ _), pa, ca, prev, cur, 2 ^ pbit j, 2 ^ cbit j, rfl, lpa1, lca1, hne, hp5, hpb, hcb, Nat.one_le_two_pow, Nat.pow_le_pow_right (by decide) (cbit_le (by omega)), (by rw [hbits]; exact Nat.pow_le_pow_right (by decide) (cbit4_le (by omega))), hlz, fun G2 p2 t2 l2 b2 => ?_⟩
          rw [hbits] at b2
          refine ⟨p2, rfl, ⟨_, LI.seq l2⟩, fun D2 nD2 => ?_⟩
          refine lc_listI (K := K) nD2 l2 (by have := hok.short; omega) (fun z => -z) (fun _ => rfl) (fun x H5 RY _ _ hR => ⟨_, rfl, x, rfl, hR _ (Same.refl _)⟩) (fun G3 t3 l3 => ?_)
          have hD2c : D2 ≠ c := (ne_of_none (t2 _ _ lc1) nD2).symm
          have t4 : Same G1 G3 := t2.trans t3
          rw [scale_neg] at l3
          have hsl : (Re02.scale (-1) (Rf.restP prev.length prev cur)).length = (Rf.restP prev.length prev cur).length := by simp [Re02.scale]
          have hsh := hok.short
          refine ⟨⟨as ++ [pa], ca, D2, don ++ [prev], cur, Re02.scale (-1) (Rf.restP prev.length prev cur), n - 1, j + 1, rfl, t1.trans t4, t4 _ _ lc1, by simp [hal], ?_, ?_, l3, hD2c, ?_, by omega, by omega, by omega, hcb, ?_, hct, Rf.trim_neg (hok.trim hpt), by simp [hdj], ?_⟩, ?_⟩
          · intro i x y hx hy
            by_cases hi : i < (as ++ [pa]).length
            · rw [List.getElem?_append_left hi] at hx
              rw [List.getElem?_append_left (by simp at hi ⊢; omega)] at hy
              exact t4 _ _ (hrows1 i x y hx hy)
            · rw [List.getElem?_append_right (by omega)] at hx
              rw [List.getElem?_append_right (by simp at hi ⊢; omega)] at hy
              have ei : i - (as ++ [pa]).length = 0 := by
                have := (List.getElem?_eq_some_iff.mp hx).1
                simp at this; simp; omega
              have ei2 : i - (don ++ [prev]).length = 0 := by simp at ei ⊢; omega
              rw [ei] at hx
              rw [ei2] at hy
              rw [← Option.some.inj hx, ← Option.some.inj hy]
              exact t4 _ _ lca1
          · intro x hx
            rcases List.mem_append.mp hx with hx | hx
            · exact hnc x hx
            · rw [List.mem_singleton.mp hx]; exact hcac
          · rw [hch, chainG_more hne (by omega), List.append_assoc]
            rfl
          · intro z hz
            unfold Re02.scale at hz
            obtain ⟨y, hy, rfl⟩ := List.mem_map.mp hz
            have := b2 y hy
            have e9 : (-1 * y).natAbs = y.natAbs := by omega
            rw [e9]
            exact this
          · intro l hl
            rcases List.mem_append.mp hl with hl | hl
            · exact hdon l hl
            · rw [List.mem_singleton.mp hl]
              exact ⟨hp5, hpb.mono (Nat.pow_le_pow_right (by decide) (pbit_le (by omega)))⟩
          · show (match G3 D2 with | some (HO.lst l) => l.length | _ => 0) < (match H' ca with | some (HO.lst l) => l.length | _ => 0)
            rw [l3, lca]
            show (List.map V.int _).length < (List.map V.int _).length
            rw [List.length_map, List.length_map]
            omega
      · intro σ H' Q1 Q2 hQ
        rintro ⟨v1, g1, k1, g2, g3⟩
        exact ⟨v1, g1, k1, g2, hQ _ _ g3⟩
end
end Rp

set_option Elab.async false
set_option linter.all false
set_option maxRecDepth 100000
set_option maxHeartbeats 2000000
set_option exponentiation.threshold 1000000
namespace Rp
open PySem PySem.Spec PyProof.Rows L2
theorem val_ev {x y : Int} (hy : 0 < y) : ∀ l : List Int, ((valP l x y).1 : Rat) * (y : Rat) = (y : Rat) ^ l.length * Rf.evZ l ((x : Rat) / (y : Rat)) ∧ ((valP l x y).2 : Rat) = (y : Rat) ^ l.length
  | [] => by
    refine ⟨?_, (by show ((1 : Int) : Rat) = (y : Rat) ^ 0; rw [Rat.pow_zero]; rfl)⟩
    show ((0 : Int) : Rat) * (y : Rat) = (y : Rat) ^ 0 * 0
    rw [Rat.mul_zero]
    exact Rat.zero_mul _
  | c :: l => by
    obtain ⟨h1, h2⟩ := val_ev hy l
    have hy0 : (y : Rat) ≠ 0 := by
      intro z
      have : y = 0 := by exact_mod_cast z
      omega
    have ht : ((x : Rat) / (y : Rat)) * (y : Rat) = (x : Rat) := Rat.div_mul_cancel hy0
    generalize (x : Rat) / (y : Rat) = t at *
    refine ⟨?_, ?_⟩
    · show (((valP l x y).1 * x + c * (valP l x y).2 : Int) : Rat) * (y : Rat) = (y : Rat) ^ (l.length + 1) * Rf.evZ (c :: l) t
      rw [Rf.evZ_cons]
      push_cast
      rw [h2, Rat.pow_succ, ← ht]
      generalize (y : Rat) ^ l.length = p at *
      generalize ((valP l x y).1 : Rat) = v at *
      generalize Rf.evZ l t = e at *
      grind
    · show (((valP l x y).2 * y : Int) : Rat) = (y : Rat) ^ (l.length + 1)
      push_cast
      rw [h2, Rat.pow_succ]
theorem val_flag {x y : Int} (hy : 0 < y) (l : List Int) : Rf.flag (Rf.evZ l ((x : Rat) / (y : Rat))) = decide (Rf.valueI l x y < 0) := by
  have hv : Rf.valueI l x y = (valP l x y).1 := rfl
  obtain ⟨h1, _⟩ := val_ev (x := x) hy l
  rw [hv]
  have hyq : (0 : Rat) < (y : Rat) := by exact_mod_cast hy
  have hp : (0 : Rat) < (y : Rat) ^ l.length := Rat.pow_pos hyq
  unfold Rf.flag
  generalize Rf.evZ l ((x : Rat) / (y : Rat)) = e at *
  generalize (y : Rat) ^ l.length = p at *
  generalize (valP l x y).1 = v at *
  have hiff : e < 0 ↔ v < 0 := by
    constructor
    · intro he
      have : (v : Rat) < 0 := by
        apply Rat.not_le.mp
        intro h
        have h3 : 0 ≤ (v : Rat) * (y : Rat) := Rat.mul_nonneg h (Rat.le_of_lt hyq)
        have h4 : 0 < p * (-e) := Rat.mul_pos hp (by grind)
        grind
      exact_mod_cast this
    · intro hv
      have hvq : (v : Rat) < 0 := by exact_mod_cast hv
      apply Rat.not_le.mp
      intro h
      have h3 : 0 ≤ p * e := Rat.mul_nonneg (Rat.le_of_lt hp) h
      have h4 : 0 < (-(v : Rat)) * (y : Rat) := Rat.mul_pos (by grind) hyq
      grind
  exact decide_eq_decide.mpr hiff
/-- how often the sign changes along whole numbers -/
def chgI : List Int → Int
  | u :: v :: r => (if decide (u < 0) ≠ decide (v < 0) then 1 else 0) + chgI (v :: r)
  | _ => 0
theorem chg_chgI {x y : Int} (hy : 0 < y) : ∀ rows : List (List Int), Rf.chg (rows.map Rf.evZ) ((x : Rat) / (y : Rat)) = chgI (rows.map fun l => Rf.valueI l x y)
  | [] => rfl
  | [_] => rfl
  | f :: g :: r => by
    show (if Rf.flag (Rf.evZ f _) ≠ Rf.flag (Rf.evZ g _) then (1 : Int) else 0) + Rf.chg ((g :: r).map Rf.evZ) _ = (if decide (Rf.valueI f x y < 0) ≠ decide (Rf.valueI g x y < 0) then 1 else 0) + chgI ((g :: r).map fun l => Rf.valueI l x y)
    rw [chg_chgI hy (g :: r), val_flag hy, val_flag hy]
def keepI (vals : List Int) (i : Nat) : Bool := decide (decide (vals.getD i 0 < 0) ≠ decide (vals.getD (i + 1) 0 < 0))
theorem sum_chgI : ∀ vals : List Int, (((List.range (vals.length - 1)).filter (keepI vals)).map fun _ => (1 : Int)).sum = chgI vals
  | [] => rfl
  | [_] => rfl
  | u :: v :: r => by
    have ih := sum_chgI (v :: r)
    have e : (u :: v :: r).length - 1 = ((v :: r).length - 1) + 1 := by simp
    rw [e, List.range_succ_eq_map, List.filter_cons, List.filter_map]
    have ek : (keepI (u :: v :: r)) ∘ Nat.succ = keepI (v :: r) := by
      funext i
      rfl
    rw [ek]
    show _ = (if decide (u < 0) ≠ decide (v < 0) then 1 else 0) + chgI (v :: r)
    rw [← ih]
    have e0 : keepI (u :: v :: r) 0 = decide (decide (u < 0) ≠ decide (v < 0)) := rfl
    rw [e0]
    by_cases h : decide (u < 0) ≠ decide (v < 0)
    · rw [if_pos (decide_eq_true h), if_pos h, List.map_cons, List.sum_cons, List.map_map]
      rfl
    · rw [if_neg (by simpa using h), if_neg h, List.map_map, Int.zero_add]
      rfl
section
variable {P : Program} {w : World} {K : PySem.W.Frag} {mg : Str → Option Value} {base : Heap}
abbrev s_changes_at : Stmt := topS 29
abbrev N_changes_at : List Str := ["chain", "above", "below", "values", "polynomial", "one", "other"]
theorem sc_changes_at : FnScope N_changes_at ["chain", "above", "below"] (defScope s_changes_at) := ⟨rfl, rfl, rfl, by decide +kernel, rfl, by decide +kernel, by decide +kernel⟩
def spChanges : Sp := fun vs H Q _ => ∃ (c : Addr) (rows : List (List Int)) (x y : Int), vs = [.ref c, .int x, .int y] ∧ LL H c rows ∧ ChOk rows ∧ x.natAbs ≤ 2 ^ 1000 ∧ y.natAbs ≤ 2 ^ 1000 ∧ 0 < y ∧ ∀ H', Same H H' → Q (.int (Rf.chg (rows.map Rf.evZ) ((x : Rat) / (y : Rat)))) H'
theorem ok_changes_at {f : Addr} {fd : FuncData} (F : Fun K "changes_at" "changes_at" s_changes_at f fd) (B : Bt mg) (C_value_at : CalN P w K mg base 1 "value_at" ["polynomial", "above", "below"] spValue) : FnOk P w K mg base CX0 2 f fd ["chain", "above", "below"] spChanges := by
  obtain ⟨_, g_value_at, _, G_value_at, k_value_at, b_value_at⟩ := C_value_at
  refine F.ok sc_changes_at (fun vs H Q E h => ?_) (fun cdv A outer s H vs Q E hr h => ?_)
  · obtain ⟨c, rows, x, y, rfl, _⟩ := h
    rfl
  · obtain ⟨c, rows, x, y, rfl, ⟨as, l1, l2, l3⟩, ⟨hc1, hc2⟩, hx, hy, hy0, q⟩ := h
    refine ⟨_, (pss_cons (ps_setLc (own := [("polynomial", 4)]) (i := 3) (g := gName 4) (tt := tYes) rfl sc_changes_at.nd rfl rfl (sw_true rfl rfl rfl (by decide +kernel)) (pi_list (pv 0)) (blkOk_by (own := [("polynomial", 4)]) (N := N_changes_at) (sc := defScope s_changes_at) (by decide +kernel)) (fun _ _ _ _ _ => (pg_name (i := 4) sc_changes_at.nd rfl (Or.inl rfl))) (fun _ _ _ _ _ => pts_nil) (fun _ _ _ _ _ => (pe_call G_value_at (hr.mono (by omega)) (by rfl) g_value_at k_value_at b_value_at .nil pass0 (pa_cons (pv 4) (pa_cons (pv 1) (pa_cons (pv 2) pa_nil))))))
        (pss_one (ps_ret (pe_callB (cr_sum rfl) (by rfl) B.sum (by decide +kernel) (pa_cons (pe_lc (own := [("one", 5), ("other", 6)]) (g := gTup K 2 (gCons (gName 5) (gCons (gName 6) gNil))) rfl sc_changes_at.nd (pi_zip (by rfl) B.zip (pa_cons (pv 3) (pa_cons (pe_slice (show SlR _ (rSlL K) from sl_list) (pv 3) (po_some pe_int) po_none) pa_nil))) (blkOk_by (own := [("one", 5), ("other", 6)]) (N := N_changes_at) (sc := defScope s_changes_at) (by decide +kernel)) (fun _ _ _ _ _ => (pg_tup rfl (pgs_cons (pg_name (i := 5) sc_changes_at.nd rfl (Or.inl rfl)) (pgs_cons (pg_name (i := 6) sc_changes_at.nd rfl (Or.inl rfl)) pgs_nil)))) (fun _ _ _ _ _ => (pts_one (pt_cmpR op_ne (pe_cmpR op_lt (pv 5) pe_int (nomark _)) (pe_cmpR op_lt (pv 6) pe_int (nomark _)) (nomark _)))) (fun _ _ _ _ _ => pe_int)) pa_nil))))), ?_⟩
    refine ⟨_, rfl, c, rfl, ⟨_, .inl (.inl l1)⟩, fun D nD => ?_⟩
    refine lc_gen (walk_list (K := K) (a := c) (xs := as.map V.ref)) nD (by rw [List.length_map]; exact small1000 (by omega)) (fun i => .int (Rf.valueI (rows.getD i []) x y)) (fun _ => true) (fun H4 s5 => .inl (.inl (s5 _ _ l1))) ?_ (fun H4 s4 hD => ?_)
    · rintro i u H4 H5 hi s5 ⟨rfl, hu⟩ R RY hk1 hk2
      rw [List.length_map] at hi
      rw [List.getElem?_map, List.getElem?_eq_getElem hi] at hu
      have eu : u = .ref as[i] := (Option.some.inj hu).symm
      subst eu
      have hi2 : i < rows.length := by omega
      have lg : LI H as[i] rows[i] := l3 i _ _ (List.getElem?_eq_getElem hi) (List.getElem?_eq_getElem hi2)
      have er : rows.getD i [] = rows[i] := by rw [List.getD_eq_getElem?_getD, List.getElem?_eq_getElem hi2]; rfl
      obtain ⟨g1, g2⟩ := hc2 _ (List.getElem_mem hi2)
      refine ⟨rfl, _, rfl, _, rfl, _, rfl, as[i], rows[i], x, y, rfl, s5 _ _ lg, by omega, g2, hx, hy, fun H6 s6 => ?_⟩
      rw [← er]
      exact hk1 rfl _ s6
    · rw [filter_all, List.length_map, l2] at hD
      have eD : (List.range rows.length).map (fun i => V.int (Rf.valueI (rows.getD i []) x y)) = (rows.map fun l => Rf.valueI l x y).map V.int := by
        rw [← range_map_get (fun l => Rf.valueI l x y) [] rows, List.map_map]
        rfl
      rw [eD] at hD
      have hq : ∀ H', Same H H' → Q (.int (chgI (rows.map fun l => Rf.valueI l x y))) H' := fun H' s' => by
        rw [← chg_chgI hy0]
        exact q H' s'
      have hvl : (rows.map fun l => Rf.valueI l x y).length ≤ 8 := by rw [List.length_map]; exact hc1
      generalize (rows.map fun l => Rf.valueI l x y) = vals at *
      have lD : LI H4 D vals := hD
      refine ⟨_, rfl, _, rfl, 1, rfl, D, _, rfl, LI.seq lD, fun o1 n1 => ?_⟩
      have ec : cutV (vals.map V.int) (some 1) none = (vals.drop 1).map V.int := by rw [List.map_drop]; exact cut_from _ 1
      rw [ec]
      have s6 : Same H4 (upd H4 o1 (.lst ((vals.drop 1).map V.int))) := same_new n1
      have lo1 : LI (upd H4 o1 (.lst ((vals.drop 1).map V.int))) o1 (vals.drop 1) := upd_same
      generalize upd H4 o1 (.lst ((vals.drop 1).map V.int)) = H6 at *
      have lD6 : LI H6 D vals := s6 _ _ lD
      refine ⟨D, o1, _, _, rfl, LI.seq lD6, LI.seq lo1, fun D2 nD2 => ?_⟩
      refine lc_gen (walk_zip (K := K) (a := D) (b := o1) (xs := vals.map V.int) (ys := (vals.drop 1).map V.int) (n := vals.length - 1) (by simp)) nD2 (small1000 (by omega)) (fun _ => .int 1) (keepI vals) (fun H7 s7 => ⟨LI.seq (s7 _ _ lD6), LI.seq (s7 _ _ lo1)⟩) ?_ (fun H7 s7 hD2 => ?_)
      · rintro i u H7 H8 hi s7 ⟨T, z1, z2, rfl, nT, rfl, hz1, hz2⟩ R RY hk1 hk2
        obtain ⟨u1, h1, rfl⟩ := int_at hz1
        obtain ⟨u2, h2, rfl⟩ := int_at hz2
        have g1 : vals.getD i 0 = u1 := by rw [List.getD_eq_getElem?_getD, h1]; rfl
        have g2 : vals.getD (i + 1) 0 = u2 := by
          rw [List.getElem?_drop, Nat.add_comm] at h2
          rw [List.getD_eq_getElem?_getD, h2]; rfl
        refine ⟨T, _, rfl, .inl (.inl upd_same), rfl, _, _, rfl, _, _, rfl, rfl, rfl, ?_⟩
        refine ⟨_, rfl, _, _, rfl, rfl, _, rfl, _, _, rfl, rfl, rfl, _, rfl, ?_⟩
        have ek : keepI vals i = !decide (V.bl (decide (u1 < 0)) = V.bl (decide (u2 < 0))) := by
          unfold keepI
          rw [g1, g2]
          by_cases h : decide (u1 < 0) = decide (u2 < 0)
          · rw [h]; simp
          · have h' : ¬ V.bl (decide (u1 < 0)) = V.bl (decide (u2 < 0)) := fun z => h (V.bl.inj z)
            rw [decide_eq_true (show decide (u1 < 0) ≠ decide (u2 < 0) from h), decide_eq_false h']
            rfl
        rw [← ek]
        cases hkk : keepI vals i with
        | true => exact iteT (hk1 hkk _ (same_new nT))
        | false => exact iteF (hk2 hkk _ (same_new nT))
      · refine ⟨D2, ((List.range (vals.length - 1)).filter (keepI vals)).map fun _ => 1, rfl, .inl (.inl ?_), ?_⟩
        · rw [List.map_map]
          exact hD2
        · rw [sum_chgI]
          exact hq H7 (s4.trans (s6.trans s7))
abbrev s_unweighed_chain : Stmt := topS 30
abbrev N_unweighed_chain : List Str := ["coefficients", "one"]
theorem sc_unweighed_chain : FnScope N_unweighed_chain ["coefficients"] (defScope s_unweighed_chain) := ⟨rfl, rfl, rfl, by decide +kernel, rfl, by decide +kernel, by decide +kernel⟩
def spUnw : Sp := fun vs H Q _ => ∃ (a : Addr) (k : List Int), vs = [.ref a] ∧ LI H a k ∧ Rf.Deg k ∧ Rf.Bd 20 k ∧ ∀ H' p, Same H H' → LL H' p (Rf.chainP k (Rf.ofI k 1)) → ChOk (Rf.chainP k (Rf.ofI k 1)) → Q (.ref p) H'
theorem ok_unweighed_chain {f : Addr} {fd : FuncData} (F : Fun K "unweighed_chain" "unweighed_chain" s_unweighed_chain f fd) (B : Bt mg) (C_sturm_chain : CalN P w K mg base 4 "sturm_chain" ["coefficients", "above"] spSturm) : FnOk P w K mg base CX0 5 f fd ["coefficients"] spUnw := by
  obtain ⟨_, g_sturm_chain, _, G_sturm_chain, k_sturm_chain, b_sturm_chain⟩ := C_sturm_chain
  refine F.ok sc_unweighed_chain (fun vs H Q E h => ?_) (fun cdv A outer s H vs Q E hr h => ?_)
  · obtain ⟨a, k, rfl, _⟩ := h
    rfl
  · obtain ⟨a, k, rfl, ha, hd, hk, q⟩ := h
    refine ⟨_, (pss_one (ps_ret (pe_call G_sturm_chain (hr.mono (by omega)) (by rfl) g_sturm_chain k_sturm_chain b_sturm_chain .nil pass0 (pa_cons (pv 0) (pa_cons (pe_op op_cat (pe_lst (pa_cons pe_int pa_nil)) (pe_lc (own := [("one", 1)]) (g := gName 1) (tt := tYes) rfl sc_unweighed_chain.nd (pi_list (pe_slice (show SlR _ (rSlL K) from sl_list) (pv 0) (po_some pe_int) po_none)) (blkOk_by (own := [("one", 1)]) (N := N_unweighed_chain) (sc := defScope s_unweighed_chain) (by decide +kernel)) (fun _ _ _ _ _ => (pg_name (i := 1) sc_unweighed_chain.nd rfl (Or.inl rfl))) (fun _ _ _ _ _ => pts_nil) (fun _ _ _ _ _ => pe_int))) pa_nil))))), ?_⟩
    have h1 : 1 ≤ k.length := by have := hd.1; omega
    have h4 := hd.2
    refine ⟨_, rfl, (by show 1 ≤ sizeLine; decide), fun o2 n2 => ?_⟩
    have s2 : Same H (upd H o2 (.lst [.int 1])) := same_new n2
    have lo2 : (upd H o2 (.lst [.int 1])) o2 = some (.lst [.int 1]) := upd_same
    generalize upd H o2 (.lst [.int 1]) = H2 at *
    refine ⟨_, rfl, 1, rfl, a, _, rfl, LI.seq (s2 _ _ ha), fun o3 n3 => ?_⟩
    have ec : cutV (k.map V.int) (some 1) none = (k.drop 1).map V.int := by rw [List.map_drop]; exact cut_from _ 1
    rw [ec]
    have s3 : Same H2 (upd H2 o3 (.lst ((k.drop 1).map V.int))) := same_new n3
    have lo3 : LI (upd H2 o3 (.lst ((k.drop 1).map V.int))) o3 (k.drop 1) := upd_same
    generalize upd H2 o3 (.lst ((k.drop 1).map V.int)) = H3 at *
    refine ⟨o3, rfl, ⟨_, LI.seq lo3⟩, fun o4 n4 => ?_⟩
    refine lc_listI (K := K) n4 lo3 (by rw [List.length_drop]; omega) (fun _ => 0) (fun _ => rfl) (fun x H5 RY _ _ hR => hR _ (Same.refl _)) (fun H4 s4 l4 => ?_)
    refine ⟨o2, o4, _, _, rfl, rfl, s4 _ _ (s3 _ _ lo2), l4, ?_, fun o5 n5 => ?_⟩
    · rw [List.length_map, List.length_map, List.length_drop]
      exact Nat.le_of_lt (small1000 (by show 1 + _ ≤ 1000; omega))
    have e0 : ([V.int 1] ++ ((k.drop 1).map fun _ => (0 : Int)).map V.int) = (Rf.ofI k 1).map V.int := by
      unfold Rf.ofI
      rw [List.map_const', List.length_drop]
      rfl
    rw [e0]
    have s5 : Same H4 (upd H4 o5 (.lst ((Rf.ofI k 1).map V.int))) := same_new n5
    have lo5 : LI (upd H4 o5 (.lst ((Rf.ofI k 1).map V.int))) o5 (Rf.ofI k 1) := upd_same
    generalize upd H4 o5 (.lst ((Rf.ofI k 1).map V.int)) = H5 at *
    have sA : Same H H5 := s2.trans (s3.trans (s4.trans s5))
    refine ⟨a, o5, k, _, rfl, sA _ _ ha, lo5, Rf.ofI_length hd 1, hd, hk, ?_, fun H6 p6 s6 l6 c6 => q H6 p6 (sA.trans s6) l6 c6⟩
    intro z hz
    unfold Rf.ofI at hz
    rcases List.mem_cons.mp hz with rfl | hz
    · exact Nat.one_le_two_pow
    · rw [(List.mem_replicate.mp hz).2]; exact Nat.zero_le _
abbrev s_count_real_roots : Stmt := topS 31
abbrev N_count_real_roots : List Str := ["coefficients", "chain", "bound"]
theorem sc_count_real_roots : FnScope N_count_real_roots ["coefficients"] (defScope s_count_real_roots) := ⟨rfl, rfl, rfl, by decide +kernel, rfl, by decide +kernel, by decide +kernel⟩
def spCount : Sp := fun vs H Q _ => ∃ (a : Addr) (k : List Int), vs = [.ref a] ∧ LI H a k ∧ Rf.Fld k ∧ ∀ H', Same H H' → Q (.int (Nf01.reals k : Int)) H'
theorem div_one_int (z : Int) : (z : Rat) / ((1 : Int) : Rat) = (z : Rat) := by
  have : ((1 : Int) : Rat) = 1 := rfl
  rw [this, Rat.div_def, Rat.inv_eq_of_mul_eq_one (Rat.mul_one 1), Rat.mul_one]
theorem bound_small {k : List Int} (hk : Rf.Bd 20 k) : Rf.bndI (k ++ [1]) ≤ 33 := bnd_le (M := 32) (deg_bd1 hk)
theorem ok_count_real_roots {f : Addr} {fd : FuncData} (F : Fun K "count_real_roots" "count_real_roots" s_count_real_roots f fd) (B : Bt mg) (C_unweighed_chain : CalN P w K mg base 5 "unweighed_chain" ["coefficients"] spUnw) (C_bound_of_roots : CalN P w K mg base 1 "bound_of_roots" ["polynomial"] spBound) (C_changes_at : CalN P w K mg base 2 "changes_at" ["chain", "above", "below"] spChanges) : FnOk P w K mg base CX0 6 f fd ["coefficients"] spCount := by
  obtain ⟨_, g_unweighed_chain, _, G_unweighed_chain, k_unweighed_chain, b_unweighed_chain⟩ := C_unweighed_chain
  obtain ⟨_, g_bound_of_roots, _, G_bound_of_roots, k_bound_of_roots, b_bound_of_roots⟩ := C_bound_of_roots
  obtain ⟨_, g_changes_at, _, G_changes_at, k_changes_at, b_changes_at⟩ := C_changes_at
  refine F.ok sc_count_real_roots (fun vs H Q E h => ?_) (fun cdv A outer s H vs Q E hr h => ?_)
  · obtain ⟨a, k, rfl, _⟩ := h
    rfl
  · obtain ⟨a, k, rfl, ha, hF, q⟩ := h
    refine ⟨_, (pss_cons (ps_set (i := 1) sc_count_real_roots.nd rfl (Or.inl rfl) (pe_call G_unweighed_chain (hr.mono (by omega)) (by rfl) g_unweighed_chain k_unweighed_chain b_unweighed_chain .nil pass0 (pa_cons (pv 0) pa_nil)))
        (pss_cons (ps_set (i := 2) sc_count_real_roots.nd rfl (Or.inl rfl) (pe_call G_bound_of_roots (hr.mono (by omega)) (by rfl) g_bound_of_roots k_bound_of_roots b_bound_of_roots .nil pass0 (pa_cons (pe_op op_cat (pv 0) (pe_lst (pa_cons pe_int pa_nil))) pa_nil)))
        (pss_one (ps_ret (pe_op op_sub (pe_call G_changes_at (hr.mono (by omega)) (by rfl) g_changes_at k_changes_at b_changes_at .nil pass0 (pa_cons (pv 1) (pa_cons (pe_un un_neg (pv 2)) (pa_cons pe_int pa_nil)))) (pe_call G_changes_at (hr.mono (by omega)) (by rfl) g_changes_at k_changes_at b_changes_at .nil pass0 (pa_cons (pv 1) (pa_cons (pv 2) (pa_cons pe_int pa_nil))))))))), ?_⟩
    have h4 := hF.deg.2
    refine ⟨_, rfl, a, k, rfl, ha, hF.deg, hF.bd, fun H1 p1 s1 l1 c1 => ?_⟩
    refine ⟨_, rfl, (by show 1 ≤ sizeLine; decide), fun o2 n2 => ?_⟩
    have s2 : Same H1 (upd H1 o2 (.lst [.int 1])) := same_new n2
    have lo2 : (upd H1 o2 (.lst [.int 1])) o2 = some (.lst [.int 1]) := upd_same
    generalize upd H1 o2 (.lst [.int 1]) = H2 at *
    refine ⟨a, o2, _, _, rfl, rfl, s2 _ _ (s1 _ _ ha), lo2, ?_, fun o3 n3 => ?_⟩
    · rw [List.length_map]
      exact Nat.le_of_lt (small1000 (by show _ + 1 ≤ 1000; omega))
    have s3 : Same H2 (upd H2 o3 (.lst (k.map V.int ++ [.int 1]))) := same_new n3
    have lo3 : LI (upd H2 o3 (.lst (k.map V.int ++ [.int 1]))) o3 (k ++ [1]) := by
      show (upd H2 o3 _) o3 = _
      rw [upd_same, List.map_append]
      rfl
    generalize upd H2 o3 (.lst (k.map V.int ++ [.int 1])) = H3 at *
    refine ⟨o3, _, rfl, lo3, by simp, by rw [List.length_append]; show _ + 1 ≤ 8; omega, fun H4 s4 => ?_⟩
    have hbs := bound_small hF.bd
    have hbb : ((Rf.bndI (k ++ [1]) : Nat) : Int).natAbs ≤ 2 ^ 1000 := by
      rw [Int.natAbs_natCast]
      have : (2 : Nat) ^ 10 ≤ 2 ^ 1000 := Nat.pow_le_pow_right (by decide) (by decide)
      omega
    have s5 : Same H1 H4 := s2.trans (s3.trans s4)
    refine ⟨_, rfl, _, rfl, _, rfl, p1, _, _, 1, rfl, l1.same s5, c1, by rw [Int.natAbs_neg]; exact hbb, Nat.one_le_two_pow, by decide, fun H5 s6 => ?_⟩
    refine ⟨_, rfl, _, rfl, p1, _, _, 1, rfl, l1.same (s5.trans s6), c1, hbb, Nat.one_le_two_pow, by decide, fun H6 s7 => ?_⟩
    refine ⟨_, _, rfl, rfl, ?_⟩
    have e := Rf.reals_is hF
    have e1 : Rf.V1 k (-(Rf.boundI k : Rat)) = Rf.chg ((Rf.chainP k (Rf.ofI k 1)).map Rf.evZ) (((-(Rf.bndI (k ++ [1]) : Int) : Int) : Rat) / ((1 : Int) : Rat)) := by
      rw [div_one_int]
      push_cast
      rfl
    have e2 : Rf.V1 k (Rf.boundI k : Rat) = Rf.chg ((Rf.chainP k (Rf.ofI k 1)).map Rf.evZ) ((((Rf.bndI (k ++ [1]) : Int) : Int) : Rat) / ((1 : Int) : Rat)) := by
      rw [div_one_int]
      push_cast
      rfl
    rw [e1, e2] at e
    have h9 := q H6 (s1.trans (s5.trans (s6.trans s7)))
    rw [← e] at h9
    exact h9
end
end Rp

set_option Elab.async false
set_option linter.all false
set_option maxRecDepth 100000
set_option maxHeartbeats 2000000
set_option exponentiation.threshold 1000000
namespace Rp
open PySem PySem.Spec PyProof.Rows L2
theorem gap_bd (k : List Int) : ∀ j, ∀ p ∈ Rf.gapsAt k j, p.1.natAbs ≤ 2 ^ j * Rf.boundI k ∧ p.2.natAbs ≤ 2 ^ j * Rf.boundI k
  | 0, p, hp => by
    have : p = (-(Rf.boundI k : Int), (Rf.boundI k : Int)) := List.mem_singleton.mp hp
    subst this
    refine ⟨?_, ?_⟩
    · show (-(Rf.boundI k : Int)).natAbs ≤ _
      omega
    · show ((Rf.boundI k : Int)).natAbs ≤ _
      omega
  | j + 1, p, hp => by
    have h1 : p ∈ Rf.halves (Rf.gapsAt k j) := (List.mem_filter.mp hp).1
    obtain ⟨q, hq, hp2⟩ := List.mem_flatMap.mp h1
    obtain ⟨g1, g2⟩ := gap_bd k j q hq
    have e : 2 ^ (j + 1) * Rf.boundI k = 2 * (2 ^ j * Rf.boundI k) := by rw [Nat.pow_succ, Nat.mul_comm (2 ^ j) 2, Nat.mul_assoc]
    rw [e]
    generalize 2 ^ j * Rf.boundI k = B at *
    simp only [List.mem_cons, List.not_mem_nil, or_false] at hp2
    rcases hp2 with rfl | rfl
    · exact ⟨by show (2 * q.1).natAbs ≤ _; omega, by show (q.1 + q.2).natAbs ≤ _; omega⟩
    · exact ⟨by show (q.1 + q.2).natAbs ≤ _; omega, by show (2 * q.2).natAbs ≤ _; omega⟩
theorem lin_length {k : List Int} {j : Nat} : ∀ {l : List (Int × Int)} {u w : Int}, Rf.Lin k j l u w → (l.length : Int) ≤ w - u
  | [], u, w, h => by
    have : u = w := h
    show (0 : Int) ≤ _
    omega
  | g :: l, u, w, h => by
    obtain ⟨h1, h2, h3⟩ := h
    have := lin_length h3
    rw [List.length_cons]
    push_cast
    omega
theorem chg_range : ∀ (l : List (Rat → Rat)) (x : Rat), 0 ≤ Rf.chg l x ∧ Rf.chg l x ≤ l.length
  | [], x => ⟨Int.le_refl _, Int.le_refl _⟩
  | [p], x => ⟨Int.le_refl _, by show (0 : Int) ≤ 1; decide⟩
  | p :: q :: r, x => by
    obtain ⟨h1, h2⟩ := chg_range (q :: r) x
    rw [Rf.chg_cons]
    rw [List.length_cons (a := p)]
    push_cast
    split <;> omega
theorem chainG_length (R : List Int → List Int → List Int) : ∀ (n : Nat) (f g : List Int), (Rf.chainG R n f g).length ≤ n + 1
  | 0, f, g => by show 1 ≤ 1; decide
  | n + 1, f, g => by
    have e : Rf.chainG R (n + 1) f g = if g = [] then [f] else f :: Rf.chainG R n g (Re02.scale (-1) (R f g)) := rfl
    rw [e]
    split
    · show 1 ≤ _; omega
    · rw [List.length_cons]
      have := chainG_length R n g (Re02.scale (-1) (R f g))
      omega
theorem reals_le {k : List Int} (hF : Rf.Fld k) : Nf01.reals k ≤ 8 := by
  have e := Rf.reals_is hF
  have h1 := (chg_range ((Rf.chainP k (Rf.ofI k 1)).map Rf.evZ) (-(Rf.boundI k : Rat))).2
  have h2 := (chg_range ((Rf.chainP k (Rf.ofI k 1)).map Rf.evZ) (Rf.boundI k : Rat)).1
  have h3 : (Rf.chainP k (Rf.ofI k 1)).length ≤ k.length + 2 + 1 := chainG_length _ _ _ _
  have h4 := hF.deg.2
  rw [List.length_map] at h1
  have e1 : Rf.V1 k (-(Rf.boundI k : Rat)) = Rf.chg ((Rf.chainP k (Rf.ofI k 1)).map Rf.evZ) (-(Rf.boundI k : Rat)) := rfl
  have e2 : Rf.V1 k (Rf.boundI k : Rat) = Rf.chg ((Rf.chainP k (Rf.ofI k 1)).map Rf.evZ) (Rf.boundI k : Rat) := rfl
  rw [e1, e2] at e
  omega
theorem reals_count (k : List Int) : Nf01.reals k = Re02.count (k ++ [1]) := rfl
theorem gaps_len {k : List Int} (hF : Rf.Fld k) (j : Nat) : (Rf.gapsAt k j).length ≤ 8 := by
  cases j with
  | zero => show 1 ≤ 8; decide
  | succ j =>
    have h1 := lin_length (Rf.gaps_lin hF j)
    have h2 := reals_le hF
    rw [reals_count] at h2
    omega
/-- a tracked list of tracked pairs of whole numbers -/
def GL (H : Hp) (p : Addr) (l : List (Int × Int)) : Prop := ∃ as : List Addr, H p = some (.lst (as.map V.ref)) ∧ as.length = l.length ∧ ∀ (i : Nat) (a : Addr) (g : Int × Int), as[i]? = some a → l[i]? = some g → H a = some (.tup [.int g.1, .int g.2])
theorem GL.same {H H' : Hp} {p : Addr} {l : List (Int × Int)} (h : GL H p l) (s : Same H H') : GL H' p l := by
  obtain ⟨as, h1, h2, h3⟩ := h
  exact ⟨as, s _ _ h1, h2, fun i a r ha hr => s _ _ (h3 i a r ha hr)⟩
theorem halves_take {l : List (Int × Int)} {i : Nat} {g : Int × Int} (h : l[i]? = some g) : Rf.halves (l.take (i + 1)) = Rf.halves (l.take i) ++ [(2 * g.1, g.1 + g.2), (g.1 + g.2, 2 * g.2)] := by
  unfold Rf.halves
  rw [List.take_add_one, h, List.flatMap_append]
  rfl
theorem halves_length (l : List (Int × Int)) : (Rf.halves l).length = 2 * l.length := by
  induction l with
  | nil => rfl
  | cons g l ih =>
    show ([(2 * g.1, g.1 + g.2), (g.1 + g.2, 2 * g.2)] ++ Rf.halves l).length = _
    have e : ([(2 * g.1, g.1 + g.2), (g.1 + g.2, 2 * g.2)] : List (Int × Int)).length = 2 := rfl
    rw [List.length_append, ih, e, List.length_cons]
    omega
theorem GL.two {H2 : Hp} {o t1 t2 : Addr} {l : List (Int × Int)} {g1 g2 : Int × Int} {as : List Addr} (h1 : H2 o = some (.lst (as.map V.ref))) (h2 : as.length = l.length) (h3 : ∀ (i : Nat) (a : Addr) (g : Int × Int), as[i]? = some a → l[i]? = some g → H2 a = some (.tup [.int g.1, .int g.2])) (k1 : H2 t1 = some (.tup [.int g1.1, .int g1.2])) (k2 : H2 t2 = some (.tup [.int g2.1, .int g2.2])) : GL (upd H2 o (.lst (as.map V.ref ++ [V.ref t1, V.ref t2]))) o (l ++ [g1, g2]) := by
  have hne : ∀ (a : Addr) (u v : V), H2 a = some (.tup [u, v]) → a ≠ o := by
    intro a u v ha z
    subst z
    have := ha.symm.trans h1
    cases this
  refine ⟨as ++ [t1, t2], ?_, by simp [h2], fun i a y ha hy => ?_⟩
  · rw [upd_same, List.map_append]
    rfl
  · by_cases hi : i < as.length
    · rw [List.getElem?_append_left hi] at ha
      rw [List.getElem?_append_left (by omega)] at hy
      have := h3 i a y ha hy
      rw [upd_ne (hne _ _ _ this)]
      exact this
    · rw [List.getElem?_append_right (by omega)] at ha
      rw [List.getElem?_append_right (by omega)] at hy
      have e2 : i - l.length = i - as.length := by omega
      rw [e2] at hy
      generalize i - as.length = n at *
      match n, ha, hy with
      | 0, ha, hy =>
        rw [← Option.some.inj ha, ← Option.some.inj hy, upd_ne (hne _ _ _ k1)]
        exact k1
      | 1, ha, hy =>
        rw [← Option.some.inj ha, ← Option.some.inj hy, upd_ne (hne _ _ _ k2)]
        exact k2
      | n + 2, ha, _ => cases ha
theorem filter_at {l : List (Int × Int)} (p : Int × Int → Bool) : ((List.range l.length).filter fun i => p (l.getD i (0, 0))).map (fun i => l.getD i (0, 0)) = l.filter p := by
  have e := range_map_get (fun g : Int × Int => g) (0, 0) l
  rw [List.map_id'] at e
  conv => rhs; rw [← e]
  rw [List.filter_map]
  rfl
theorem ptj_int (j : Nat) (z : Int) : (z : Rat) / ((((2 ^ j : Nat) : Int)) : Rat) = Rf.ptj j z := rfl
theorem two_lt {j : Nat} (h : j ≤ 212) : 2 ^ j ≤ 2 ^ 212 := Nat.pow_le_pow_right (by decide) h
section
variable {P : Program} {w : World} {K : PySem.W.Frag} {mg : Str → Option Value} {base : Heap}
abbrev s_real_roots_apart : Stmt := topS 32
abbrev N_real_roots_apart : List Str := ["coefficients", "chain", "bound", "roots", "gaps", "below", "halves", "low", "high", "gap"]
theorem sc_real_roots_apart : FnScope N_real_roots_apart ["coefficients"] (defScope s_real_roots_apart) := ⟨rfl, rfl, rfl, by decide +kernel, rfl, by decide +kernel, by decide +kernel⟩
def spApart : Sp := fun vs H Q _ => ∃ (a : Addr) (k : List Int), vs = [.ref a] ∧ LI H a k ∧ Rf.Fld k ∧ ∀ H' t g j, Same H H' → H' t = some (.tup [.ref g, .int ((2 ^ j : Nat) : Int)]) → GL H' g (Rf.gapsAt k j) → (Rf.gapsAt k j).length = Re02.count (k ++ [1]) → j ≤ 212 → Q (.ref t) H'
theorem ok_real_roots_apart {f : Addr} {fd : FuncData} (F : Fun K "real_roots_apart" "real_roots_apart" s_real_roots_apart f fd) (B : Bt mg) (C_unweighed_chain : CalN P w K mg base 5 "unweighed_chain" ["coefficients"] spUnw) (C_bound_of_roots : CalN P w K mg base 1 "bound_of_roots" ["polynomial"] spBound) (C_count_real_roots : CalN P w K mg base 6 "count_real_roots" ["coefficients"] spCount) (C_changes_at : CalN P w K mg base 2 "changes_at" ["chain", "above", "below"] spChanges) : FnOk P w K mg base CX0 7 f fd ["coefficients"] spApart := by
  obtain ⟨_, g_unweighed_chain, _, G_unweighed_chain, k_unweighed_chain, b_unweighed_chain⟩ := C_unweighed_chain
  obtain ⟨_, g_bound_of_roots, _, G_bound_of_roots, k_bound_of_roots, b_bound_of_roots⟩ := C_bound_of_roots
  obtain ⟨_, g_count_real_roots, _, G_count_real_roots, k_count_real_roots, b_count_real_roots⟩ := C_count_real_roots
  obtain ⟨_, g_changes_at, _, G_changes_at, k_changes_at, b_changes_at⟩ := C_changes_at
  refine F.ok sc_real_roots_apart (fun vs H Q E h => ?_) (fun cdv A outer s H vs Q E hr h => ?_)
  · obtain ⟨a, k, rfl, _⟩ := h
    rfl
  · obtain ⟨a, k, rfl, ha, hF, q⟩ := h
    refine ⟨_, (pss_cons (ps_set (i := 1) sc_real_roots_apart.nd rfl (Or.inr rfl) (pe_call G_unweighed_chain (hr.mono (by omega)) (by rfl) g_unweighed_chain k_unweighed_chain b_unweighed_chain .nil pass0 (pa_cons (pv 0) pa_nil)))
        (pss_cons (ps_set (i := 2) sc_real_roots_apart.nd rfl (Or.inl rfl) (pe_call G_bound_of_roots (hr.mono (by omega)) (by rfl) g_bound_of_roots k_bound_of_roots b_bound_of_roots .nil pass0 (pa_cons (pe_op op_cat (pv 0) (pe_lst (pa_cons pe_int pa_nil))) pa_nil)))
        (pss_cons (ps_set (i := 3) sc_real_roots_apart.nd rfl (Or.inl rfl) (pe_call G_count_real_roots (hr.mono (by omega)) (by rfl) g_count_real_roots k_count_real_roots b_count_real_roots .nil pass0 (pa_cons (pv 0) pa_nil)))
        (pss_cons (ps_set (i := 4) sc_real_roots_apart.nd rfl (Or.inl rfl) (pe_lst (pa_cons (pe_tup (pa_cons (pe_un un_neg (pv 2)) (pa_cons (pv 2) pa_nil))) pa_nil)))
        (pss_cons (ps_set (i := 5) sc_real_roots_apart.nd rfl (Or.inr rfl) pe_int)
        (pss_cons (ps_while PassesOwn.never (pt_cmpR op_ne (pe_callB (show CallR _ _ (rLenK K) from call_len_seq) (by rfl) B.len PySem.boot_len (pa_cons (pv 4) pa_nil)) (pv 3) (nomark _)) (pss_cons (ps_set (i := 5) sc_real_roots_apart.nd rfl (Or.inr rfl) (pe_op op_mulW pe_int (pv 5)))
        (pss_cons (ps_set (i := 6) sc_real_roots_apart.nd rfl (Or.inl rfl) (pe_lst pa_nil))
        (pss_cons (ps_for PassesOwn.never rfl (pi_list (pv 4)) (pg_tup rfl (pgs_cons (pg_name (i := 7) sc_real_roots_apart.nd rfl (Or.inl rfl)) (pgs_cons (pg_name (i := 8) sc_real_roots_apart.nd rfl (Or.inl rfl)) pgs_nil))) (pss_one (ps_expr (pe_bm PySem.F.plainAttrs_list PySem.F.slot_list_extend PySem.F.type_list_extend mt_extend (pv 6) (pa_cons (pe_lst (pa_cons (pe_tup (pa_cons (pe_op op_mulW pe_int (pv 7)) (pa_cons (pe_op op_add (pv 7) (pv 8)) pa_nil))) (pa_cons (pe_tup (pa_cons (pe_op op_add (pv 7) (pv 8)) (pa_cons (pe_op op_mulW pe_int (pv 8)) pa_nil))) pa_nil))) pa_nil)))))
        (pss_one (ps_setLc (own := [("gap", 9)]) (i := 4) (g := gName 9) rfl sc_real_roots_apart.nd rfl rfl (sw_true rfl rfl rfl (by decide +kernel)) (pi_list (pv 6)) (blkOk_by (own := [("gap", 9)]) (N := N_real_roots_apart) (sc := defScope s_real_roots_apart) (by decide +kernel)) (fun _ _ _ _ _ => (pg_name (i := 9) sc_real_roots_apart.nd rfl (Or.inl rfl))) (fun _ _ _ _ _ => (pts_one (pt_cmpR op_ne (pe_call G_changes_at (hr.mono (by omega)) (by rfl) g_changes_at k_changes_at b_changes_at .nil pass0 (pa_cons (pv 1) (pa_cons (pe_ix (show IxR _ (rIxT K) from ix_tup) (pv 9) pe_int (fun _ _ => rfl)) (pa_cons (pv 5) pa_nil)))) (pe_call G_changes_at (hr.mono (by omega)) (by rfl) g_changes_at k_changes_at b_changes_at .nil pass0 (pa_cons (pv 1) (pa_cons (pe_ix (show IxR _ (rIxT K) from ix_tup) (pv 9) pe_int (fun _ _ => rfl)) (pa_cons (pv 5) pa_nil)))) (nomark _)))) (fun _ _ _ _ _ => (pv 9))))))))
        (pss_one (ps_ret (pe_tup (pa_cons (pv 4) (pa_cons (pv 5) pa_nil))))))))))), ?_⟩
    have h4 := hF.deg.2
    refine ⟨_, rfl, a, k, rfl, ha, hF.deg, hF.bd, fun H1 p1 s1 l1 c1 => ?_⟩
    refine ⟨_, rfl, (by show 1 ≤ sizeLine; decide), fun o2 n2 => ?_⟩
    have s2 : Same H1 (upd H1 o2 (.lst [.int 1])) := same_new n2
    have lo2 : (upd H1 o2 (.lst [.int 1])) o2 = some (.lst [.int 1]) := upd_same
    generalize upd H1 o2 (.lst [.int 1]) = H2 at *
    refine ⟨a, o2, _, _, rfl, rfl, s2 _ _ (s1 _ _ ha), lo2, ?_, fun o3 n3 => ?_⟩
    · rw [List.length_map]
      exact Nat.le_of_lt (small1000 (by show _ + 1 ≤ 1000; omega))
    have s3 : Same H2 (upd H2 o3 (.lst (k.map V.int ++ [.int 1]))) := same_new n3
    have lo3 : LI (upd H2 o3 (.lst (k.map V.int ++ [.int 1]))) o3 (k ++ [1]) := by
      show (upd H2 o3 _) o3 = _
      rw [upd_same, List.map_append]
      rfl
    generalize upd H2 o3 (.lst (k.map V.int ++ [.int 1])) = H3 at *
    refine ⟨o3, _, rfl, lo3, by simp, by rw [List.length_append]; show _ + 1 ≤ 8; omega, fun H4 s4 => ?_⟩
    have hbs : Rf.boundI k ≤ 33 := bound_small hF.bd
    have sA : Same H H4 := s1.trans (s2.trans (s3.trans s4))
    refine ⟨_, rfl, a, k, rfl, sA _ _ ha, hF, fun H5 s5 => ?_⟩
    refine ⟨_, rfl, _, rfl, _, rfl, (by show 2 ≤ sizeLine; decide), fun t nt => ?_⟩
    have s6 : Same H5 (upd H5 t (.tup [.int (-(Rf.boundI k : Int)), .int (Rf.boundI k : Int)])) := same_new nt
    have lt0 : (upd H5 t (.tup [.int (-(Rf.boundI k : Int)), .int (Rf.boundI k : Int)])) t = some (.tup [.int (-(Rf.boundI k : Int)), .int (Rf.boundI k : Int)]) := upd_same
    refine ⟨(by show 1 ≤ sizeLine; decide), fun g0 ng0 => ?_⟩
    have s7 : Same (upd H5 t (.tup [.int (-(Rf.boundI k : Int)), .int (Rf.boundI k : Int)])) (upd (upd H5 t (.tup [.int (-(Rf.boundI k : Int)), .int (Rf.boundI k : Int)])) g0 (.lst [.ref t])) := same_new ng0
    have lg0 : (upd (upd H5 t (.tup [.int (-(Rf.boundI k : Int)), .int (Rf.boundI k : Int)])) g0 (.lst [.ref t])) g0 = some (.lst [.ref t]) := upd_same
    have s8 := s6.trans s7
    have lt1 := s7 _ _ lt0
    dsimp only [gName]
    refine while_by (fun σ H' => ∃ (j : Nat) (g : Addr) (y6 y7 y8 : Option V), σ = [some (.ref a), some (.ref p1), some (.int (Rf.boundI k : Int)), some (.int (Nf01.reals k : Int)), some (.ref g), some (.int ((2 ^ j : Nat) : Int)), y6, y7, y8, none] ∧ Same H5 H' ∧ GL H' g (Rf.gapsAt k j) ∧ j ≤ 212) (fun (σ : L2.St) (_ : Hp) => match σ[5]? with | some (some (V.int b)) => 213 - Nat.log2 b.natAbs | _ => 0) ⟨0, g0, none, none, none, rfl, s8, ⟨[t], lg0, rfl, fun i a' g' ha' hg' => ?_⟩, by decide⟩ ?_ ?_
    · cases i with
      | zero =>
        rw [← Option.some.inj ha', ← Option.some.inj hg']
        exact lt1
      | succ i => cases ha'
    · rintro σ H' ⟨j, g, y6, y7, y8, rfl, t0, lg, hj⟩
      have lg' := lg
      obtain ⟨as, m1, m2, m3⟩ := lg
      have hgl := gaps_len hF j
      refine ⟨_, rfl, g, _, rfl, .inl (.inl (.inl m1)), _, rfl, rfl, _, rfl, ?_⟩
      by_cases hlen : (Rf.gapsAt k j).length = Nf01.reals k
      · have e : (!decide (V.int ((as.map V.ref).length : Int) = V.int (Nf01.reals k : Int))) = false := by
          rw [List.length_map, m2, hlen]
          simp
        rw [e]
        refine iteF ⟨_, rfl, _, rfl, (by show 2 ≤ sizeLine; decide), fun t2 nt2 => ?_⟩
        exact q _ t2 g j ((sA.trans (s5.trans t0)).trans (same_new nt2)) upd_same (lg'.same (same_new nt2)) (hlen.trans (reals_count k)) hj
      · have e : (!decide (V.int ((as.map V.ref).length : Int) = V.int (Nf01.reals k : Int))) = true := by
          have : ¬ V.int ((as.map V.ref).length : Int) = V.int (Nf01.reals k : Int) := fun z => hlen (by
            have := V.int.inj z
            rw [List.length_map, m2] at this
            omega)
          rw [decide_eq_false this]; rfl
        rw [e]
        have hj2 : j < 212 := by
          apply Nat.lt_of_le_of_ne hj
          intro hz
          obtain ⟨m, hm⟩ : ∃ m, j = m + 1 := ⟨j - 1, by omega⟩
          subst hm
          exact hlen ((Rf.gaps_end hF m (by omega)).trans (reals_count k).symm)
        have hpj := two_lt hj
        have h2j : (((2 ^ j : Nat) : Int)).natAbs < 2 ^ 213 := by
          rw [Int.natAbs_natCast]
          exact Nat.lt_of_le_of_lt hpj (by decide)
        refine iteT ⟨_, rfl, _, _, rfl, rfl, wide_mul (a := 2) (by decide) h2j (by decide) (by decide) (by decide), ?_⟩
        have e2 : (2 : Int) * ((2 ^ j : Nat) : Int) = ((2 ^ (j + 1) : Nat) : Int) := by
          rw [Nat.pow_succ, Nat.mul_comm]
          push_cast
          rfl
        dsimp only [gName]
        rw [e2]
        refine ⟨Nat.zero_le _, fun o no => ?_⟩
        have u1 : Same H' (upd H' o (.lst [])) := same_new no
        have lo : (upd H' o (.lst [])) o = some (.lst []) := upd_same
        refine ⟨_, rfl, g, rfl, ⟨_, .inl (.inl (u1 _ _ m1))⟩, for_list (K := K) (a := g) (xs := as.map V.ref) (fun i σ H2 => ∃ (y7 y8 : Option V), σ = [some (.ref a), some (.ref p1), some (.int (Rf.boundI k : Int)), some (.int (Nf01.reals k : Int)), some (.ref g), some (.int ((2 ^ (j + 1) : Nat) : Int)), some (.ref o), y7, y8, none] ∧ Same H' H2 ∧ GL H2 o (Rf.halves ((Rf.gapsAt k j).take i))) ⟨y7, y8, rfl, u1, [], lo, rfl, fun i a' g' ha' _ => by cases ha'⟩ (fun i σ H2 _ ⟨_, _, _, u2, _⟩ => .inl (.inl (u2 _ _ m1))) ?_ ?_⟩
        · rintro i x σ H2 hx ⟨y7, y8, rfl, u2, bs, b1, b2, b3⟩
          rw [List.getElem?_map] at hx
          cases hai : as[i]? with
          | none => rw [hai] at hx; cases hx
          | some ga =>
            rw [hai] at hx
            have ex : x = .ref ga := (Option.some.inj hx).symm
            subst ex
            have hil : i < (Rf.gapsAt k j).length := by
              have := (List.getElem?_eq_some_iff.mp hai).1
              omega
            have hgi : (Rf.gapsAt k j)[i]? = some ((Rf.gapsAt k j)[i]) := List.getElem?_eq_getElem hil
            have hgb := gap_bd k j _ (List.getElem_mem hil)
            have hga := m3 i ga _ hai hgi
            have eh := halves_take hgi
            generalize (Rf.gapsAt k j)[i] = gp at *
            have hB : 2 ^ j * Rf.boundI k ≤ 2 ^ 212 * 33 := Nat.mul_le_mul hpj hbs
            have hg1 : gp.1.natAbs < 2 ^ 219 := Nat.lt_of_le_of_lt (Nat.le_trans hgb.1 hB) (by decide)
            have hg2 : gp.2.natAbs < 2 ^ 219 := Nat.lt_of_le_of_lt (Nat.le_trans hgb.2 hB) (by decide)
            refine ⟨ga, _, rfl, .inl (.inl (u2 _ _ hga)), rfl, _, _, rfl, _, _, rfl, rfl, ?_⟩
            refine ⟨_, rfl, .inl ⟨rfl, _, .inl (.inl b1)⟩, ?_⟩
            refine ⟨_, rfl, _, _, rfl, rfl, wide_mul (a := 2) (by decide) hg1 (by decide) (by decide) (by decide), _, rfl, _, rfl, _, _, rfl, rfl, (by show 2 ≤ sizeLine; decide), fun t1 nt1 => ?_⟩
            have v1 : Same H2 (upd H2 t1 (.tup [.int (2 * gp.1), .int (gp.1 + gp.2)])) := same_new nt1
            have w1 : (upd H2 t1 (.tup [.int (2 * gp.1), .int (gp.1 + gp.2)])) t1 = some (.tup [.int (2 * gp.1), .int (gp.1 + gp.2)]) := upd_same
            refine ⟨_, rfl, _, rfl, _, _, rfl, rfl, _, rfl, _, _, rfl, rfl, wide_mul (a := 2) (by decide) hg2 (by decide) (by decide) (by decide), (by show 2 ≤ sizeLine; decide), fun t2 nt2 => ?_⟩
            have v2 : Same (upd H2 t1 (.tup [.int (2 * gp.1), .int (gp.1 + gp.2)])) (upd (upd H2 t1 (.tup [.int (2 * gp.1), .int (gp.1 + gp.2)])) t2 (.tup [.int (gp.1 + gp.2), .int (2 * gp.2)])) := same_new nt2
            have w2 : (upd (upd H2 t1 (.tup [.int (2 * gp.1), .int (gp.1 + gp.2)])) t2 (.tup [.int (gp.1 + gp.2), .int (2 * gp.2)])) t2 = some (.tup [.int (gp.1 + gp.2), .int (2 * gp.2)]) := upd_same
            refine ⟨(by show 2 ≤ sizeLine; decide), fun ls nls => ?_⟩
            have v3 : Same (upd (upd H2 t1 (.tup [.int (2 * gp.1), .int (gp.1 + gp.2)])) t2 (.tup [.int (gp.1 + gp.2), .int (2 * gp.2)])) (upd (upd (upd H2 t1 (.tup [.int (2 * gp.1), .int (gp.1 + gp.2)])) t2 (.tup [.int (gp.1 + gp.2), .int (2 * gp.2)])) ls (.lst [.ref t1, .ref t2])) := same_new nls
            have w3 : (upd (upd (upd H2 t1 (.tup [.int (2 * gp.1), .int (gp.1 + gp.2)])) t2 (.tup [.int (gp.1 + gp.2), .int (2 * gp.2)])) ls (.lst [.ref t1, .ref t2])) ls = some (.lst [.ref t1, .ref t2]) := upd_same
            have v4 := v1.trans (v2.trans v3)
            refine ⟨o, ls, _, _, rfl, rfl, v4 _ _ b1, w3, ?_, ?_⟩
            · rw [List.length_map, b2, halves_length, List.length_take]
              exact Nat.le_of_lt (small1000 (by show _ + 2 ≤ 1000; omega))
            · refine ⟨some (.int gp.1), some (.int gp.2), rfl, ?_, ?_⟩
              · exact same_store no (u2.trans v4)
              · rw [eh]
                exact GL.two (v4 _ _ b1) b2 (fun i a g ha hg => v4 _ _ (b3 i a g ha hg)) (v3 _ _ (v2 _ _ w1)) (v3 _ _ w2)
        · rintro σ H2 ⟨y7, y8, rfl, u2, lh⟩
          rw [List.length_map, m2, List.take_length] at lh
          obtain ⟨bs, b1, b2, b3⟩ := lh
          have hhl : (Rf.halves (Rf.gapsAt k j)).length ≤ 16 := by rw [halves_length]; omega
          refine ⟨_, rfl, o, rfl, ⟨_, .inl (.inl b1)⟩, fun D nD => ?_⟩
          have hbd : ∀ p ∈ Rf.halves (Rf.gapsAt k j), p.1.natAbs ≤ 2 ^ 1000 ∧ p.2.natAbs ≤ 2 ^ 1000 := by
            intro p hp
            obtain ⟨g', hg', hp2⟩ := List.mem_flatMap.mp hp
            have hgb := gap_bd k j _ hg'
            have hB : 2 ^ j * Rf.boundI k ≤ 2 ^ 212 * 33 := Nat.mul_le_mul hpj hbs
            have h9 : (2 : Nat) ^ 212 * 33 * 2 ≤ 2 ^ 1000 := by decide
            generalize 2 ^ j * Rf.boundI k = B at *
            simp only [List.mem_cons, List.not_mem_nil, or_false] at hp2
            rcases hp2 with rfl | rfl
            · exact ⟨by show (2 * g'.1).natAbs ≤ _; omega, by show (g'.1 + g'.2).natAbs ≤ _; omega⟩
            · exact ⟨by show (g'.1 + g'.2).natAbs ≤ _; omega, by show (2 * g'.2).natAbs ≤ _; omega⟩
          have hyb : (((2 ^ (j + 1) : Nat) : Int)).natAbs ≤ 2 ^ 1000 := by
            rw [Int.natAbs_natCast]
            exact Nat.pow_le_pow_right (by decide) (by omega)
          have hy0 : (0 : Int) < ((2 ^ (j + 1) : Nat) : Int) := by
            have := Nat.two_pow_pos (j + 1)
            omega
          have egap : Rf.gapsAt k (j + 1) = (Rf.halves (Rf.gapsAt k j)).filter fun p => decide (Rf.V1 k (Rf.ptj (j + 1) p.1) ≠ Rf.V1 k (Rf.ptj (j + 1) p.2)) := rfl
          generalize Rf.halves (Rf.gapsAt k j) = HL at *
          have l1' : LL H2 p1 (Rf.chainP k (Rf.ofI k 1)) := l1.same (s2.trans (s3.trans (s4.trans (s5.trans (t0.trans u2)))))
          refine lc_gen (walk_list (K := K) (a := o) (xs := bs.map V.ref)) nD (by rw [List.length_map]; exact small1000 (by omega)) (fun i => .ref (bs.getD i 0)) (fun i => decide (Rf.V1 k (Rf.ptj (j + 1) (HL.getD i (0, 0)).1) ≠ Rf.V1 k (Rf.ptj (j + 1) (HL.getD i (0, 0)).2))) (fun H4 s9 => .inl (.inl (s9 _ _ b1))) ?_ (fun H4 s9 hD => ?_)
          · rintro i x H6 H7 hi s9 ⟨rfl, hx⟩ R RY hk1 hk2
            rw [List.length_map] at hi
            rw [List.getElem?_map, List.getElem?_eq_getElem hi] at hx
            have ex : x = .ref bs[i] := (Option.some.inj hx).symm
            subst ex
            have hi2 : i < HL.length := by omega
            have lgp := s9 _ _ (b3 i _ _ (List.getElem?_eq_getElem hi) (List.getElem?_eq_getElem hi2))
            have eHL : HL.getD i (0, 0) = HL[i] := by rw [List.getD_eq_getElem?_getD, List.getElem?_eq_getElem hi2]; rfl
            have ebs : bs.getD i 0 = bs[i] := by rw [List.getD_eq_getElem?_getD, List.getElem?_eq_getElem hi]; rfl
            rw [eHL] at hk1 hk2
            rw [ebs] at hk1
            obtain ⟨hb1, hb2⟩ := hbd _ (List.getElem_mem hi2)
            generalize HL[i] = gp at *
            have lch : LL H7 p1 (Rf.chainP k (Rf.ofI k 1)) := l1'.same s9
            refine ⟨rfl, _, rfl, _, rfl, bs[i], _, 0, .int gp.1, rfl, rfl, .inl (.inl lgp), atI_nat (j := 0) rfl, _, rfl, p1, _, gp.1, _, rfl, lch, c1, hb1, hyb, hy0, fun H8 s10 => ?_⟩
            refine ⟨_, rfl, _, rfl, bs[i], _, 1, .int gp.2, rfl, rfl, .inl (.inl (s10 _ _ lgp)), atI_nat (j := 1) rfl, _, rfl, p1, _, gp.2, _, rfl, lch.same s10, c1, hb2, hyb, hy0, fun H9 s11 => ?_⟩
            refine ⟨rfl, _, rfl, ?_⟩
            have eV : (!decide (V.int (Rf.chg ((Rf.chainP k (Rf.ofI k 1)).map Rf.evZ) ((gp.1 : Rat) / (((2 ^ (j + 1) : Nat) : Int) : Rat))) = V.int (Rf.chg ((Rf.chainP k (Rf.ofI k 1)).map Rf.evZ) ((gp.2 : Rat) / (((2 ^ (j + 1) : Nat) : Int) : Rat))))) = decide (Rf.V1 k (Rf.ptj (j + 1) gp.1) ≠ Rf.V1 k (Rf.ptj (j + 1) gp.2)) := by
              rw [ptj_int, ptj_int]
              show (!decide (V.int (Rf.V1 k (Rf.ptj (j + 1) gp.1)) = V.int (Rf.V1 k (Rf.ptj (j + 1) gp.2)))) = _
              by_cases h : Rf.V1 k (Rf.ptj (j + 1) gp.1) = Rf.V1 k (Rf.ptj (j + 1) gp.2)
              · rw [h]; simp
              · have h' : ¬ V.int (Rf.V1 k (Rf.ptj (j + 1) gp.1)) = V.int (Rf.V1 k (Rf.ptj (j + 1) gp.2)) := fun z => h (V.int.inj z)
                rw [decide_eq_false h', decide_eq_true h]
                rfl
            rw [eV]
            by_cases h : Rf.V1 k (Rf.ptj (j + 1) gp.1) ≠ Rf.V1 k (Rf.ptj (j + 1) gp.2)
            · rw [decide_eq_true h]
              exact iteT ⟨_, rfl, hk1 (decide_eq_true h) _ (s10.trans s11)⟩
            · rw [decide_eq_false h]
              exact iteF (hk2 (decide_eq_false h) _ (s10.trans s11))
          · rw [List.length_map, b2] at hD
            refine ⟨⟨j + 1, D, _, _, _, rfl, t0.trans (u2.trans s9), ?_, by omega⟩, ?_⟩
            · rw [egap, ← filter_at]
              refine ⟨((List.range HL.length).filter fun i => decide (Rf.V1 k (Rf.ptj (j + 1) (HL.getD i (0, 0)).1) ≠ Rf.V1 k (Rf.ptj (j + 1) (HL.getD i (0, 0)).2))).map fun i => bs.getD i 0, ?_, by simp, fun i a' g' ha' hg' => ?_⟩
              · rw [List.map_map]
                exact hD
              · rw [List.getElem?_map] at ha' hg'
                cases hx : ((List.range HL.length).filter fun i => decide (Rf.V1 k (Rf.ptj (j + 1) (HL.getD i (0, 0)).1) ≠ Rf.V1 k (Rf.ptj (j + 1) (HL.getD i (0, 0)).2)))[i]? with
                | none => rw [hx] at ha'; cases ha'
                | some n =>
                  rw [hx] at ha' hg'
                  have hn : n < HL.length := List.mem_range.mp (List.mem_filter.mp (List.mem_of_getElem? hx)).1
                  have ea : bs[n]? = some a' := by
                    have h1 : bs.getD n 0 = a' := Option.some.inj ha'
                    rw [List.getD_eq_getElem?_getD, List.getElem?_eq_getElem (by omega)] at h1
                    rw [List.getElem?_eq_getElem (by omega)]
                    exact congrArg some h1
                  have eg : HL[n]? = some g' := by
                    have h1 : HL.getD n (0, 0) = g' := Option.some.inj hg'
                    rw [List.getD_eq_getElem?_getD, List.getElem?_eq_getElem hn] at h1
                    rw [List.getElem?_eq_getElem hn]
                    exact congrArg some h1
                  exact s9 _ _ (b3 n a' g' ea eg)
            · show 213 - Nat.log2 (((2 ^ (j + 1) : Nat) : Int)).natAbs < 213 - Nat.log2 (((2 ^ j : Nat) : Int)).natAbs
              rw [Int.natAbs_natCast, Int.natAbs_natCast, Nat.log2_two_pow, Nat.log2_two_pow]
              omega
    · intro σ H' Q1 Q2 hQ
      rintro ⟨v1, g1, p1, ys1, g2, g3, v2, g4, g5, b1, g9, g10⟩
      exact ⟨v1, g1, p1, ys1, g2, g3, v2, g4, g5, b1, g9, hQ _ _ g10⟩
end
end Rp

set_option Elab.async false
set_option linter.all false
set_option maxRecDepth 100000
set_option maxHeartbeats 2000000
set_option exponentiation.threshold 1000000
namespace Rp
open PySem PySem.Spec PyProof.Rows L2
section
variable {P : Program} {w : World} {K : PySem.W.Frag} {mg : Str → Option Value} {base : Heap}
def signsR (k : List Int) (v : Rf.L) : List Int := (List.range (Nf01.reals k)).map fun r => Nf01.sign k (v.map Rf.psi) (r + 1)
abbrev s_signs_of : Stmt := topS 33
abbrev N_signs_of : List Str := ["coefficients", "number", "gaps", "below", "chain", "low", "high"]
theorem sc_signs_of : FnScope N_signs_of ["coefficients", "number"] (defScope s_signs_of) := ⟨rfl, rfl, rfl, by decide +kernel, rfl, by decide +kernel, by decide +kernel⟩
def spSigns : Sp := fun vs H Q _ => ∃ (c a : Addr) (k : List Int) (v : Rf.L), vs = [.ref c, .ref a] ∧ LI H c k ∧ LI H a (Rf.placesQ v) ∧ Sm v ∧ Rf.Fld k ∧ v.length = k.length ∧ ∀ H' p, Same H H' → LI H' p (signsR k v) → Q (.ref p) H'
theorem ok_signs_of {f : Addr} {fd : FuncData} (F : Fun K "signs_of" "signs_of" s_signs_of f fd) (B : Bt mg) (C_over_one_below : CalN P w K mg base 2 "over_one_below" ["places"] spOver) (C_sturm_chain : CalN P w K mg base 4 "sturm_chain" ["coefficients", "above"] spSturm) (C_real_roots_apart : CalN P w K mg base 7 "real_roots_apart" ["coefficients"] spApart) (C_changes_at : CalN P w K mg base 2 "changes_at" ["chain", "above", "below"] spChanges) : FnOk P w K mg base CX0 8 f fd ["coefficients", "number"] spSigns := by
  obtain ⟨_, g_over_one_below, _, G_over_one_below, k_over_one_below, b_over_one_below⟩ := C_over_one_below
  obtain ⟨_, g_sturm_chain, _, G_sturm_chain, k_sturm_chain, b_sturm_chain⟩ := C_sturm_chain
  obtain ⟨_, g_real_roots_apart, _, G_real_roots_apart, k_real_roots_apart, b_real_roots_apart⟩ := C_real_roots_apart
  obtain ⟨_, g_changes_at, _, G_changes_at, k_changes_at, b_changes_at⟩ := C_changes_at
  refine F.ok sc_signs_of (fun vs H Q E h => ?_) (fun cdv A outer s H vs Q E hr h => ?_)
  · obtain ⟨c, a, k, v, rfl, _⟩ := h
    rfl
  · obtain ⟨c, a, k, v, rfl, hc, ha, hv, hF, hvl, q⟩ := h
    refine ⟨_, (pss_cons (ps_asg (pe_call G_real_roots_apart (hr.mono (by omega)) (by rfl) g_real_roots_apart k_real_roots_apart b_real_roots_apart .nil pass0 (pa_cons (pv 0) pa_nil)) (pg_tup rfl (pgs_cons (pg_name (i := 2) sc_signs_of.nd rfl (Or.inl rfl)) (pgs_cons (pg_name (i := 3) sc_signs_of.nd rfl (Or.inr rfl)) pgs_nil))))
        (pss_cons (ps_set (i := 4) sc_signs_of.nd rfl (Or.inr rfl) (pe_call G_sturm_chain (hr.mono (by omega)) (by rfl) g_sturm_chain k_sturm_chain b_sturm_chain .nil pass0 (pa_cons (pv 0) (pa_cons (pe_ix (show IxR _ (rIxT K) from ix_tup) (pe_call G_over_one_below (hr.mono (by omega)) (by rfl) g_over_one_below k_over_one_below b_over_one_below .nil pass0 (pa_cons (pv 1) pa_nil)) pe_int (fun _ _ => rfl)) pa_nil))))
        (pss_one (ps_ret (pe_lc (own := [("low", 5), ("high", 6)]) (g := gTup K 2 (gCons (gName 5) (gCons (gName 6) gNil))) (tt := tYes) rfl sc_signs_of.nd (pi_list (pv 2)) (blkOk_by (own := [("low", 5), ("high", 6)]) (N := N_signs_of) (sc := defScope s_signs_of) (by decide +kernel)) (fun _ _ _ _ _ => (pg_tup rfl (pgs_cons (pg_name (i := 5) sc_signs_of.nd rfl (Or.inl rfl)) (pgs_cons (pg_name (i := 6) sc_signs_of.nd rfl (Or.inl rfl)) pgs_nil)))) (fun _ _ _ _ _ => pts_nil) (fun _ _ _ _ _ => (pe_op op_sub (pe_call G_changes_at (hr.mono (by omega)) (by rfl) g_changes_at k_changes_at b_changes_at .nil pass0 (pa_cons (pv 4) (pa_cons (pv 5) (pa_cons (pv 3) pa_nil)))) (pe_call G_changes_at (hr.mono (by omega)) (by rfl) g_changes_at k_changes_at b_changes_at .nil pass0 (pa_cons (pv 4) (pa_cons (pv 6) (pa_cons (pv 3) pa_nil))))))))))), ?_⟩
    refine ⟨_, rfl, c, k, rfl, hc, hF, fun H1 t g j s1 ht hg hj hj2 => ?_⟩
    refine ⟨t, _, rfl, .inl (.inl ht), rfl, _, _, rfl, _, _, rfl, rfl, ?_⟩
    refine ⟨_, rfl, _, rfl, a, v, rfl, s1 _ _ ha, hv, fun H2 t2 p2 s2 ht2 hp2 => ?_⟩
    refine ⟨t2, _, 0, .ref p2, rfl, rfl, .inl (.inl ht2), atI_nat (j := 0) rfl, c, p2, k, _, rfl, s2 _ _ (s1 _ _ hc), hp2, by rw [Rf.abv_length, hvl], hF.deg, hF.bd, abv_bd hv, fun H3 p3 s3 l3 c3 => ?_⟩
    have hg3 : GL H3 g (Rf.gapsAt k j) := hg.same (s2.trans s3)
    have hsg := Rf.signs_is hF hvl j hj
    have hgl := gaps_len hF j
    have hgb := gap_bd k j
    have hbs : Rf.boundI k ≤ 33 := bound_small hF.bd
    have hB : 2 ^ j * Rf.boundI k ≤ 2 ^ 212 * 33 := Nat.mul_le_mul (two_lt hj2) hbs
    have h9 : (2 : Nat) ^ 212 * 33 ≤ 2 ^ 1000 := by decide
    have hbd : ∀ p ∈ Rf.gapsAt k j, p.1.natAbs ≤ 2 ^ 1000 ∧ p.2.natAbs ≤ 2 ^ 1000 := fun p hp => ⟨Nat.le_trans (hgb p hp).1 (Nat.le_trans hB h9), Nat.le_trans (hgb p hp).2 (Nat.le_trans hB h9)⟩
    have hyb : (((2 ^ j : Nat) : Int)).natAbs ≤ 2 ^ 1000 := by
      rw [Int.natAbs_natCast]
      exact Nat.pow_le_pow_right (by decide) (by omega)
    have hy0 : (0 : Int) < ((2 ^ j : Nat) : Int) := by
      have := Nat.two_pow_pos j
      omega
    have esi : Rf.signsAt k (Rf.abvOf v) j = (Rf.gapsAt k j).map fun p => Rf.VA k (Rf.abvOf v) (Rf.ptj j p.1) - Rf.VA k (Rf.abvOf v) (Rf.ptj j p.2) := rfl
    rw [esi] at hsg
    clear esi hj hg hgb
    generalize Rf.gapsAt k j = GG at *
    obtain ⟨as, m1, m2, m3⟩ := hg3
    refine ⟨_, rfl, g, rfl, ⟨_, .inl (.inl m1)⟩, fun D nD => ?_⟩
    refine lc_gen (walk_list (K := K) (a := g) (xs := as.map V.ref)) nD (by rw [List.length_map]; exact small1000 (by omega)) (fun i => .int (Rf.VA k (Rf.abvOf v) (Rf.ptj j (GG.getD i (0, 0)).1) - Rf.VA k (Rf.abvOf v) (Rf.ptj j (GG.getD i (0, 0)).2))) (fun _ => true) (fun H4 s5 => .inl (.inl (s5 _ _ m1))) ?_ (fun H4 s4 hD => ?_)
    · rintro i x H6 H7 hi s9 ⟨rfl, hx⟩ R RY hk1 hk2
      rw [List.length_map] at hi
      rw [List.getElem?_map, List.getElem?_eq_getElem hi] at hx
      have ex : x = .ref as[i] := (Option.some.inj hx).symm
      subst ex
      have hi2 : i < GG.length := by omega
      have lgp := s9 _ _ (m3 i _ _ (List.getElem?_eq_getElem hi) (List.getElem?_eq_getElem hi2))
      have eGG : GG.getD i (0, 0) = GG[i] := by rw [List.getD_eq_getElem?_getD, List.getElem?_eq_getElem hi2]; rfl
      rw [eGG] at hk1
      obtain ⟨hb1, hb2⟩ := hbd _ (List.getElem_mem hi2)
      generalize GG[i] = gp at *
      have lch : LL H7 p3 (Rf.chainP k (Rf.abvOf v)) := l3.same s9
      refine ⟨as[i], _, rfl, .inl (.inl lgp), rfl, _, _, rfl, _, _, rfl, rfl, rfl, ?_⟩
      refine ⟨_, rfl, _, rfl, _, rfl, p3, _, gp.1, _, rfl, lch, c3, hb1, hyb, hy0, fun H8 s10 => ?_⟩
      refine ⟨_, rfl, _, rfl, _, rfl, p3, _, gp.2, _, rfl, lch.same s10, c3, hb2, hyb, hy0, fun H9 s11 => ?_⟩
      exact ⟨_, _, rfl, rfl, hk1 rfl _ (s10.trans s11)⟩
    · rw [filter_all, List.length_map, m2] at hD
      refine q H4 D (s1.trans (s2.trans (s3.trans s4))) ?_
      unfold signsR
      rw [← hsg, ← range_map_get (fun p : Int × Int => Rf.VA k (Rf.abvOf v) (Rf.ptj j p.1) - Rf.VA k (Rf.abvOf v) (Rf.ptj j p.2)) (0, 0) GG]
      show H4 D = some (.lst (List.map V.int _))
      rw [List.map_map]
      exact hD
end
end Rp

set_option Elab.async false
set_option linter.all false
set_option maxRecDepth 100000
set_option maxHeartbeats 2000000
set_option exponentiation.threshold 1000000
namespace Rp
open PySem PySem.Spec PyProof.Rows L2
/-! ### the object -/
theorem lk_here {k : Str} {v : V} {r : List (Str × V)} : List.lookup k ((k, v) :: r) = some v := by
  have e : (k == k) = true := beq_self_eq_true k
  simp only [List.lookup, e]
theorem lk_past {k g : Str} {v : V} {r : List (Str × V)} (h : (k == g) = false) : List.lookup k ((g, v) :: r) = List.lookup k r := by
  simp only [List.lookup, h]
theorem put_here {f : Str} {v x : V} {r : List (Str × V)} : putF f v ((f, x) :: r) = (f, v) :: r := if_pos rfl
theorem put_past {f g : Str} {v x : V} {r : List (Str × V)} (h : ¬ g = f) : putF f v ((g, x) :: r) = (g, x) :: putF f v r := if_neg h
def kF (ca na : Addr) : List (Str × V) := [("coefficients", .ref ca), ("numbers", .ref na)]
theorem kF_c (ca na : Addr) : (kF ca na).lookup ("coefficients" : Str) = some (.ref ca) := lk_here
theorem kF_n (ca na : Addr) : (kF ca na).lookup ("numbers" : Str) = some (.ref na) := (lk_past (by decide +kernel)).trans lk_here
theorem kF_putc (ca na c : Addr) : putF "coefficients" (.ref c) (kF ca na) = kF c na := put_here
theorem kF_putn (ca na n : Addr) : putF "numbers" (.ref n) (kF ca na) = kF ca n := (put_past (by decide +kernel)).trans (congrArg _ put_here)
theorem kF_new (ca na : Addr) : putF "numbers" (.ref na) (putF "coefficients" (.ref ca) []) = kF ca na := (put_past (by decide +kernel)).trans rfl
/-- the object as it stands: the field, the numbers -/
def KS (g : Addr) (H : Hp) (C ob na : Addr) (k : List Int) (ns : List Rf.L) : Prop := ∃ (dx ca : Addr) (as : List Addr), (ca ≠ g ∧ (∀ a ∈ as, a ≠ g) ∧ g ≠ ob ∧ g ≠ na ∧ ∃ x, H g = some x) ∧ H ob = some (.ins C dx (kF ca na)) ∧ LI H ca k ∧ H na = some (.lst (as.map V.ref)) ∧ as.length = ns.length ∧ ∀ (i : Nat) (a : Addr) (v : Rf.L), as[i]? = some a → ns[i]? = some v → LI H a (Rf.placesQ v)
theorem KS.same {g : Addr} {H H' : Hp} {C ob na : Addr} {k : List Int} {ns : List Rf.L} (h : KS g H C ob na k ns) (s : Same H H') : KS g H' C ob na k ns := by
  obtain ⟨dx, ca, as, h0, h1, h2, h3, h4, h5⟩ := h
  obtain ⟨e1, e2, e3, e4, x, e5⟩ := h0
  exact ⟨dx, ca, as, ⟨e1, e2, e3, e4, x, s _ _ e5⟩, s _ _ h1, s _ _ h2, s _ _ h3, h4, fun i a v ha hv => s _ _ (h5 i a v ha hv)⟩
/-- a new address isn't the list that is given -/
theorem KS.ng {g : Addr} {H : Hp} {C ob na : Addr} {k : List Int} {ns : List Rf.L} (h : KS g H C ob na k ns) {p : Addr} (np : H p = none) : p ≠ g := by
  obtain ⟨_, _, _, ⟨_, _, _, _, x, e⟩, _⟩ := h
  intro z
  rw [z, e] at np
  cases np
/-- all but the object and its list of numbers stands -/
def Fr (ob na : Addr) (H H' : Hp) : Prop := ∀ (b : Addr) (x : HO), b ≠ ob → b ≠ na → H b = some x → H' b = some x
theorem Fr.of {ob na : Addr} {H H' : Hp} (s : Same H H') : Fr ob na H H' := fun b x _ _ e => s b x e
theorem Fr.trans {ob na : Addr} {H H1 H2 : Hp} (s : Fr ob na H H1) (t : Fr ob na H1 H2) : Fr ob na H H2 := fun b x h1 h2 e => t b x h1 h2 (s b x h1 h2 e)
abbrev Stt := List Int × List Rf.L
abbrev Res := Stt × List Int
/-- a call's end: the object behind it, and a new list for its answer -/
def Fin (g : Addr) (H : Hp) (C ob na : Addr) (Q : V → Hp → Prop) (r : Res) : Prop := ∀ (H' : Hp) (na' p : Addr), Fr ob na H H' → (na' = na ∨ H na' = none) → KS g H' C ob na' r.1.1 r.1.2 → LI H' p r.2 → H p = none → Q (.ref p) H'
/-- nothing is changed: a new list is answered -/
theorem fin_new {g : Addr} {H H2 : Hp} {C ob na p : Addr} {Q : V → Hp → Prop} {k : List Int} {ns : List Rf.L} {out : List Int} (q : Fin g H C ob na Q ((k, ns), out)) (h : KS g H C ob na k ns) (s : Same H H2) (np : H2 p = none) : Q (.ref p) (upd H2 p (.lst (out.map V.int))) :=
  q _ na p (Fr.of (s.trans (same_new np))) (.inl rfl) (h.same (s.trans (same_new np))) upd_same (none_of_same s np)
theorem fin_of {g : Addr} {H H2 H3 : Hp} {C ob na p : Addr} {Q : V → Hp → Prop} {k : List Int} {ns : List Rf.L} {out : List Int} (q : Fin g H C ob na Q ((k, ns), out)) (h : KS g H C ob na k ns) (s : Same H H2) (np : H2 p = none) (s3 : Same H2 H3) (lp : LI H3 p out) : Q (.ref p) H3 :=
  q _ na p (Fr.of (s.trans s3)) (.inl rfl) (h.same (s.trans s3)) lp (none_of_same s np)
/-- a call's end from a heap with more in it -/
theorem Fin.mono {g : Addr} {H H2 : Hp} {C ob na : Addr} {Q : V → Hp → Prop} {r : Res} (q : Fin g H C ob na Q r) (s : Same H H2) : Fin g H2 C ob na Q r :=
  fun H' na' p f hn hk hl hp => q H' na' p ((Fr.of s).trans f) (hn.imp id (none_of_same s)) hk hl (none_of_same s hp)
/-! ### the mirror -/
def Bg (v : Rf.L) : Prop := ∀ q ∈ v, q.num.natAbs ≤ 10 ^ 18 ∧ q.den ≤ 10 ^ 18
def bgB (v : Rf.L) : Bool := (Rf.placesQ v).all fun z => decide (-(10 ^ 18 : Int) ≤ z) && decide (z ≤ 10 ^ 18)
theorem bgB_iff : ∀ (v : Rf.L), bgB v = true ↔ Bg v
  | [] => ⟨fun _ q hq => by simp at hq, fun _ => rfl⟩
  | q :: v => by
    have ih := bgB_iff v
    have e : bgB (q :: v) = ((decide (-(10 ^ 18 : Int) ≤ q.num) && decide (q.num ≤ 10 ^ 18)) && ((decide (-(10 ^ 18 : Int) ≤ (q.den : Int)) && decide ((q.den : Int) ≤ 10 ^ 18)) && bgB v)) := rfl
    rw [e, Bool.and_eq_true, Bool.and_eq_true, Bool.and_eq_true, Bool.and_eq_true, decide_eq_true_iff, decide_eq_true_iff, decide_eq_true_iff, decide_eq_true_iff, ih]
    constructor
    · rintro ⟨⟨h1, h2⟩, ⟨h3, h4⟩, h5⟩ x hx
      rcases List.mem_cons.mp hx with rfl | hx
      · exact ⟨by omega, by omega⟩
      · exact h5 x hx
    · intro h
      have h0 := h q (List.mem_cons_self ..)
      exact ⟨⟨by omega, by omega⟩, ⟨by omega, by omega⟩, fun x hx => h x (List.mem_cons_of_mem _ hx)⟩
theorem Bg.sm {v : Rf.L} (h : Bg v) (hl : v.length ≤ 4) : Sm v := by
  have e : (10 : Nat) ^ 18 < 2 ^ 60 := by decide
  exact ⟨hl, fun q hq => Nat.lt_of_le_of_lt (h q hq).2 e, fun q hq => Nat.lt_of_le_of_lt (h q hq).1 e⟩
structure StOk (m : Stt) : Prop where
  fld : Rf.Fld m.1
  few : m.2.length ≤ 8
  all : ∀ v ∈ m.2, v.length = m.1.length ∧ Bg v
def putM (m : Stt) (v : Rf.L) : Res := if 8 ≤ m.2.length then (m, [-5]) else if bgB v = false then (m, [-8]) else ((m.1, m.2 ++ [v]), [(m.2.length : Int)])
theorem putM_ok {m : Stt} (h : StOk m) {v : Rf.L} (hv : v.length = m.1.length) : StOk (putM m v).1 := by
  unfold putM
  split
  · exact h
  · next h8 =>
    split
    · exact h
    · next hb =>
      refine ⟨h.fld, by show (m.2 ++ [v]).length ≤ 8; rw [List.length_append]; show _ + 1 ≤ 8; omega, fun u hu => ?_⟩
      rcases List.mem_append.mp hu with hu | hu
      · exact h.all u hu
      · rw [List.mem_singleton.mp hu]
        exact ⟨hv, (bgB_iff v).mp (by simpa using hb)⟩
/-! ### what the module holds -/
structure Tx (K : PySem.W.Frag) (mg : Str → Option Value) (C : Addr) where
  cl : Cls K C
  nC : NoAttr K C "coefficients"
  nN : NoAttr K C "numbers"
  g_Kept : mg "Kept" = some (.ref C)
  tM : Tok
  tL : Tok
  tC : Tok
  tI : Tok
  g_MOST_NUMBERS : mg "MOST_NUMBERS" = some (.int 8 tM)
  g_LARGEST_KEPT : mg "LARGEST_KEPT" = some (.int 1000000000000000000 tL)
  g_LARGEST_COEFFICIENT : mg "LARGEST_COEFFICIENT" = some (.int 20 tC)
  g_LARGEST_HANDED_IN : mg "LARGEST_HANDED_IN" = some (.int 1000 tI)
section
variable {P : Program} {w : World} {K : PySem.W.Frag} {mg : Str → Option Value} {base : Heap} {C : Addr}
abbrev s_all_within : Stmt := topS 40
abbrev N_all_within : List Str := ["values", "least", "greatest", "value"]
theorem sc_all_within : FnScope N_all_within ["values", "least", "greatest"] (defScope s_all_within) := ⟨rfl, rfl, rfl, by decide +kernel, rfl, by decide +kernel, by decide +kernel⟩
def withinB (xs : List Int) (lo hi : Int) : Bool := xs.all fun z => decide (lo ≤ z) && decide (z ≤ hi)
def spWithin : Sp := fun vs H Q _ => ∃ (a : Addr) (xs : List Int) (lo hi : Int), vs = [.ref a, .int lo, .int hi] ∧ LI H a xs ∧ xs.length ≤ 1000 ∧ ∀ H', Same H H' → Q (.bl (withinB xs lo hi)) H'
theorem ok_all_within {f : Addr} {fd : FuncData} (F : Fun K "all_within" "all_within" s_all_within f fd) (B : Bt mg) : FnOk P w K mg base CX0 1 f fd ["values", "least", "greatest"] spWithin := by
  refine F.ok sc_all_within (fun vs H Q E h => ?_) (fun cdv A outer s H vs Q E hr h => ?_)
  · obtain ⟨a, xs, lo, hi, rfl, _⟩ := h
    rfl
  · obtain ⟨a, xs, lo, hi, rfl, ha, hl, q⟩ := h
    refine ⟨_, (pss_one (ps_ret (pe_callB (cr_all rfl) (by rfl) B.all (by decide +kernel) (pa_cons (pe_lc (own := [("value", 3)]) (g := gName 3) (tt := tYes) rfl sc_all_within.nd (pi_list (pv 0)) (blkOk_by (own := [("value", 3)]) (N := N_all_within) (sc := defScope s_all_within) (by decide +kernel)) (fun _ _ _ _ _ => (pg_name (i := 3) sc_all_within.nd rfl (Or.inl rfl))) (fun _ _ _ _ _ => pts_nil) (fun _ _ _ _ _ => (pe_chain op_le op_le (pv 1) (pv 3) (pv 2)))) pa_nil)))), ?_⟩
    refine ⟨_, rfl, a, rfl, ⟨_, LI.seq ha⟩, fun D nD => ?_⟩
    refine lc_gen (walk_list (K := K) (a := a) (xs := xs.map V.int)) nD (by rw [List.length_map]; exact small1000 hl) (fun i => .bl (decide (lo ≤ xs.getD i 0) && decide (xs.getD i 0 ≤ hi))) (fun _ => true) (fun H4 s5 => LI.seq (s5 _ _ ha)) ?_ (fun H4 s4 hD => ?_)
    · rintro i x H4 H5 hi' s5 ⟨rfl, hx⟩ R RY hk1 hk2
      obtain ⟨z, hz, rfl⟩ := int_at hx
      have e1 : xs.getD i 0 = z := by rw [List.getD_eq_getElem?_getD, hz]; rfl
      rw [e1] at hk1
      have hk := hk1 rfl _ (Same.refl _)
      refine ⟨rfl, _, rfl, _, rfl, _, _, rfl, rfl, _, rfl, ?_⟩
      by_cases h1 : lo ≤ z
      · rw [decide_eq_true h1] at hk ⊢
        rw [Bool.true_and] at hk
        exact iteT ⟨_, rfl, _, _, rfl, rfl, hk⟩
      · rw [decide_eq_false h1] at hk ⊢
        rw [Bool.false_and] at hk
        exact iteF hk
    · rw [filter_all, List.length_map] at hD
      refine ⟨D, xs.map (fun z => decide (lo ≤ z) && decide (z ≤ hi)), rfl, .inl (.inl ?_), ?_⟩
      · rw [← range_map_get (fun z => decide (lo ≤ z) && decide (z ≤ hi)) 0 xs, List.map_map]
        exact hD
      · have e : (xs.map (fun z => decide (lo ≤ z) && decide (z ≤ hi))).all id = withinB xs lo hi := by
          rw [List.all_map]; rfl
        rw [e]
        exact q H4 s4
abbrev s_keep : Stmt := topS 41
abbrev N_keep : List Str := ["kept", "places"]
theorem sc_keep : FnScope N_keep ["kept", "places"] (defScope s_keep) := ⟨rfl, rfl, rfl, by decide +kernel, rfl, by decide +kernel, by decide +kernel⟩
def spKeep (C : Addr) : Sp := fun vs H Q _ => ∃ (g ob na a : Addr) (m : Stt) (v : Rf.L), vs = [.ref ob, .ref a] ∧ KS g H C ob na m.1 m.2 ∧ m.1 ≠ [] ∧ (∀ u ∈ m.2, u ≠ []) ∧ m.2.length ≤ 8 ∧ LI H a (Rf.placesQ v) ∧ a ≠ g ∧ v ≠ [] ∧ v.length ≤ 4 ∧ Fin g H C ob na Q (putM m v)
theorem places_ne {v : Rf.L} (h : v ≠ []) : Rf.placesQ v ≠ [] := by
  cases v with
  | nil => exact absurd rfl h
  | cons q v => rw [places_cons]; simp [Rf.frac]
theorem ok_keep {f : Addr} {fd : FuncData} (F : Fun K "keep" "keep" s_keep f fd) (B : Bt mg) (T : Tx K mg C) (C_all_within : CalN P w K mg base 1 "all_within" ["values", "least", "greatest"] spWithin) : FnOk P w K mg base CX0 2 f fd ["kept", "places"] (spKeep C) := by
  obtain ⟨_, g_all_within, _, G_all_within, k_all_within, b_all_within⟩ := C_all_within
  refine F.ok sc_keep (fun vs H Q E h => ?_) (fun cdv A outer s H vs Q E hr h => ?_)
  · obtain ⟨g, ob, na, a, m, v, rfl, _⟩ := h
    rfl
  · obtain ⟨g, ob, na, a, m, v, rfl, hks, hk0, hns, h8, ha, hag, hv, hvl, q⟩ := h
    obtain ⟨k, ns⟩ := m
    refine ⟨_, (pss_cons (ps_if (pt_cmpR op_ge (pe_callB (show CallR _ _ (rLenK K) from call_len_seq) (by rfl) B.len PySem.boot_len (pa_cons (show PE _ _ (tFld K (tVar 0) "numbers") from pe_fld (pv 0) rfl) pa_nil)) (pe_glob (v := .int 8) (by rfl) T.g_MOST_NUMBERS ⟨_, rfl⟩) (nomark _)) (pss_one (ps_ret (pe_lst (pa_cons (pe_un un_neg pe_int) pa_nil)))) pss_nil)
        (pss_cons (ps_if (pt_not (pt_val (pe_call G_all_within (hr.mono (by omega)) (by rfl) g_all_within k_all_within b_all_within .nil pass0 (pa_cons (pv 1) (pa_cons (pe_un un_neg (pe_glob (v := .int 1000000000000000000) (by rfl) T.g_LARGEST_KEPT ⟨_, rfl⟩)) (pa_cons (pe_glob (v := .int 1000000000000000000) (by rfl) T.g_LARGEST_KEPT ⟨_, rfl⟩) pa_nil)))))) (pss_one (ps_ret (pe_lst (pa_cons (pe_un un_neg pe_int) pa_nil)))) pss_nil)
        (pss_cons (ps_expr (pe_bm PySem.F.plainAttrs_list PySem.F.slot_list_append PySem.F.type_list_append mt_append (show PE _ _ (tFld K (tVar 0) "numbers") from pe_fld (pv 0) rfl) (pa_cons (pv 1) pa_nil)))
        (pss_one (ps_ret (pe_lst (pa_cons (pe_op op_sub (pe_callB (show CallR _ _ (rLenK K) from call_len_seq) (by rfl) B.len PySem.boot_len (pa_cons (show PE _ _ (tFld K (tVar 0) "numbers") from pe_fld (pv 0) rfl) pa_nil)) pe_int) pa_nil))))))), ?_⟩
    have hks' := hks
    obtain ⟨dx, ca, as, h0, h1, h2, h3, h4, h5⟩ := hks
    dsimp only at hk0 hns h8 h2 h4 h5 hks'
    refine ⟨_, rfl, ob, C, dx, _, _, rfl, h1, T.cl, T.nN, kF_n ca na, na, _, rfl, .inl (.inl (.inl h3)), _, _, rfl, rfl, _, rfl, ?_⟩
    by_cases hf : 8 ≤ ns.length
    · have e : decide ((8 : Int) ≤ ((as.map V.ref).length : Int)) = true := decide_eq_true (by rw [List.length_map, h4]; omega)
      rw [e]
      have ep : putM (k, ns) v = ((k, ns), [-5]) := if_pos hf
      rw [ep] at q
      exact iteT ⟨5, rfl, (by show 1 ≤ sizeLine; decide), fun o no => fin_new q hks' (Same.refl _) no⟩
    · have e : decide ((8 : Int) ≤ ((as.map V.ref).length : Int)) = false := decide_eq_false (by rw [List.length_map, h4]; omega)
      rw [e]
      refine iteF ⟨_, rfl, 1000000000000000000, rfl, a, _, _, _, rfl, ha, by rw [places_length]; omega, fun H1 s1 => ⟨_, rfl, ?_⟩⟩
      have ew : withinB (Rf.placesQ v) (-1000000000000000000) 1000000000000000000 = bgB v := rfl
      by_cases hb : bgB v = false
      · rw [ew, hb]
        have ep : putM (k, ns) v = ((k, ns), [-8]) := by
          unfold putM
          rw [if_neg hf, if_pos hb]
        rw [ep] at q
        exact iteT ⟨8, rfl, (by show 1 ≤ sizeLine; decide), fun o no => fin_new q hks' s1 no⟩
      · have hb' : bgB v = true := by simpa using hb
        rw [ew, hb']
        have ep : putM (k, ns) v = ((k, ns ++ [v]), [(ns.length : Int)]) := by
          unfold putM
          rw [if_neg hf, if_neg hb]
        rw [ep] at q
        have g1 := s1 _ _ h1
        have g2 : LI H1 ca k := s1 _ _ h2
        have g3 := s1 _ _ h3
        have ga : LI H1 a (Rf.placesQ v) := s1 _ _ ha
        have hona : ob ≠ na := by
          intro z
          rw [z, h3] at h1
          cases h1
        have hca : ca ≠ na := LI_ne g2 g3 hk0
        have haa : a ≠ na := LI_ne ga g3 (places_ne hv)
        refine iteF ⟨_, rfl, ob, C, dx, _, _, rfl, g1, T.cl, T.nN, kF_n ca na, .inl ⟨rfl, _, .inl (.inl g3)⟩, _, rfl, na, _, _, rfl, rfl, g3, ?_, ?_⟩
        · rw [List.length_map]
          exact small1000 (by omega)
        · have u1 : (upd H1 na (.lst (as.map V.ref ++ [.ref a]))) ob = some (.ins C dx (kF ca na)) := by rw [upd_ne hona]; exact g1
          have u2 : (upd H1 na (.lst (as.map V.ref ++ [.ref a]))) na = some (.lst ((as ++ [a]).map V.ref)) := by rw [upd_same, List.map_append]; rfl
          refine ⟨_, rfl, ob, C, dx, _, _, rfl, u1, T.cl, T.nN, kF_n ca na, na, _, rfl, .inl (.inl (.inl u2)), _, _, rfl, rfl, (by show 1 ≤ sizeLine; decide), fun o no => ?_⟩
          have ez : (((as ++ [a]).map V.ref).length : Int) - 1 = (ns.length : Int) := by
            rw [List.length_map, List.length_append, h4]
            show ((ns.length + 1 : Nat) : Int) - 1 = _
            omega
          have sN : Same (upd H1 na (.lst (as.map V.ref ++ [.ref a]))) (upd (upd H1 na (.lst (as.map V.ref ++ [.ref a]))) o (.lst [.int ((((as ++ [a]).map V.ref).length : Int) - 1)])) := same_new no
          have oH1 : H1 o = none := by
            by_cases hon : o = na
            · rw [hon, u2] at no; cases no
            · rw [upd_ne hon] at no; exact no
          refine q _ na o ?_ (.inl rfl) ?_ ?_ (none_of_same s1 oH1)
          · intro b x hb1 hb2 e
            refine sN b x ?_
            rw [upd_ne hb2]
            exact s1 _ _ e
          · obtain ⟨f1, f2, f3, f4, gx, f5⟩ := h0
            refine ⟨dx, ca, as ++ [a], ⟨f1, fun b hb => ?_, f3, f4, gx, sN _ _ (by rw [upd_ne f4]; exact s1 _ _ f5)⟩, sN _ _ u1, sN _ _ ?_, sN _ _ u2, by simp [h4], fun i x y hx hy => sN _ _ ?_⟩
            · rcases List.mem_append.mp hb with hb | hb
              · exact f2 b hb
              · rw [List.mem_singleton.mp hb]; exact hag
            · rw [upd_ne hca]; exact g2
            · by_cases hi : i < as.length
              · rw [List.getElem?_append_left hi] at hx
                dsimp only at hy
                rw [List.getElem?_append_left (by omega)] at hy
                have g5 : LI H1 x (Rf.placesQ y) := s1 _ _ (h5 i x y hx hy)
                rw [upd_ne (LI_ne g5 g3 (places_ne (hns y (List.mem_of_getElem? hy))))]
                exact g5
              · rw [List.getElem?_append_right (by omega)] at hx
                dsimp only at hy
                rw [List.getElem?_append_right (by omega)] at hy
                have ei : i - as.length = 0 := by
                  have := (List.getElem?_eq_some_iff.mp hx).1
                  simp at this; omega
                have ei2 : i - ns.length = 0 := by omega
                rw [ei] at hx
                rw [ei2] at hy
                rw [← Option.some.inj hx, ← Option.some.inj hy, upd_ne haa]
                exact ga
          · show (upd _ o _) o = _
            rw [upd_same]
            exact congrArg (fun z => some (HO.lst [V.int z])) ez
end
end Rp

set_option Elab.async false
set_option linter.all false
set_option maxRecDepth 100000
set_option maxHeartbeats 2000000
set_option exponentiation.threshold 1000000
namespace Rp
open PySem PySem.Spec PyProof.Rows L2
theorem LL.one {H : Hp} {p : Addr} {x : List Int} (h : LL H p [x]) : ∃ a : Addr, H p = some (.lst [.ref a]) ∧ LI H a x := by
  obtain ⟨as, h1, h2, h3⟩ := h
  match as, h2 with
  | [a], _ => exact ⟨a, h1, h3 0 a x rfl rfl⟩
theorem LL.pair {H : Hp} {p : Addr} {x y : List Int} (h : LL H p [x, y]) : ∃ a b : Addr, H p = some (.lst [.ref a, .ref b]) ∧ LI H a x ∧ LI H b y := by
  obtain ⟨as, h1, h2, h3⟩ := h
  match as, h2 with
  | [a, b], _ => exact ⟨a, b, h1, h3 0 a x rfl rfl, h3 1 b y rfl rfl⟩
theorem inv_length {k : List Int} (hd : Rf.Deg k) {v : Rf.L} (hv : v.length = k.length) : (Rf.inverseR k v).length = k.length := by
  have h1 : 1 ≤ k.length := by have := hd.1; omega
  have hf : ∀ (l : Rf.L) (b : Rf.L), b.length = k.length → (l.foldl (fun (b : Rf.L) x => Rf.plusR (Rf.timesR k b v) (Rf.ofR k x)) b).length = k.length := by
    intro l
    induction l with
    | nil => intro b hb; exact hb
    | cons x l ih =>
      intro b hb
      refine ih _ ?_
      rw [Rf.plusR_length _ _ (by rw [Rf.times_length h1 _ hv, Rf.ofR_length h1]), Rf.times_length h1 _ hv]
  unfold Rf.inverseR
  rw [Rf.scaleR_length]
  exact hf _ _ (by simp)
theorem minusR_length (v : Rf.L) : (Rf.minusR v).length = v.length := by simp [Rf.minusR]
theorem ne_of_len {v : Rf.L} {n : Nat} (h : v.length = n) (hn : 2 ≤ n) : v ≠ [] := by
  intro z; subst z; simp at h; omega
theorem charR_len {k : List Int} (hd : Rf.Deg k) {v : Rf.L} (hv : v.length = k.length) : (Rf.charR k v).length ≤ 5 := by
  rw [← Rf.poly_places hd v hv, Rf.wrd_length, Rf.wpoly_length hd (by rw [Rf.abv_length, hv])]
  have := hd.2; omega
theorem leastR_len {k : List Int} (hd : Rf.Deg k) {v : Rf.L} (hv : v.length = k.length) : (leastR k v).length ≤ 5 := by
  unfold leastR
  rw [Rf.wrd_length]
  exact wleast_length hd (by rw [Rf.abv_length, hv])
theorem signsR_len {k : List Int} (hF : Rf.Fld k) (v : Rf.L) : (signsR k v).length ≤ 8 := by
  unfold signsR
  rw [List.length_map, List.length_range]
  exact reals_le hF
/-- what a call that names numbers does with them -/
def nPlus (m : Stt) : List Rf.L → Res
  | [a, b] => putM m (Rf.plusR a b)
  | _ => (m, [])
def nMinus (m : Stt) : List Rf.L → Res
  | [a, b] => putM m (Rf.plusR a (Rf.minusR b))
  | _ => (m, [])
def nTimes (m : Stt) : List Rf.L → Res
  | [a, b] => putM m (Rf.timesR m.1 a b)
  | _ => (m, [])
def nBy (m : Stt) : List Rf.L → Res
  | [a, b] => if ((b.map fun q => q.num).any fun z => z != 0) = true then putM m (Rf.timesR m.1 a (Rf.inverseR m.1 b)) else (m, [-3])
  | _ => (m, [])
def nTold (m : Stt) : List Rf.L → Res
  | [a] => (m, 0 :: Rf.placesQ a)
  | _ => (m, [])
def nNorm (m : Stt) : List Rf.L → Res
  | [a] => (m, 0 :: Rf.frac (Rf.normR m.1 a))
  | _ => (m, [])
def nTrace (m : Stt) : List Rf.L → Res
  | [a] => (m, 0 :: Rf.frac (Rf.traceR m.1 a))
  | _ => (m, [])
def nPoly (m : Stt) : List Rf.L → Res
  | [a] => (m, 0 :: Rf.placesQ (Rf.charR m.1 a))
  | _ => (m, [])
def nLeast (m : Stt) : List Rf.L → Res
  | [a] => (m, (((leastR m.1 a).length : Int) - 1) :: Rf.placesQ (leastR m.1 a))
  | _ => (m, [])
def nWhole (m : Stt) : List Rf.L → Res
  | [a] => (m, [if withinB ((Rf.charR m.1 a).map fun q => (q.den : Int)) 1 1 = true then 1 else 0])
  | _ => (m, [])
def nSigns (m : Stt) : List Rf.L → Res
  | [a] => (m, ((signsR m.1 a).length : Int) :: signsR m.1 a)
  | _ => (m, [])
def nAlike (m : Stt) : List Rf.L → Res
  | [a, b] => (m, [if Rf.placesQ (leastR m.1 a) = Rf.placesQ (leastR m.1 b) then 1 else 0])
  | _ => (m, [])
def nDrop (m : Stt) : List Rf.L → Res
  | [] => if m.2 = [] then (m, [-4]) else ((m.1, m.2.dropLast), [(m.2.length : Int) - 1])
  | _ => (m, [])
def spNm (C : Addr) (f : Stt → List Rf.L → Res) (n : Nat) : Sp := fun vs H Q _ => ∃ (g ob na ch : Addr) (m : Stt) (us : List Rf.L), vs = [.ref ob, .ref ch] ∧ KS g H C ob na m.1 m.2 ∧ StOk m ∧ LL H ch (us.map Rf.placesQ) ∧ us.length = n ∧ (∀ u ∈ us, u.length = m.1.length ∧ Bg u) ∧ Fin g H C ob na Q (f m us)
theorem StOk.ne {m : Stt} (h : StOk m) : m.1 ≠ [] ∧ ∀ u ∈ m.2, u ≠ [] := by
  have h2 := h.fld.deg.1
  refine ⟨fun z => ?_, fun u hu => ne_of_len (h.all u hu).1 h2⟩
  rw [z] at h2; simp at h2
theorem len_two {us : List Rf.L} (h : us.length = 2) : ∃ u v, us = [u, v] := by
  match us, h with
  | [u, v], _ => exact ⟨u, v, rfl⟩
theorem len_one {us : List Rf.L} (h : us.length = 1) : ∃ u, us = [u] := by
  match us, h with
  | [u], _ => exact ⟨u, rfl⟩
theorem spNm_len {C : Addr} {f : Stt → List Rf.L → Res} {n : Nat} {vs : List V} {H : Hp} {Q : VK} {E : XK} (h : spNm C f n vs H Q E) : vs.length = 2 := by
  obtain ⟨_, _, _, _, _, _, rfl, _⟩ := h
  rfl
section
variable {P : Program} {w : World} {K : PySem.W.Frag} {mg : Str → Option Value} {base : Heap} {C : Addr}
abbrev CKeep (P : Program) (w : World) (K : PySem.W.Frag) (mg : Str → Option Value) (base : Heap) (C : Addr) : Prop := CalN P w K mg base 2 "keep" ["kept", "places"] (spKeep C)
abbrev s_answer_plus : Stmt := topS 44
abbrev N_answer_plus : List Str := ["kept", "chosen"]
theorem sc_answer_plus : FnScope N_answer_plus ["kept", "chosen"] (defScope s_answer_plus) := ⟨rfl, rfl, rfl, by decide +kernel, rfl, by decide +kernel, by decide +kernel⟩
theorem ok_answer_plus {f : Addr} {fd : FuncData} (F : Fun K "answer_plus" "answer_plus" s_answer_plus f fd) (C1 : CKeep P w K mg base C) (C2 : CalN P w K mg base 4 "sum_of" ["left", "right"] spSum) : FnOk P w K mg base CX0 5 f fd ["kept", "chosen"] (spNm C nPlus 2) := by
  obtain ⟨_, g_keep, _, G_keep, k_keep, b_keep⟩ := C1
  obtain ⟨_, g_sum_of, _, G_sum_of, k_sum_of, b_sum_of⟩ := C2
  refine F.ok sc_answer_plus (fun vs H Q E h => spNm_len h) (fun cdv A outer s H vs Q E hr h => ?_)
  obtain ⟨g, ob, na, ch, m, us, rfl, hks, hst, hch, hul, hu, q⟩ := h
  obtain ⟨u, v, rfl⟩ := len_two hul
  obtain ⟨hul1, hub⟩ := hu u (by simp)
  obtain ⟨hvl1, hvb⟩ := hu v (by simp)
  obtain ⟨a0, a1, c1, c2, c3⟩ := LL.pair hch
  have h4 := hst.fld.deg.2
  have h2 := hst.fld.deg.1
  refine ⟨_, (pss_one (ps_ret (pe_call G_keep (hr.mono (by omega)) (by rfl) g_keep k_keep b_keep .nil pass0 (pa_cons (pv 0) (pa_cons (pe_call G_sum_of (hr.mono (by omega)) (by rfl) g_sum_of k_sum_of b_sum_of .nil pass0 (pa_cons (pe_ix (show IxR _ (rIxL K) from ix_list) (pv 1) pe_int (fun _ _ => rfl)) (pa_cons (pe_ix (show IxR _ (rIxL K) from ix_list) (pv 1) pe_int (fun _ _ => rfl)) pa_nil))) pa_nil))))), ?_⟩
  have hpl : (Rf.plusR u v).length = m.1.length := by rw [Rf.plusR_length _ _ (by rw [hul1, hvl1]), hul1]
  exact ⟨_, rfl, _, rfl, ch, _, 0, .ref a0, rfl, rfl, .inl (.inl c1), atI_nat (j := 0) rfl, _, rfl, ch, _, 1, .ref a1, rfl, rfl, .inl (.inl c1), atI_nat (j := 1) rfl, a0, a1, u, v, rfl, c2, c3, hub.sm (by omega), hvb.sm (by omega), by rw [hul1, hvl1], fun H1 p s1 np lp => ⟨g, ob, na, p, m, _, rfl, hks.same s1, hst.ne.1, hst.ne.2, hst.few, lp, hks.ng np, ne_of_len hpl h2, by omega, Fin.mono q s1⟩⟩
abbrev s_answer_minus : Stmt := topS 45
abbrev N_answer_minus : List Str := ["kept", "chosen"]
theorem sc_answer_minus : FnScope N_answer_minus ["kept", "chosen"] (defScope s_answer_minus) := ⟨rfl, rfl, rfl, by decide +kernel, rfl, by decide +kernel, by decide +kernel⟩
theorem ok_answer_minus {f : Addr} {fd : FuncData} (F : Fun K "answer_minus" "answer_minus" s_answer_minus f fd) (C1 : CKeep P w K mg base C) (C2 : CalN P w K mg base 5 "difference_of" ["left", "right"] spDiff) : FnOk P w K mg base CX0 6 f fd ["kept", "chosen"] (spNm C nMinus 2) := by
  obtain ⟨_, g_keep, _, G_keep, k_keep, b_keep⟩ := C1
  obtain ⟨_, g_difference_of, _, G_difference_of, k_difference_of, b_difference_of⟩ := C2
  refine F.ok sc_answer_minus (fun vs H Q E h => spNm_len h) (fun cdv A outer s H vs Q E hr h => ?_)
  obtain ⟨g, ob, na, ch, m, us, rfl, hks, hst, hch, hul, hu, q⟩ := h
  obtain ⟨u, v, rfl⟩ := len_two hul
  obtain ⟨hul1, hub⟩ := hu u (by simp)
  obtain ⟨hvl1, hvb⟩ := hu v (by simp)
  obtain ⟨a0, a1, c1, c2, c3⟩ := LL.pair hch
  have h4 := hst.fld.deg.2
  have h2 := hst.fld.deg.1
  refine ⟨_, (pss_one (ps_ret (pe_call G_keep (hr.mono (by omega)) (by rfl) g_keep k_keep b_keep .nil pass0 (pa_cons (pv 0) (pa_cons (pe_call G_difference_of (hr.mono (by omega)) (by rfl) g_difference_of k_difference_of b_difference_of .nil pass0 (pa_cons (pe_ix (show IxR _ (rIxL K) from ix_list) (pv 1) pe_int (fun _ _ => rfl)) (pa_cons (pe_ix (show IxR _ (rIxL K) from ix_list) (pv 1) pe_int (fun _ _ => rfl)) pa_nil))) pa_nil))))), ?_⟩
  have hpl : (Rf.plusR u (Rf.minusR v)).length = m.1.length := by rw [Rf.plusR_length _ _ (by rw [minusR_length, hul1, hvl1]), hul1]
  exact ⟨_, rfl, _, rfl, ch, _, 0, .ref a0, rfl, rfl, .inl (.inl c1), atI_nat (j := 0) rfl, _, rfl, ch, _, 1, .ref a1, rfl, rfl, .inl (.inl c1), atI_nat (j := 1) rfl, a0, a1, u, v, rfl, c2, c3, hub.sm (by omega), hvb.sm (by omega), by rw [hul1, hvl1], fun H1 p s1 np lp => ⟨g, ob, na, p, m, _, rfl, hks.same s1, hst.ne.1, hst.ne.2, hst.few, lp, hks.ng np, ne_of_len hpl h2, by omega, Fin.mono q s1⟩⟩
abbrev s_answer_times : Stmt := topS 46
abbrev N_answer_times : List Str := ["kept", "chosen"]
theorem sc_answer_times : FnScope N_answer_times ["kept", "chosen"] (defScope s_answer_times) := ⟨rfl, rfl, rfl, by decide +kernel, rfl, by decide +kernel, by decide +kernel⟩
theorem ok_answer_times {f : Addr} {fd : FuncData} (F : Fun K "answer_times" "answer_times" s_answer_times f fd) (T : Tx K mg C) (C1 : CKeep P w K mg base C) (C2 : CalN P w K mg base 4 "product_of" ["coefficients", "left", "right"] spProdOf) : FnOk P w K mg base CX0 5 f fd ["kept", "chosen"] (spNm C nTimes 2) := by
  obtain ⟨_, g_keep, _, G_keep, k_keep, b_keep⟩ := C1
  obtain ⟨_, g_product_of, _, G_product_of, k_product_of, b_product_of⟩ := C2
  refine F.ok sc_answer_times (fun vs H Q E h => spNm_len h) (fun cdv A outer s H vs Q E hr h => ?_)
  obtain ⟨g, ob, na, ch, m, us, rfl, hks, hst, hch, hul, hu, q⟩ := h
  obtain ⟨u, v, rfl⟩ := len_two hul
  obtain ⟨hul1, hub⟩ := hu u (by simp)
  obtain ⟨hvl1, hvb⟩ := hu v (by simp)
  obtain ⟨a0, a1, c1, c2, c3⟩ := LL.pair hch
  have h4 := hst.fld.deg.2
  have h2 := hst.fld.deg.1
  refine ⟨_, (pss_one (ps_ret (pe_call G_keep (hr.mono (by omega)) (by rfl) g_keep k_keep b_keep .nil pass0 (pa_cons (pv 0) (pa_cons (pe_call G_product_of (hr.mono (by omega)) (by rfl) g_product_of k_product_of b_product_of .nil pass0 (pa_cons (show PE _ _ (tFld K (tVar 0) "coefficients") from pe_fld (pv 0) rfl) (pa_cons (pe_ix (show IxR _ (rIxL K) from ix_list) (pv 1) pe_int (fun _ _ => rfl)) (pa_cons (pe_ix (show IxR _ (rIxL K) from ix_list) (pv 1) pe_int (fun _ _ => rfl)) pa_nil)))) pa_nil))))), ?_⟩
  have hpl : (Rf.timesR m.1 u v).length = m.1.length := Rf.times_length (by omega) _ hvl1
  have hks' := hks
  obtain ⟨dx, ca, as, k0, k1, k2, k3, k4, k5⟩ := hks
  exact ⟨_, rfl, _, rfl, ob, C, dx, _, _, rfl, k1, T.cl, T.nC, kF_c ca na, _, rfl, ch, _, 0, .ref a0, rfl, rfl, .inl (.inl c1), atI_nat (j := 0) rfl, _, rfl, ch, _, 1, .ref a1, rfl, rfl, .inl (.inl c1), atI_nat (j := 1) rfl, ca, a0, a1, m.1, u, v, rfl, k2, c2, c3, hub.sm (by omega), hvb.sm (by omega), hst.fld.deg, hst.fld.bd, hul1, hvl1, fun H1 p s1 np lp => ⟨g, ob, na, p, m, _, rfl, hks'.same s1, hst.ne.1, hst.ne.2, hst.few, lp, hks'.ng np, ne_of_len hpl h2, by omega, Fin.mono q s1⟩⟩
abbrev s_answer_by : Stmt := topS 47
abbrev N_answer_by : List Str := ["kept", "chosen"]
theorem sc_answer_by : FnScope N_answer_by ["kept", "chosen"] (defScope s_answer_by) := ⟨rfl, rfl, rfl, by decide +kernel, rfl, by decide +kernel, by decide +kernel⟩
theorem num_zero {k : List Int} {v : Rf.L} (hv : v.length = k.length) (h : ((v.map fun q => q.num).any fun z => z != 0) = true) : v ≠ Rf.zerosR k := by
  intro z
  obtain ⟨x, hx, hx2⟩ := List.any_eq_true.mp h
  obtain ⟨q, hq, rfl⟩ := List.mem_map.mp hx
  rw [z] at hq
  have : q = 0 := (List.mem_replicate.mp hq).2
  subst this
  simp at hx2
theorem ok_answer_by {f : Addr} {fd : FuncData} (F : Fun K "answer_by" "answer_by" s_answer_by f fd) (B : Bt mg) (T : Tx K mg C) (C1 : CKeep P w K mg base C) (C2 : CalN P w K mg base 6 "quotient_of" ["coefficients", "left", "right"] spQuot) : FnOk P w K mg base CX0 7 f fd ["kept", "chosen"] (spNm C nBy 2) := by
  obtain ⟨_, g_keep, _, G_keep, k_keep, b_keep⟩ := C1
  obtain ⟨_, g_quotient_of, _, G_quotient_of, k_quotient_of, b_quotient_of⟩ := C2
  refine F.ok sc_answer_by (fun vs H Q E h => spNm_len h) (fun cdv A outer s H vs Q E hr h => ?_)
  obtain ⟨g, ob, na, ch, m, us, rfl, hks, hst, hch, hul, hu, q⟩ := h
  obtain ⟨u, v, rfl⟩ := len_two hul
  obtain ⟨hul1, hub⟩ := hu u (by simp)
  obtain ⟨hvl1, hvb⟩ := hu v (by simp)
  obtain ⟨a0, a1, c1, c2, c3⟩ := LL.pair hch
  have h4 := hst.fld.deg.2
  have h2 := hst.fld.deg.1
  refine ⟨_, (pss_cons (ps_if (pt_not (pt_val (pe_callB (cr_anyI rfl) (by rfl) B.any (by decide +kernel) (pa_cons (pe_sl2 (lo := 0) (pe_ix (show IxR _ (rIxL K) from ix_list) (pv 1) pe_int (fun _ _ => rfl))) pa_nil)))) (pss_one (ps_ret (pe_lst (pa_cons (pe_un un_neg pe_int) pa_nil)))) pss_nil)
        (pss_one (ps_ret (pe_call G_keep (hr.mono (by omega)) (by rfl) g_keep k_keep b_keep .nil pass0 (pa_cons (pv 0) (pa_cons (pe_call G_quotient_of (hr.mono (by omega)) (by rfl) g_quotient_of k_quotient_of b_quotient_of .nil pass0 (pa_cons (show PE _ _ (tFld K (tVar 0) "coefficients") from pe_fld (pv 0) rfl) (pa_cons (pe_ix (show IxR _ (rIxL K) from ix_list) (pv 1) pe_int (fun _ _ => rfl)) (pa_cons (pe_ix (show IxR _ (rIxL K) from ix_list) (pv 1) pe_int (fun _ _ => rfl)) pa_nil)))) pa_nil)))))), ?_⟩
  have hpl : (Rf.timesR m.1 u (Rf.inverseR m.1 v)).length = m.1.length := Rf.times_length (by omega) _ (inv_length hst.fld.deg hvl1)
  refine ⟨_, rfl, ch, _, 1, .ref a1, rfl, rfl, .inl (.inl c1), atI_nat (j := 1) rfl, a1, _, rfl, LI.seq c3, fun o no => ?_⟩
  have e0 : ev2 (((Rf.placesQ v).map V.int).drop 0) = (v.map fun q => q.num).map V.int := by rw [← List.map_drop, ev2_map, List.drop_zero, ev2_places]
  rw [e0]
  have s1 : Same H (upd H o (.lst ((v.map fun q => q.num).map V.int))) := same_new no
  have l1 : LI (upd H o (.lst ((v.map fun q => q.num).map V.int))) o (v.map fun q => q.num) := upd_same
  generalize upd H o (.lst ((v.map fun q => q.num).map V.int)) = H1 at *
  refine ⟨o, _, rfl, LI.seq l1, _, rfl, ?_⟩
  cases hz : ((v.map fun q => q.num).any fun z => z != 0) with
  | false =>
    have eb : nBy m [u, v] = (m, [-3]) := if_neg (by rw [hz]; decide)
    rw [eb] at q
    exact iteT ⟨3, rfl, (by show 1 ≤ sizeLine; decide), fun o2 n2 => fin_new q hks s1 n2⟩
  | true =>
    have eb : nBy m [u, v] = putM m (Rf.timesR m.1 u (Rf.inverseR m.1 v)) := if_pos hz
    rw [eb] at q
    have hks' := hks.same s1
    obtain ⟨dx, ca, as, k0, k1, k2, k3, k4, k5⟩ := hks.same s1
    refine iteF ⟨_, rfl, _, rfl, ob, C, dx, _, _, rfl, k1, T.cl, T.nC, kF_c ca na, _, rfl, ch, _, 0, .ref a0, rfl, rfl, .inl (.inl (s1 _ _ c1)), atI_nat (j := 0) rfl, _, rfl, ch, _, 1, .ref a1, rfl, rfl, .inl (.inl (s1 _ _ c1)), atI_nat (j := 1) rfl, ca, a0, a1, m.1, u, v, rfl, k2, s1 _ _ c2, s1 _ _ c3, hub.sm (by omega), hvb.sm (by omega), hst.fld.deg, hst.fld.bd, hul1, hvl1, Rf.norm_ne hst.fld.deg hst.fld.irr hvl1 (num_zero hvl1 hz), fun H2 p s2 np lp => ⟨g, ob, na, p, m, _, rfl, hks'.same s2, hst.ne.1, hst.ne.2, hst.few, lp, hks'.ng np, ne_of_len hpl h2, by omega, (Fin.mono q s1).mono s2⟩⟩
end
end Rp

set_option Elab.async false
set_option linter.all false
set_option maxRecDepth 100000
set_option maxHeartbeats 2000000
set_option exponentiation.threshold 1000000
namespace Rp
open PySem PySem.Spec PyProof.Rows L2
section
variable {P : Program} {w : World} {K : PySem.W.Frag} {mg : Str → Option Value} {base : Heap} {C : Addr}
abbrev s_answer_told : Stmt := topS 48
abbrev N_answer_told : List Str := ["kept", "chosen"]
theorem sc_answer_told : FnScope N_answer_told ["kept", "chosen"] (defScope s_answer_told) := ⟨rfl, rfl, rfl, by decide +kernel, rfl, by decide +kernel, by decide +kernel⟩
theorem ok_answer_told {f : Addr} {fd : FuncData} (F : Fun K "answer_told" "answer_told" s_answer_told f fd) : FnOk P w K mg base CX0 1 f fd ["kept", "chosen"] (spNm C nTold 1) := by
  refine F.ok sc_answer_told (fun vs H Q E h => spNm_len h) (fun cdv A outer s H vs Q E hr h => ?_)
  obtain ⟨g, ob, na, ch, m, us, rfl, hks, hst, hch, hul, hu, q⟩ := h
  obtain ⟨u, rfl⟩ := len_one hul
  obtain ⟨hul1, hub⟩ := hu u (by simp)
  obtain ⟨a0, c1, c2⟩ := LL.one hch
  have h4 := hst.fld.deg.2
  refine ⟨_, (pss_one (ps_ret (pe_op op_cat (pe_lst (pa_cons pe_int pa_nil)) (pe_ix (show IxR _ (rIxL K) from ix_list) (pv 1) pe_int (fun _ _ => rfl))))), ?_⟩
  refine ⟨(by show 1 ≤ sizeLine; decide), fun o no => ?_⟩
  have s1 : Same H (upd H o (.lst [.int 0])) := same_new no
  have l1 : (upd H o (.lst [.int 0])) o = some (.lst [.int 0]) := upd_same
  generalize upd H o (.lst [.int 0]) = H1 at *
  refine ⟨_, rfl, ch, _, 0, .ref a0, rfl, rfl, .inl (.inl (s1 _ _ c1)), atI_nat (j := 0) rfl, o, a0, _, _, rfl, rfl, l1, s1 _ _ c2, ?_, fun p np => fin_new (out := 0 :: Rf.placesQ u) q hks s1 np⟩
  rw [List.length_map, places_length]
  exact Nat.le_of_lt (small1000 (by show 1 + _ ≤ 1000; omega))
abbrev s_answer_norm : Stmt := topS 49
abbrev N_answer_norm : List Str := ["kept", "chosen"]
theorem sc_answer_norm : FnScope N_answer_norm ["kept", "chosen"] (defScope s_answer_norm) := ⟨rfl, rfl, rfl, by decide +kernel, rfl, by decide +kernel, by decide +kernel⟩
theorem ok_answer_norm {f : Addr} {fd : FuncData} (F : Fun K "answer_norm" "answer_norm" s_answer_norm f fd) (T : Tx K mg C) (C2 : CalN P w K mg base 6 "norm_of" ["coefficients", "number"] spNorm) : FnOk P w K mg base CX0 7 f fd ["kept", "chosen"] (spNm C nNorm 1) := by
  obtain ⟨_, g_norm_of, _, G_norm_of, k_norm_of, b_norm_of⟩ := C2
  refine F.ok sc_answer_norm (fun vs H Q E h => spNm_len h) (fun cdv A outer s H vs Q E hr h => ?_)
  obtain ⟨g, ob, na, ch, m, us, rfl, hks, hst, hch, hul, hu, q⟩ := h
  obtain ⟨u, rfl⟩ := len_one hul
  obtain ⟨hul1, hub⟩ := hu u (by simp)
  obtain ⟨a0, c1, c2⟩ := LL.one hch
  have h4 := hst.fld.deg.2
  refine ⟨_, (pss_one (ps_ret (pe_op op_cat (pe_lst (pa_cons pe_int pa_nil)) (pe_call G_norm_of (hr.mono (by omega)) (by rfl) g_norm_of k_norm_of b_norm_of .nil pass0 (pa_cons (show PE _ _ (tFld K (tVar 0) "coefficients") from pe_fld (pv 0) rfl) (pa_cons (pe_ix (show IxR _ (rIxL K) from ix_list) (pv 1) pe_int (fun _ _ => rfl)) pa_nil)))))), ?_⟩
  refine ⟨(by show 1 ≤ sizeLine; decide), fun o no => ?_⟩
  have s1 : Same H (upd H o (.lst [.int 0])) := same_new no
  have l1 : (upd H o (.lst [.int 0])) o = some (.lst [.int 0]) := upd_same
  generalize upd H o (.lst [.int 0]) = H1 at *
  obtain ⟨dx, ca, as, k0, k1, k2, k3, k4, k5⟩ := hks.same s1
  refine ⟨_, rfl, ob, C, dx, _, _, rfl, k1, T.cl, T.nC, kF_c ca na, _, rfl, ch, _, 0, .ref a0, rfl, rfl, .inl (.inl (s1 _ _ c1)), atI_nat (j := 0) rfl, ca, a0, m.1, u, rfl, k2, s1 _ _ c2, hub.sm (by omega), hst.fld.deg, hst.fld.bd, hul1, fun H2 p2 s2 l2 => ?_⟩
  exact ⟨o, p2, _, _, rfl, rfl, s2 _ _ l1, l2, (by show 1 + 2 ≤ sizeLine; decide), fun p np => fin_new (out := 0 :: Rf.frac (Rf.normR m.1 u)) q hks (s1.trans s2) np⟩
abbrev s_answer_trace : Stmt := topS 50
abbrev N_answer_trace : List Str := ["kept", "chosen"]
theorem sc_answer_trace : FnScope N_answer_trace ["kept", "chosen"] (defScope s_answer_trace) := ⟨rfl, rfl, rfl, by decide +kernel, rfl, by decide +kernel, by decide +kernel⟩
theorem ok_answer_trace {f : Addr} {fd : FuncData} (F : Fun K "answer_trace" "answer_trace" s_answer_trace f fd) (T : Tx K mg C) (C2 : CalN P w K mg base 4 "trace_of" ["coefficients", "number"] spTraceOf) : FnOk P w K mg base CX0 5 f fd ["kept", "chosen"] (spNm C nTrace 1) := by
  obtain ⟨_, g_trace_of, _, G_trace_of, k_trace_of, b_trace_of⟩ := C2
  refine F.ok sc_answer_trace (fun vs H Q E h => spNm_len h) (fun cdv A outer s H vs Q E hr h => ?_)
  obtain ⟨g, ob, na, ch, m, us, rfl, hks, hst, hch, hul, hu, q⟩ := h
  obtain ⟨u, rfl⟩ := len_one hul
  obtain ⟨hul1, hub⟩ := hu u (by simp)
  obtain ⟨a0, c1, c2⟩ := LL.one hch
  have h4 := hst.fld.deg.2
  refine ⟨_, (pss_one (ps_ret (pe_op op_cat (pe_lst (pa_cons pe_int pa_nil)) (pe_call G_trace_of (hr.mono (by omega)) (by rfl) g_trace_of k_trace_of b_trace_of .nil pass0 (pa_cons (show PE _ _ (tFld K (tVar 0) "coefficients") from pe_fld (pv 0) rfl) (pa_cons (pe_ix (show IxR _ (rIxL K) from ix_list) (pv 1) pe_int (fun _ _ => rfl)) pa_nil)))))), ?_⟩
  refine ⟨(by show 1 ≤ sizeLine; decide), fun o no => ?_⟩
  have s1 : Same H (upd H o (.lst [.int 0])) := same_new no
  have l1 : (upd H o (.lst [.int 0])) o = some (.lst [.int 0]) := upd_same
  generalize upd H o (.lst [.int 0]) = H1 at *
  obtain ⟨dx, ca, as, k0, k1, k2, k3, k4, k5⟩ := hks.same s1
  refine ⟨_, rfl, ob, C, dx, _, _, rfl, k1, T.cl, T.nC, kF_c ca na, _, rfl, ch, _, 0, .ref a0, rfl, rfl, .inl (.inl (s1 _ _ c1)), atI_nat (j := 0) rfl, ca, a0, m.1, u, rfl, k2, s1 _ _ c2, hub.sm (by omega), hst.fld.deg, hst.fld.bd, hul1, fun H2 p2 s2 l2 => ?_⟩
  exact ⟨o, p2, _, _, rfl, rfl, s2 _ _ l1, l2, (by show 1 + 2 ≤ sizeLine; decide), fun p np => fin_new (out := 0 :: Rf.frac (Rf.traceR m.1 u)) q hks (s1.trans s2) np⟩
abbrev s_answer_polynomial : Stmt := topS 51
abbrev N_answer_polynomial : List Str := ["kept", "chosen"]
theorem sc_answer_polynomial : FnScope N_answer_polynomial ["kept", "chosen"] (defScope s_answer_polynomial) := ⟨rfl, rfl, rfl, by decide +kernel, rfl, by decide +kernel, by decide +kernel⟩
theorem ok_answer_polynomial {f : Addr} {fd : FuncData} (F : Fun K "answer_polynomial" "answer_polynomial" s_answer_polynomial f fd) (T : Tx K mg C) (C2 : CalN P w K mg base 5 "polynomial_of" ["coefficients", "number"] spPolyOf) : FnOk P w K mg base CX0 6 f fd ["kept", "chosen"] (spNm C nPoly 1) := by
  obtain ⟨_, g_polynomial_of, _, G_polynomial_of, k_polynomial_of, b_polynomial_of⟩ := C2
  refine F.ok sc_answer_polynomial (fun vs H Q E h => spNm_len h) (fun cdv A outer s H vs Q E hr h => ?_)
  obtain ⟨g, ob, na, ch, m, us, rfl, hks, hst, hch, hul, hu, q⟩ := h
  obtain ⟨u, rfl⟩ := len_one hul
  obtain ⟨hul1, hub⟩ := hu u (by simp)
  obtain ⟨a0, c1, c2⟩ := LL.one hch
  have h4 := hst.fld.deg.2
  refine ⟨_, (pss_one (ps_ret (pe_op op_cat (pe_lst (pa_cons pe_int pa_nil)) (pe_call G_polynomial_of (hr.mono (by omega)) (by rfl) g_polynomial_of k_polynomial_of b_polynomial_of .nil pass0 (pa_cons (show PE _ _ (tFld K (tVar 0) "coefficients") from pe_fld (pv 0) rfl) (pa_cons (pe_ix (show IxR _ (rIxL K) from ix_list) (pv 1) pe_int (fun _ _ => rfl)) pa_nil)))))), ?_⟩
  refine ⟨(by show 1 ≤ sizeLine; decide), fun o no => ?_⟩
  have s1 : Same H (upd H o (.lst [.int 0])) := same_new no
  have l1 : (upd H o (.lst [.int 0])) o = some (.lst [.int 0]) := upd_same
  generalize upd H o (.lst [.int 0]) = H1 at *
  obtain ⟨dx, ca, as, k0, k1, k2, k3, k4, k5⟩ := hks.same s1
  refine ⟨_, rfl, ob, C, dx, _, _, rfl, k1, T.cl, T.nC, kF_c ca na, _, rfl, ch, _, 0, .ref a0, rfl, rfl, .inl (.inl (s1 _ _ c1)), atI_nat (j := 0) rfl, ca, a0, m.1, u, rfl, k2, s1 _ _ c2, hub.sm (by omega), hst.fld.deg, hst.fld.bd, hul1, fun H2 p2 s2 l2 => ?_⟩
  refine ⟨o, p2, _, _, rfl, rfl, s2 _ _ l1, l2, ?_, fun p np => fin_new (out := 0 :: Rf.placesQ (Rf.charR m.1 u)) q hks (s1.trans s2) np⟩
  have := charR_len hst.fld.deg hul1
  rw [List.length_map, places_length]
  exact Nat.le_of_lt (small1000 (by show 1 + _ ≤ 1000; omega))
abbrev s_answer_least : Stmt := topS 52
abbrev N_answer_least : List Str := ["kept", "chosen", "least"]
theorem sc_answer_least : FnScope N_answer_least ["kept", "chosen"] (defScope s_answer_least) := ⟨rfl, rfl, rfl, by decide +kernel, rfl, by decide +kernel, by decide +kernel⟩
theorem ok_answer_least {f : Addr} {fd : FuncData} (F : Fun K "answer_least" "answer_least" s_answer_least f fd) (B : Bt mg) (T : Tx K mg C) (C2 : CalN P w K mg base 6 "least_of" ["coefficients", "number"] spLeastOf) : FnOk P w K mg base CX0 7 f fd ["kept", "chosen"] (spNm C nLeast 1) := by
  obtain ⟨_, g_least_of, _, G_least_of, k_least_of, b_least_of⟩ := C2
  refine F.ok sc_answer_least (fun vs H Q E h => spNm_len h) (fun cdv A outer s H vs Q E hr h => ?_)
  obtain ⟨g, ob, na, ch, m, us, rfl, hks, hst, hch, hul, hu, q⟩ := h
  obtain ⟨u, rfl⟩ := len_one hul
  obtain ⟨hul1, hub⟩ := hu u (by simp)
  obtain ⟨a0, c1, c2⟩ := LL.one hch
  have h4 := hst.fld.deg.2
  refine ⟨_, (pss_cons (ps_set (i := 2) sc_answer_least.nd rfl (Or.inl rfl) (pe_call G_least_of (hr.mono (by omega)) (by rfl) g_least_of k_least_of b_least_of .nil pass0 (pa_cons (show PE _ _ (tFld K (tVar 0) "coefficients") from pe_fld (pv 0) rfl) (pa_cons (pe_ix (show IxR _ (rIxL K) from ix_list) (pv 1) pe_int (fun _ _ => rfl)) pa_nil))))
        (pss_one (ps_ret (pe_op op_cat (pe_lst (pa_cons (pe_op op_sub (pe_op op_fdivB (pe_callB (show CallR _ _ (rLenK K) from call_len_seq) (by rfl) B.len PySem.boot_len (pa_cons (pv 2) pa_nil)) pe_int) pe_int) pa_nil)) (pv 2))))), ?_⟩
  have hks' := hks
  obtain ⟨dx, ca, as, k0, k1, k2, k3, k4, k5⟩ := hks
  refine ⟨_, rfl, ob, C, dx, _, _, rfl, k1, T.cl, T.nC, kF_c ca na, _, rfl, ch, _, 0, .ref a0, rfl, rfl, .inl (.inl c1), atI_nat (j := 0) rfl, ca, a0, m.1, u, rfl, k2, c2, hub.sm (by omega), hst.fld.deg, hst.fld.bd, hul1, fun H2 p2 s2 l2 => ?_⟩
  have hll := leastR_len hst.fld.deg hul1
  refine ⟨_, rfl, p2, _, rfl, .inl (LI.seq l2), _, _, rfl, rfl, divB_of (b := 2) (by decide) (by decide) (by decide) (by decide), _, _, rfl, rfl, (by show 1 ≤ sizeLine; decide), fun o no => ?_⟩
  have e2 : (((Rf.placesQ (leastR m.1 u)).map V.int).length : Int).fdiv 2 - 1 = ((leastR m.1 u).length : Int) - 1 := by
    rw [List.length_map, places_length, fdiv_two]
    omega
  dsimp only
  rw [e2]
  have s1 : Same H2 (upd H2 o (.lst [.int (((leastR m.1 u).length : Int) - 1)])) := same_new no
  have l1 : (upd H2 o (.lst [.int (((leastR m.1 u).length : Int) - 1)])) o = some (.lst [.int (((leastR m.1 u).length : Int) - 1)]) := upd_same
  refine ⟨_, rfl, o, p2, _, _, rfl, rfl, l1, s1 _ _ l2, ?_, fun p np => fin_new (out := (((leastR m.1 u).length : Int) - 1) :: Rf.placesQ (leastR m.1 u)) q hks' (s2.trans s1) np⟩
  rw [List.length_map, places_length]
  exact Nat.le_of_lt (small1000 (by show 1 + _ ≤ 1000; omega))
abbrev s_answer_whole : Stmt := topS 53
abbrev N_answer_whole : List Str := ["kept", "chosen", "polynomial"]
theorem sc_answer_whole : FnScope N_answer_whole ["kept", "chosen"] (defScope s_answer_whole) := ⟨rfl, rfl, rfl, by decide +kernel, rfl, by decide +kernel, by decide +kernel⟩
theorem ok_answer_whole {f : Addr} {fd : FuncData} (F : Fun K "answer_whole" "answer_whole" s_answer_whole f fd) (T : Tx K mg C) (C1 : CalN P w K mg base 1 "all_within" ["values", "least", "greatest"] spWithin) (C2 : CalN P w K mg base 5 "polynomial_of" ["coefficients", "number"] spPolyOf) : FnOk P w K mg base CX0 6 f fd ["kept", "chosen"] (spNm C nWhole 1) := by
  obtain ⟨_, g_all_within, _, G_all_within, k_all_within, b_all_within⟩ := C1
  obtain ⟨_, g_polynomial_of, _, G_polynomial_of, k_polynomial_of, b_polynomial_of⟩ := C2
  refine F.ok sc_answer_whole (fun vs H Q E h => spNm_len h) (fun cdv A outer s H vs Q E hr h => ?_)
  obtain ⟨g, ob, na, ch, m, us, rfl, hks, hst, hch, hul, hu, q⟩ := h
  obtain ⟨u, rfl⟩ := len_one hul
  obtain ⟨hul1, hub⟩ := hu u (by simp)
  obtain ⟨a0, c1, c2⟩ := LL.one hch
  have h4 := hst.fld.deg.2
  refine ⟨_, (pss_cons (ps_set (i := 2) sc_answer_whole.nd rfl (Or.inl rfl) (pe_call G_polynomial_of (hr.mono (by omega)) (by rfl) g_polynomial_of k_polynomial_of b_polynomial_of .nil pass0 (pa_cons (show PE _ _ (tFld K (tVar 0) "coefficients") from pe_fld (pv 0) rfl) (pa_cons (pe_ix (show IxR _ (rIxL K) from ix_list) (pv 1) pe_int (fun _ _ => rfl)) pa_nil))))
        (pss_one (ps_ret (pe_lst (pa_cons (pe_ifExp (pt_val (pe_call G_all_within (hr.mono (by omega)) (by rfl) g_all_within k_all_within b_all_within .nil pass0 (pa_cons (pe_sl2 (lo := 1) (pv 2)) (pa_cons pe_int (pa_cons pe_int pa_nil))))) pe_int pe_int) pa_nil))))), ?_⟩
  have hks' := hks
  obtain ⟨dx, ca, as, k0, k1, k2, k3, k4, k5⟩ := hks
  refine ⟨_, rfl, ob, C, dx, _, _, rfl, k1, T.cl, T.nC, kF_c ca na, _, rfl, ch, _, 0, .ref a0, rfl, rfl, .inl (.inl c1), atI_nat (j := 0) rfl, ca, a0, m.1, u, rfl, k2, c2, hub.sm (by omega), hst.fld.deg, hst.fld.bd, hul1, fun H2 p2 s2 l2 => ?_⟩
  have hll := charR_len hst.fld.deg hul1
  refine ⟨_, rfl, p2, _, rfl, LI.seq l2, fun o no => ?_⟩
  have e1 : ev2 (((Rf.placesQ (Rf.charR m.1 u)).map V.int).drop 1) = ((Rf.charR m.1 u).map fun q => (q.den : Int)).map V.int := by rw [← List.map_drop, ev2_map, ev2_places1]
  rw [e1]
  have s1 : Same H2 (upd H2 o (.lst (((Rf.charR m.1 u).map fun q => (q.den : Int)).map V.int))) := same_new no
  have l1 : LI (upd H2 o (.lst (((Rf.charR m.1 u).map fun q => (q.den : Int)).map V.int))) o ((Rf.charR m.1 u).map fun q => (q.den : Int)) := upd_same
  refine ⟨o, _, 1, 1, rfl, l1, by rw [List.length_map]; omega, fun H3 s3 => ⟨_, rfl, ?_⟩⟩
  have eq0 : nWhole m [u] = (m, [if withinB ((Rf.charR m.1 u).map fun q => (q.den : Int)) 1 1 = true then 1 else 0]) := rfl
  rw [eq0] at q
  cases hw : withinB ((Rf.charR m.1 u).map fun q => (q.den : Int)) 1 1 with
  | true =>
    rw [hw] at q
    exact iteT ⟨(by show 1 ≤ sizeLine; decide), fun p np => fin_new (out := [1]) q hks' (s2.trans (s1.trans s3)) np⟩
  | false =>
    rw [hw] at q
    exact iteF ⟨(by show 1 ≤ sizeLine; decide), fun p np => fin_new (out := [0]) q hks' (s2.trans (s1.trans s3)) np⟩
abbrev s_answer_signs : Stmt := topS 54
abbrev N_answer_signs : List Str := ["kept", "chosen", "signs"]
theorem sc_answer_signs : FnScope N_answer_signs ["kept", "chosen"] (defScope s_answer_signs) := ⟨rfl, rfl, rfl, by decide +kernel, rfl, by decide +kernel, by decide +kernel⟩
theorem ok_answer_signs {f : Addr} {fd : FuncData} (F : Fun K "answer_signs" "answer_signs" s_answer_signs f fd) (B : Bt mg) (T : Tx K mg C) (C2 : CalN P w K mg base 8 "signs_of" ["coefficients", "number"] spSigns) : FnOk P w K mg base CX0 9 f fd ["kept", "chosen"] (spNm C nSigns 1) := by
  obtain ⟨_, g_signs_of, _, G_signs_of, k_signs_of, b_signs_of⟩ := C2
  refine F.ok sc_answer_signs (fun vs H Q E h => spNm_len h) (fun cdv A outer s H vs Q E hr h => ?_)
  obtain ⟨g, ob, na, ch, m, us, rfl, hks, hst, hch, hul, hu, q⟩ := h
  obtain ⟨u, rfl⟩ := len_one hul
  obtain ⟨hul1, hub⟩ := hu u (by simp)
  obtain ⟨a0, c1, c2⟩ := LL.one hch
  have h4 := hst.fld.deg.2
  refine ⟨_, (pss_cons (ps_set (i := 2) sc_answer_signs.nd rfl (Or.inl rfl) (pe_call G_signs_of (hr.mono (by omega)) (by rfl) g_signs_of k_signs_of b_signs_of .nil pass0 (pa_cons (show PE _ _ (tFld K (tVar 0) "coefficients") from pe_fld (pv 0) rfl) (pa_cons (pe_ix (show IxR _ (rIxL K) from ix_list) (pv 1) pe_int (fun _ _ => rfl)) pa_nil))))
        (pss_one (ps_ret (pe_op op_cat (pe_lst (pa_cons (pe_callB (show CallR _ _ (rLenK K) from call_len_seq) (by rfl) B.len PySem.boot_len (pa_cons (pv 2) pa_nil)) pa_nil)) (pv 2))))), ?_⟩
  have hks' := hks
  obtain ⟨dx, ca, as, k0, k1, k2, k3, k4, k5⟩ := hks
  refine ⟨_, rfl, ob, C, dx, _, _, rfl, k1, T.cl, T.nC, kF_c ca na, _, rfl, ch, _, 0, .ref a0, rfl, rfl, .inl (.inl c1), atI_nat (j := 0) rfl, ca, a0, m.1, u, rfl, k2, c2, hub.sm (by omega), hst.fld, hul1, fun H2 p2 s2 l2 => ?_⟩
  have hll := signsR_len hst.fld u
  refine ⟨_, rfl, p2, _, rfl, .inl (LI.seq l2), (by show 1 ≤ sizeLine; decide), fun o no => ?_⟩
  rw [List.length_map] at *
  have s1 : Same H2 (upd H2 o (.lst [.int ((signsR m.1 u).length : Int)])) := same_new no
  have l1 : (upd H2 o (.lst [.int ((signsR m.1 u).length : Int)])) o = some (.lst [.int ((signsR m.1 u).length : Int)]) := upd_same
  refine ⟨_, rfl, o, p2, _, _, rfl, rfl, l1, s1 _ _ l2, ?_, fun p np => fin_new (out := ((signsR m.1 u).length : Int) :: signsR m.1 u) q hks' (s2.trans s1) np⟩
  rw [List.length_map]
  exact Nat.le_of_lt (small1000 (by show 1 + _ ≤ 1000; omega))
abbrev s_answer_alike : Stmt := topS 55
abbrev N_answer_alike : List Str := ["kept", "chosen", "same"]
theorem sc_answer_alike : FnScope N_answer_alike ["kept", "chosen"] (defScope s_answer_alike) := ⟨rfl, rfl, rfl, by decide +kernel, rfl, by decide +kernel, by decide +kernel⟩
theorem ok_answer_alike {f : Addr} {fd : FuncData} (F : Fun K "answer_alike" "answer_alike" s_answer_alike f fd) (T : Tx K mg C) (C2 : CalN P w K mg base 6 "least_of" ["coefficients", "number"] spLeastOf) : FnOk P w K mg base CX0 7 f fd ["kept", "chosen"] (spNm C nAlike 2) := by
  obtain ⟨_, g_least_of, _, G_least_of, k_least_of, b_least_of⟩ := C2
  refine F.ok sc_answer_alike (fun vs H Q E h => spNm_len h) (fun cdv A outer s H vs Q E hr h => ?_)
  obtain ⟨g, ob, na, ch, m, us, rfl, hks, hst, hch, hul, hu, q⟩ := h
  obtain ⟨u, v, rfl⟩ := len_two hul
  obtain ⟨hul1, hub⟩ := hu u (by simp)
  obtain ⟨hvl1, hvb⟩ := hu v (by simp)
  obtain ⟨a0, a1, c1, c2, c3⟩ := LL.pair hch
  have h4 := hst.fld.deg.2
  refine ⟨_, (pss_cons (ps_set (i := 2) sc_answer_alike.nd rfl (Or.inl rfl) (pe_cmpR (op_eqD hr.units) (pe_call G_least_of (hr.mono (by omega)) (by rfl) g_least_of k_least_of b_least_of .nil pass0 (pa_cons (show PE _ _ (tFld K (tVar 0) "coefficients") from pe_fld (pv 0) rfl) (pa_cons (pe_ix (show IxR _ (rIxL K) from ix_list) (pv 1) pe_int (fun _ _ => rfl)) pa_nil))) (pe_call G_least_of (hr.mono (by omega)) (by rfl) g_least_of k_least_of b_least_of .nil pass0 (pa_cons (show PE _ _ (tFld K (tVar 0) "coefficients") from pe_fld (pv 0) rfl) (pa_cons (pe_ix (show IxR _ (rIxL K) from ix_list) (pv 1) pe_int (fun _ _ => rfl)) pa_nil))) (nomark _)))
        (pss_one (ps_ret (pe_lst (pa_cons (pe_ifExp (pt_truth (pv 2) (by intro _; rfl)) pe_int pe_int) pa_nil))))), ?_⟩
  have hks' := hks
  obtain ⟨dx, ca, as, k0, k1, k2, k3, k4, k5⟩ := hks
  refine ⟨_, rfl, ob, C, dx, _, _, rfl, k1, T.cl, T.nC, kF_c ca na, _, rfl, ch, _, 0, .ref a0, rfl, rfl, .inl (.inl c1), atI_nat (j := 0) rfl, ca, a0, m.1, u, rfl, k2, c2, hub.sm (by omega), hst.fld.deg, hst.fld.bd, hul1, fun H2 p2 s2 l2 => ?_⟩
  refine ⟨_, rfl, ob, C, dx, _, _, rfl, s2 _ _ k1, T.cl, T.nC, kF_c ca na, _, rfl, ch, _, 1, .ref a1, rfl, rfl, .inl (.inl (s2 _ _ c1)), atI_nat (j := 1) rfl, ca, a1, m.1, v, rfl, s2 _ _ k2, s2 _ _ c3, hvb.sm (by omega), hst.fld.deg, hst.fld.bd, hvl1, fun H3 p3 s3 l3 => ?_⟩
  refine eqD_ints (s3 _ _ l2) l3 ?_
  have eq0 : nAlike m [u, v] = (m, [if Rf.placesQ (leastR m.1 u) = Rf.placesQ (leastR m.1 v) then 1 else 0]) := rfl
  rw [eq0] at q
  by_cases he : Rf.placesQ (leastR m.1 u) = Rf.placesQ (leastR m.1 v)
  · rw [decide_eq_true he]
    rw [if_pos he] at q
    exact ⟨_, rfl, true, rfl, iteT ⟨(by show 1 ≤ sizeLine; decide), fun p np => fin_new (out := [1]) q hks' (s2.trans s3) np⟩⟩
  · rw [decide_eq_false he]
    rw [if_neg he] at q
    exact ⟨_, rfl, false, rfl, iteF ⟨(by show 1 ≤ sizeLine; decide), fun p np => fin_new (out := [0]) q hks' (s2.trans s3) np⟩⟩
abbrev s_answer_drop : Stmt := topS 56
abbrev N_answer_drop : List Str := ["kept", "chosen"]
theorem sc_answer_drop : FnScope N_answer_drop ["kept", "chosen"] (defScope s_answer_drop) := ⟨rfl, rfl, rfl, by decide +kernel, rfl, by decide +kernel, by decide +kernel⟩
theorem ok_answer_drop {f : Addr} {fd : FuncData} (F : Fun K "answer_drop" "answer_drop" s_answer_drop f fd) (B : Bt mg) (T : Tx K mg C) : FnOk P w K mg base CX0 1 f fd ["kept", "chosen"] (spNm C nDrop 0) := by
  refine F.ok sc_answer_drop (fun vs H Q E h => spNm_len h) (fun cdv A outer s H vs Q E hr h => ?_)
  obtain ⟨g, ob, na, ch, m, us, rfl, hks, hst, hch, hul, hu, q⟩ := h
  have hu0 : us = [] := by simpa using hul
  subst hu0
  refine ⟨_, (pss_cons (ps_if (pt_not (pt_truth (show PE _ _ (tFld K (tVar 0) "numbers") from pe_fld (pv 0) rfl) (by intro _; rfl))) (pss_one (ps_ret (pe_lst (pa_cons (pe_un un_neg pe_int) pa_nil)))) pss_nil)
        (pss_cons (ps_expr (pe_bm0 PySem.F.plainAttrs_list PySem.F.slot_list_pop PySem.F.type_list_pop mt_pop (show PE _ _ (tFld K (tVar 0) "numbers") from pe_fld (pv 0) rfl)))
        (pss_one (ps_ret (pe_lst (pa_cons (pe_callB (show CallR _ _ (rLenK K) from call_len_seq) (by rfl) B.len PySem.boot_len (pa_cons (show PE _ _ (tFld K (tVar 0) "numbers") from pe_fld (pv 0) rfl) pa_nil)) pa_nil)))))), ?_⟩
  have hks' := hks
  obtain ⟨dx, ca, as, k0, k1, k2, k3, k4, k5⟩ := hks
  refine ⟨_, rfl, ob, C, dx, _, _, rfl, k1, T.cl, T.nN, kF_n ca na, _, .inl ⟨_, .inl (.inl k3), rfl⟩, ?_⟩
  obtain ⟨k, ns⟩ := m
  dsimp only at k4 k5 k2 hks'
  have eq0 : nDrop (k, ns) [] = if ns = [] then ((k, ns), [-4]) else ((k, ns.dropLast), [(ns.length : Int) - 1]) := rfl
  rw [eq0] at q
  by_cases hn : ns = []
  · have ha : as = [] := by
      rw [hn] at k4; simpa using k4
    rw [if_pos hn] at q
    subst ha
    exact iteT ⟨4, rfl, (by show 1 ≤ sizeLine; decide), fun p np => fin_new (out := [-4]) q hks' (Same.refl _) np⟩
  · rw [if_neg hn] at q
    have hane : as ≠ [] := by
      intro z; rw [z] at k4
      exact hn (by simpa using k4.symm)
    have hem : (!(!(as.map V.ref).isEmpty)) = false := by
      cases as with
      | nil => exact absurd rfl hane
      | cons _ _ => rfl
    rw [hem]
    refine iteF ?_
    have hl1 : 1 ≤ as.length := by
      cases as with
      | nil => exact absurd rfl hane
      | cons _ _ => simp
    have hlast : (as.map V.ref)[(as.map V.ref).length - 1]? = some (V.ref (as[as.length - 1]'(by omega))) := by
      rw [List.length_map, List.getElem?_map, List.getElem?_eq_getElem (by omega)]
      rfl
    refine ⟨_, rfl, ob, C, dx, _, _, rfl, k1, T.cl, T.nN, kF_n ca na, .inl ⟨rfl, _, .inl (.inl k3)⟩, na, _, _, rfl, rfl, k3, hlast, ?_⟩
    have hne := hst.ne
    have hona : ob ≠ na := by
      intro z
      rw [z, k3] at k1
      cases k1
    have hca : ca ≠ na := LI_ne k2 k3 hne.1
    have u1 : (upd H na (.lst (as.map V.ref).dropLast)) ob = some (.ins C dx (kF ca na)) := by rw [upd_ne hona]; exact k1
    have u2 : (upd H na (.lst (as.map V.ref).dropLast)) na = some (.lst (as.dropLast.map V.ref)) := by rw [upd_same, List.map_dropLast]
    refine ⟨_, rfl, ob, C, dx, _, _, rfl, u1, T.cl, T.nN, kF_n ca na, na, _, rfl, .inl (.inl (.inl u2)), (by show 1 ≤ sizeLine; decide), fun o no => ?_⟩
    have ez : ((as.dropLast.map V.ref).length : Int) = (ns.length : Int) - 1 := by
      rw [List.length_map, List.length_dropLast, k4]
      omega
    dsimp only
    rw [ez]
    have sN : Same (upd H na (.lst (as.map V.ref).dropLast)) (upd (upd H na (.lst (as.map V.ref).dropLast)) o (.lst [.int ((ns.length : Int) - 1)])) := same_new no
    have oH : H o = none := by
      by_cases hon : o = na
      · rw [hon, u2] at no; cases no
      · rw [upd_ne hon] at no; exact no
    refine q _ na o ?_ (.inl rfl) ?_ upd_same oH
    · intro b x hb1 hb2 e
      refine sN b x ?_
      rw [upd_ne hb2]
      exact e
    · obtain ⟨f1, f2, f3, f4, gx, f5⟩ := k0
      refine ⟨dx, ca, as.dropLast, ⟨f1, fun b hb => f2 b (by rw [List.dropLast_eq_take] at hb; exact List.mem_of_mem_take hb), f3, f4, gx, sN _ _ (by rw [upd_ne f4]; exact f5)⟩, sN _ _ u1, sN _ _ ?_, sN _ _ u2, by simp [k4], fun i x y hx hy => sN _ _ ?_⟩
      · rw [upd_ne hca]; exact k2
      · dsimp only at hy
        have hx2 : as[i]? = some x := by
          rw [List.dropLast_eq_take, List.getElem?_take] at hx
          split at hx
          · exact hx
          · cases hx
        have hy2 : ns[i]? = some y := by
          rw [List.dropLast_eq_take, List.getElem?_take] at hy
          split at hy
          · exact hy
          · cases hy
        have g5 := k5 i x y hx2 hy2
        rw [upd_ne (LI_ne g5 k3 (places_ne (hne.2 y (List.mem_of_getElem? hy2))))]
        exact g5
end
end Rp

set_option Elab.async false
set_option linter.all false
set_option maxRecDepth 100000
set_option maxHeartbeats 2000000
set_option exponentiation.threshold 1000000
namespace Rp
open PySem PySem.Spec PyProof.Rows L2
def tCallR (S : Addr → Sp → Prop) (tf : TE) (t : TA) : TE := fun σ H Q => tf σ H fun x H1 => ∃ f sp, x = .ref f ∧ S f sp ∧ t σ H1 fun vs H2 => sp vs H2 Q E0
theorem pe_callR {X : Cx} {k : Nat} {d i e : Expr} {es : List Expr} {p pos : Pos} {tf : TE} {t : TA} {S : Addr → Sp → Prop} (A : ∀ f sp, S f sp → ∃ ps, Cal X.prog X.w X.K X.mg X.base k f ps sp) (hr : Room k X.A) (hf : PE X (.Subscript d i p) tf) (ha : PA X (e :: es) t)
    (hx : Passes CX0 X E0 := by exact pass0)
    (he : starEach (e :: es) X.env = (false, eval e X.env) :: starEach es X.env := by rfl) (hpl : (backTo pos (starEach es X.env)).any (·.1) = false := by rfl) : PE X (.Call (.Subscript d i p) (e :: es) [] pos) (tCallR S tf t) := by
  refine ⟨fun pins s σ H Q I h => ?_⟩
  rw [arm_eval_Call_Sub]
  refine wpAny_bind (thn (hf.run pins s σ H _ I h) fun u s1 ⟨v, H1, I1, r1, q1⟩ => ?_)
  obtain ⟨f, sp, ev, hS, q1⟩ := q1
  subst ev
  obtain rfl : u = Value.ref f := r1
  obtain ⟨ps, fd, F, hk, hb⟩ := A f sp hS
  refine PySem.W.callWith_K (h₀ := X.base) I.ok.mod.kin hk (thn (ha.run pos pins s1 σ _ _ I1 q1) fun us s2 ⟨vs, H2, I2, r, q⟩ => ⟨I2.kIn, ?_⟩) he hpl
  exact run_fn F hr hb .nil hx I2 r (by rw [List.append_nil]; exact q)
/-! ### the field -/
def fieldM (m : Stt) (r : List Int) : Res := if ¬ (2 ≤ r.length ∧ r.length ≤ 4) then (m, [-1]) else if withinB r (-20) 20 = false then (m, [-1]) else if Rf.canBeParted r = true then (m, [-3]) else ((r, []), [(Nf01.reals r : Int)])
theorem within_bd {r : List Int} {M : Nat} (h : withinB r (-(M : Int)) M = true) : Rf.Bd M r := by
  intro z hz
  have := List.all_eq_true.mp h z hz
  simp at this
  omega
theorem fld_of {r : List Int} (h : 2 ≤ r.length ∧ r.length ≤ 4) (hw : withinB r (-20) 20 = true) (hp : Rf.canBeParted r = false) : Rf.Fld r := by
  refine ⟨h, ?_, within_bd (M := 20) hw⟩
  have e := Rf.parted_is (k := r) h
  rw [hp] at e
  have hpr : Nf01.prime r = true := by
    cases hx : Nf01.prime r with
    | true => rfl
    | false => rw [hx] at e; cases e
  exact (Rf.prime_irr h).mp hpr
theorem fieldM_ok {m : Stt} (h : StOk m) (r : List Int) : StOk (fieldM m r).1 := by
  unfold fieldM
  split
  · exact h
  · next h1 =>
    split
    · exact h
    · next h2 =>
      split
      · exact h
      · next h3 =>
        refine ⟨fld_of (by simpa using h1) (by simpa using h2) (by simpa using h3), by show 0 ≤ 8; decide, fun v hv => by cases hv⟩
/-! ### a number -/
def numOf (r : List Int) : Rf.L := ((ev2 r).zip (ev2 (r.drop 1))).map fun p => (p.1 : Rat) / (p.2 : Rat)
def numberM (m : Stt) (r : List Int) : Res := if r.length ≠ 2 * m.1.length then (m, [-1]) else if withinB (ev2 r) (-1000) 1000 = false then (m, [-1]) else if withinB (ev2 (r.drop 1)) 1 1000 = false then (m, [-1]) else putM m (numOf r)
theorem ev2_len : ∀ {n : Nat} {r : List Int}, r.length = 2 * n → (ev2 r).length = n ∧ (ev2 (r.drop 1)).length = n
  | 0, [], _ => ⟨rfl, rfl⟩
  | n + 1, [], h => by simp at h
  | n, [x], h => by simp at h; omega
  | 0, _ :: _ :: _, h => by simp at h
  | n + 1, x :: y :: r, h => by
    have h2 : r.length = 2 * n := by simp at h; omega
    obtain ⟨i1, i2⟩ := ev2_len h2
    refine ⟨by show (ev2 r).length + 1 = _; omega, ?_⟩
    cases r with
    | nil =>
      show 1 = n + 1
      simp at h2
      omega
    | cons z r =>
      show (ev2 ((z :: r).drop 1)).length + 1 = _
      omega
theorem numOf_len {n : Nat} {r : List Int} (h : r.length = 2 * n) : (numOf r).length = n := by
  obtain ⟨h1, h2⟩ := ev2_len h
  unfold numOf
  rw [List.length_map, List.length_zip, h1, h2, Nat.min_self]
theorem numberM_ok {m : Stt} (h : StOk m) (r : List Int) : StOk (numberM m r).1 := by
  unfold numberM
  split
  · exact h
  · next h1 =>
    split
    · exact h
    · split
      · exact h
      · exact putM_ok h (numOf_len (by simpa using h1))
/-- a row's promise -/
def spRow (C : Addr) (f : Stt → List Int → Res) : Sp := fun vs H Q _ => ∃ (g ob na r : Addr) (m : Stt) (row : List Int), vs = [.ref ob, .ref r] ∧ KS g H C ob na m.1 m.2 ∧ StOk m ∧ LI H r row ∧ r ≠ g ∧ row.length ≤ 500 ∧ Fin g H C ob na Q (f m row)
theorem spRow_len {C : Addr} {f : Stt → List Int → Res} {vs : List V} {H : Hp} {Q : VK} {E : XK} (h : spRow C f vs H Q E) : vs.length = 2 := by
  obtain ⟨_, _, _, _, _, _, rfl, _⟩ := h
  rfl
section
variable {P : Program} {w : World} {K : PySem.W.Frag} {mg : Str → Option Value} {base : Heap} {C : Addr}
abbrev s_answer_field : Stmt := topS 42
abbrev N_answer_field : List Str := ["kept", "coefficients"]
theorem sc_answer_field : FnScope N_answer_field ["kept", "coefficients"] (defScope s_answer_field) := ⟨rfl, rfl, rfl, by decide +kernel, rfl, by decide +kernel, by decide +kernel⟩
theorem ok_answer_field {f : Addr} {fd : FuncData} (F : Fun K "answer_field" "answer_field" s_answer_field f fd) (B : Bt mg) (T : Tx K mg C) (C1 : CalN P w K mg base 1 "all_within" ["values", "least", "greatest"] spWithin) (C2 : CalN P w K mg base 4 "can_be_parted" ["polynomial"] spParted) (C3 : CalN P w K mg base 6 "count_real_roots" ["coefficients"] spCount) : FnOk P w K mg base CX0 7 f fd ["kept", "coefficients"] (spRow C fieldM) := by
  obtain ⟨_, g_all_within, _, G_all_within, k_all_within, b_all_within⟩ := C1
  obtain ⟨_, g_can_be_parted, _, G_can_be_parted, k_can_be_parted, b_can_be_parted⟩ := C2
  obtain ⟨_, g_count_real_roots, _, G_count_real_roots, k_count_real_roots, b_count_real_roots⟩ := C3
  refine F.ok sc_answer_field (fun vs H Q E h => spRow_len h) (fun cdv A outer s H vs Q E hr h => ?_)
  obtain ⟨g, ob, na, r, m, row, rfl, hks, hst, lr, hrg, hrl, q⟩ := h
  refine ⟨_, (pss_cons (ps_if (pt_not (pt_chain op_le op_le pe_int (pe_callB (show CallR _ _ (rLenK K) from call_len_seq) (by rfl) B.len PySem.boot_len (pa_cons (pv 1) pa_nil)) pe_int)) (pss_one (ps_ret (pe_lst (pa_cons (pe_un un_neg pe_int) pa_nil)))) pss_nil)
        (pss_cons (ps_if (pt_not (pt_val (pe_call G_all_within (hr.mono (by omega)) (by rfl) g_all_within k_all_within b_all_within .nil pass0 (pa_cons (pv 1) (pa_cons (pe_un un_neg (pe_glob (v := .int 20) (by rfl) T.g_LARGEST_COEFFICIENT ⟨_, rfl⟩)) (pa_cons (pe_glob (v := .int 20) (by rfl) T.g_LARGEST_COEFFICIENT ⟨_, rfl⟩) pa_nil)))))) (pss_one (ps_ret (pe_lst (pa_cons (pe_un un_neg pe_int) pa_nil)))) pss_nil)
        (pss_cons (ps_if (pt_val (pe_call G_can_be_parted (hr.mono (by omega)) (by rfl) g_can_be_parted k_can_be_parted b_can_be_parted .nil pass0 (pa_cons (pe_op op_cat (pv 1) (pe_lst (pa_cons pe_int pa_nil))) pa_nil))) (pss_one (ps_ret (pe_lst (pa_cons (pe_un un_neg pe_int) pa_nil)))) pss_nil)
        (pss_cons (ps_fld (pv 0) (pv 1) rfl)
        (pss_cons (ps_fld (pv 0) (pe_lst pa_nil) rfl)
        (pss_one (ps_ret (pe_lst (pa_cons (pe_call G_count_real_roots (hr.mono (by omega)) (by rfl) g_count_real_roots k_count_real_roots b_count_real_roots .nil pass0 (pa_cons (pv 1) pa_nil)) pa_nil))))))))), ?_⟩
  have low : ∀ (H1 : Hp), Same H H1 → ∀ (z : Int), Fin g H C ob na Q (m, [z]) → ∀ o, H1 o = none → Q (.ref o) (upd H1 o (.lst [.int z])) := fun H1 s1 z qq o no => fin_new (out := [z]) qq hks s1 no
  refine ⟨_, rfl, r, _, rfl, .inl (LI.seq lr), _, _, rfl, rfl, _, rfl, ?_⟩
  by_cases h2 : 2 ≤ row.length
  · have e : decide ((2 : Int) ≤ ((row.map V.int).length : Int)) = true := decide_eq_true (by rw [List.length_map]; omega)
    rw [e]
    refine iteT ⟨_, _, rfl, rfl, _, rfl, ?_⟩
    by_cases h4 : row.length ≤ 4
    · have e : decide (((row.map V.int).length : Int) ≤ 4) = true := decide_eq_true (by rw [List.length_map]; omega)
      rw [e]
      refine iteF ⟨_, rfl, 20, rfl, r, row, _, _, rfl, lr, by omega, fun H1 s1 => ⟨_, rfl, ?_⟩⟩
      cases hw : withinB row (-20) 20 with
      | false =>
        have eq0 : fieldM m row = (m, [-1]) := by
          unfold fieldM
          rw [if_neg (fun z => z ⟨h2, h4⟩), if_pos hw]
        rw [eq0] at q
        exact iteT ⟨1, rfl, (by show 1 ≤ sizeLine; decide), fun o no => low H1 s1 _ q o no⟩
      | true =>
        refine iteF ?_
        have hbd : Rf.Bd 20 row := within_bd (M := 20) hw
        refine ⟨_, rfl, (by show 1 ≤ sizeLine; decide), fun o1 n1 => ?_⟩
        have s2 : Same H1 (upd H1 o1 (.lst [.int 1])) := same_new n1
        have l1 : (upd H1 o1 (.lst [.int 1])) o1 = some (.lst [.int 1]) := upd_same
        generalize upd H1 o1 (.lst [.int 1]) = H2 at *
        refine ⟨r, o1, _, _, rfl, rfl, s2 _ _ (s1 _ _ lr), l1, ?_, fun o2 n2 => ?_⟩
        · rw [List.length_map]
          exact Nat.le_of_lt (small1000 (by show _ + 1 ≤ 1000; omega))
        have s3 : Same H2 (upd H2 o2 (.lst (row.map V.int ++ [.int 1]))) := same_new n2
        have l2 : LI (upd H2 o2 (.lst (row.map V.int ++ [.int 1]))) o2 (row ++ [1]) := by
          show (upd H2 o2 _) o2 = _
          rw [upd_same, List.map_append]
          rfl
        generalize upd H2 o2 (.lst (row.map V.int ++ [.int 1])) = H3 at *
        refine ⟨o2, row, rfl, l2, ⟨h2, h4⟩, hbd, fun H4 s4 => ⟨_, rfl, ?_⟩⟩
        have sA : Same H H4 := s1.trans (s2.trans (s3.trans s4))
        cases hp : Rf.canBeParted row with
        | true =>
          have eq0 : fieldM m row = (m, [-3]) := by
            unfold fieldM
            rw [if_neg (fun z => z ⟨h2, h4⟩), if_neg (by rw [hw]; decide), if_pos hp]
          rw [eq0] at q
          exact iteT ⟨3, rfl, (by show 1 ≤ sizeLine; decide), fun o no => low H4 sA _ q o no⟩
        | false =>
          have eq0 : fieldM m row = ((row, []), [(Nf01.reals row : Int)]) := by
            unfold fieldM
            rw [if_neg (fun z => z ⟨h2, h4⟩), if_neg (by rw [hw]; decide), if_neg (by rw [hp]; decide)]
          rw [eq0] at q
          have hF := fld_of ⟨h2, h4⟩ hw hp
          obtain ⟨dx, ca, as, k0, k1, k2, k3, k4, k5⟩ := hks
          have hrob : r ≠ ob := by
            intro z
            rw [← z, lr] at k1
            cases k1
          refine iteF ⟨_, rfl, _, rfl, ob, C, dx, _, rfl, sA _ _ k1, T.cl, T.nC, (by show 2 < 1000; decide), ?_⟩
          rw [kF_putc]
          have u1 : (upd H4 ob (.ins C dx (kF r na))) ob = some (.ins C dx (kF r na)) := upd_same
          refine ⟨Nat.zero_le _, fun o no => ?_⟩
          have v1 := (same_new (o := .lst []) no) _ _ u1
          refine ⟨_, rfl, ob, C, dx, _, rfl, v1, T.cl, T.nN, (by show 2 < 1000; decide), ?_⟩
          rw [kF_putn]
          have hoo : o ≠ ob := by
            intro z
            rw [z, u1] at no
            cases no
          have oH4 : H4 o = none := by rw [upd_ne hoo] at no; exact no
          have w1 : (upd (upd (upd H4 ob (.ins C dx (kF r na))) o (.lst [])) ob (.ins C dx (kF r o))) ob = some (.ins C dx (kF r o)) := upd_same
          have w2 : (upd (upd (upd H4 ob (.ins C dx (kF r na))) o (.lst [])) ob (.ins C dx (kF r o))) o = some (.lst []) := by rw [upd_ne hoo]; exact upd_same
          have keepp : ∀ (b : Addr) (x : HO), b ≠ ob → H4 b = some x → (upd (upd (upd H4 ob (.ins C dx (kF r na))) o (.lst [])) ob (.ins C dx (kF r o))) b = some x := by
            intro b x hb e
            have hbo : b ≠ o := by
              intro z; rw [z, oH4] at e; cases e
            rw [upd_ne hb, upd_ne hbo, upd_ne hb]
            exact e
          have lr5 := keepp r _ hrob (sA _ _ lr)
          generalize upd (upd (upd H4 ob (.ins C dx (kF r na))) o (.lst [])) ob (.ins C dx (kF r o)) = H5 at *
          refine ⟨_, rfl, r, row, rfl, lr5, hF, fun H6 s6 => ⟨(by show 1 ≤ sizeLine; decide), fun p np => ?_⟩⟩
          have np6 : Same H6 (upd H6 p (.lst [.int (Nf01.reals row : Int)])) := same_new np
          have frr : ∀ (b : Addr) (x : HO), b ≠ ob → H b = some x → H6 b = some x := fun b x hb e => s6 _ _ (keepp b x hb (sA _ _ e))
          have pH : H p = none := by
            cases e : H p with
            | none => rfl
            | some x =>
              by_cases hpo : p = ob
              · have := s6 _ _ w1
                rw [hpo, this] at np; cases np
              · rw [frr p x hpo e] at np; cases np
          refine q _ o p (fun b x hb1 _ e => np6 _ _ (frr b x hb1 e)) (.inr (none_of_same sA oH4)) ⟨dx, r, [], ⟨hrg, (fun a ha => by cases ha), k0.2.2.1, (fun z => by obtain ⟨_, _, _, _, gx, f5⟩ := k0; rw [← z, sA _ _ f5] at oH4; cases oH4), (by obtain ⟨_, _, f3, _, gx, f5⟩ := k0; exact ⟨gx, np6 _ _ (frr _ _ f3 f5)⟩)⟩, np6 _ _ (s6 _ _ w1), np6 _ _ (s6 _ _ lr5), np6 _ _ (s6 _ _ w2), rfl, fun i a v ha _ => by cases ha⟩ upd_same pH
    · have e : decide (((row.map V.int).length : Int) ≤ 4) = false := decide_eq_false (by rw [List.length_map]; omega)
      rw [e]
      have eq0 : fieldM m row = (m, [-1]) := by
        unfold fieldM
        rw [if_pos (fun z => h4 z.2)]
      rw [eq0] at q
      exact iteT ⟨1, rfl, (by show 1 ≤ sizeLine; decide), fun o no => low H (Same.refl _) _ q o no⟩
  · have e : decide ((2 : Int) ≤ ((row.map V.int).length : Int)) = false := decide_eq_false (by rw [List.length_map]; omega)
    rw [e]
    have eq0 : fieldM m row = (m, [-1]) := by
      unfold fieldM
      rw [if_pos (fun z => h2 z.1)]
    rw [eq0] at q
    refine iteF ⟨_, rfl, iteT ⟨1, rfl, (by show 1 ≤ sizeLine; decide), fun o no => low H (Same.refl _) _ q o no⟩⟩
abbrev s_answer_number : Stmt := topS 43
abbrev N_answer_number : List Str := ["kept", "handed_in", "above", "below", "places", "one_above", "one_below"]
theorem sc_answer_number : FnScope N_answer_number ["kept", "handed_in"] (defScope s_answer_number) := ⟨rfl, rfl, rfl, by decide +kernel, rfl, by decide +kernel, by decide +kernel⟩
theorem ok_answer_number {f : Addr} {fd : FuncData} (F : Fun K "answer_number" "answer_number" s_answer_number f fd) (B : Bt mg) (T : Tx K mg C) (C1 : CalN P w K mg base 1 "all_within" ["values", "least", "greatest"] spWithin) (C2 : CalN P w K mg base 2 "in_lowest_terms" ["above", "below"] spLow) (C3 : CKeep P w K mg base C) : FnOk P w K mg base CX0 3 f fd ["kept", "handed_in"] (spRow C numberM) := by
  obtain ⟨_, g_all_within, _, G_all_within, k_all_within, b_all_within⟩ := C1
  obtain ⟨_, g_in_lowest_terms, _, G_in_lowest_terms, k_in_lowest_terms, b_in_lowest_terms⟩ := C2
  obtain ⟨_, g_keep, _, G_keep, k_keep, b_keep⟩ := C3
  refine F.ok sc_answer_number (fun vs H Q E h => spRow_len h) (fun cdv A outer s H vs Q E hr h => ?_)
  obtain ⟨g, ob, na, r, m, row, rfl, hks, hst, lr, hrg, hrl, q⟩ := h
  refine ⟨_, (pss_cons (ps_if (pt_cmpR op_ne (pe_callB (show CallR _ _ (rLenK K) from call_len_seq) (by rfl) B.len PySem.boot_len (pa_cons (pv 1) pa_nil)) (pe_op op_mulW pe_int (pe_callB (show CallR _ _ (rLenK K) from call_len_seq) (by rfl) B.len PySem.boot_len (pa_cons (show PE _ _ (tFld K (tVar 0) "coefficients") from pe_fld (pv 0) rfl) pa_nil))) (nomark _)) (pss_one (ps_ret (pe_lst (pa_cons (pe_un un_neg pe_int) pa_nil)))) pss_nil)
        (pss_cons (ps_set (i := 2) sc_answer_number.nd rfl (Or.inl rfl) (pe_sl2 (lo := 0) (pv 1)))
        (pss_cons (ps_set (i := 3) sc_answer_number.nd rfl (Or.inl rfl) (pe_sl2 (lo := 1) (pv 1)))
        (pss_cons (ps_if (pt_not (pt_val (pe_call G_all_within (hr.mono (by omega)) (by rfl) g_all_within k_all_within b_all_within .nil pass0 (pa_cons (pv 2) (pa_cons (pe_un un_neg (pe_glob (v := .int 1000) (by rfl) T.g_LARGEST_HANDED_IN ⟨_, rfl⟩)) (pa_cons (pe_glob (v := .int 1000) (by rfl) T.g_LARGEST_HANDED_IN ⟨_, rfl⟩) pa_nil)))))) (pss_one (ps_ret (pe_lst (pa_cons (pe_un un_neg pe_int) pa_nil)))) pss_nil)
        (pss_cons (ps_if (pt_not (pt_val (pe_call G_all_within (hr.mono (by omega)) (by rfl) g_all_within k_all_within b_all_within .nil pass0 (pa_cons (pv 3) (pa_cons pe_int (pa_cons (pe_glob (v := .int 1000) (by rfl) T.g_LARGEST_HANDED_IN ⟨_, rfl⟩) pa_nil)))))) (pss_one (ps_ret (pe_lst (pa_cons (pe_un un_neg pe_int) pa_nil)))) pss_nil)
        (pss_cons (ps_set (i := 4) sc_answer_number.nd rfl (Or.inl rfl) (pe_lst pa_nil))
        (pss_cons (ps_for PassesOwn.never rfl (pi_zip (by rfl) B.zip (pa_cons (pv 2) (pa_cons (pv 3) pa_nil))) (pg_tup rfl (pgs_cons (pg_name (i := 5) sc_answer_number.nd rfl (Or.inl rfl)) (pgs_cons (pg_name (i := 6) sc_answer_number.nd rfl (Or.inl rfl)) pgs_nil))) (pss_one (ps_expr (pe_bm PySem.F.plainAttrs_list PySem.F.slot_list_extend PySem.F.type_list_extend mt_extend (pv 4) (pa_cons (pe_call G_in_lowest_terms (hr.mono (by omega)) (by rfl) g_in_lowest_terms k_in_lowest_terms b_in_lowest_terms .nil pass0 (pa_cons (pv 5) (pa_cons (pv 6) pa_nil))) pa_nil)))))
        (pss_one (ps_ret (pe_call G_keep (hr.mono (by omega)) (by rfl) g_keep k_keep b_keep .nil pass0 (pa_cons (pv 0) (pa_cons (pv 4) pa_nil)))))))))))), ?_⟩
  have low : ∀ (H1 : Hp), Same H H1 → ∀ (z : Int), Fin g H C ob na Q (m, [z]) → ∀ o, H1 o = none → Q (.ref o) (upd H1 o (.lst [.int z])) := fun H1 s1 z qq o no => fin_new (out := [z]) qq hks s1 no
  have hks' := hks
  have h4 := hst.fld.deg.2
  have h2 := hst.fld.deg.1
  obtain ⟨dx, ca, as, k0, k1, k2, k3, k4, k5⟩ := hks
  refine ⟨_, rfl, r, _, rfl, .inl (LI.seq lr), _, rfl, ob, C, dx, _, _, rfl, k1, T.cl, T.nC, kF_c ca na, ca, _, rfl, .inl (LI.seq k2), _, _, rfl, rfl, wide_mul (a := 2) (b := 10) (by decide) (by rw [Int.natAbs_natCast, List.length_map]; omega) (by decide) (by decide) (by decide), rfl, _, rfl, ?_⟩
  by_cases hl : row.length = 2 * m.1.length
  · have e : (!decide (V.int ((row.map V.int).length : Int) = V.int (2 * ((m.1.map V.int).length : Int)))) = false := by
      rw [List.length_map, List.length_map, hl]
      simp
    rw [e]
    refine iteF ⟨_, rfl, r, _, rfl, LI.seq lr, fun o1 n1 => ?_⟩
    have e0 : ev2 ((row.map V.int).drop 0) = (ev2 row).map V.int := by rw [List.drop_zero, ev2_map]
    have e1 : ev2 ((row.map V.int).drop 1) = (ev2 (row.drop 1)).map V.int := by rw [← List.map_drop, ev2_map]
    rw [e0]
    have s1 : Same H (upd H o1 (.lst ((ev2 row).map V.int))) := same_new n1
    have l1 : LI (upd H o1 (.lst ((ev2 row).map V.int))) o1 (ev2 row) := upd_same
    generalize upd H o1 (.lst ((ev2 row).map V.int)) = H1 at *
    refine ⟨_, rfl, r, _, rfl, LI.seq (s1 _ _ lr), fun o2 n2 => ?_⟩
    rw [e1]
    have s2 : Same H1 (upd H1 o2 (.lst ((ev2 (row.drop 1)).map V.int))) := same_new n2
    have l2 : LI (upd H1 o2 (.lst ((ev2 (row.drop 1)).map V.int))) o2 (ev2 (row.drop 1)) := upd_same
    generalize upd H1 o2 (.lst ((ev2 (row.drop 1)).map V.int)) = H2 at *
    obtain ⟨el1, el2⟩ := ev2_len hl
    refine ⟨_, rfl, 1000, rfl, o1, _, _, _, rfl, s2 _ _ l1, by omega, fun H3 s3 => ⟨_, rfl, ?_⟩⟩
    cases hw : withinB (ev2 row) (-1000) 1000 with
    | false =>
      have eq0 : numberM m row = (m, [-1]) := by
        unfold numberM
        rw [if_neg (fun z => z hl), if_pos hw]
      rw [eq0] at q
      exact iteT ⟨1, rfl, (by show 1 ≤ sizeLine; decide), fun o no => low H3 (s1.trans (s2.trans s3)) _ q o no⟩
    | true =>
      refine iteF ⟨_, rfl, o2, _, _, _, rfl, s3 _ _ l2, by omega, fun H4 s4 => ⟨_, rfl, ?_⟩⟩
      cases hw2 : withinB (ev2 (row.drop 1)) 1 1000 with
      | false =>
        have eq0 : numberM m row = (m, [-1]) := by
          unfold numberM
          rw [if_neg (fun z => z hl), if_neg (by rw [hw]; decide), if_pos hw2]
        rw [eq0] at q
        exact iteT ⟨1, rfl, (by show 1 ≤ sizeLine; decide), fun o no => low H4 (s1.trans (s2.trans (s3.trans s4))) _ q o no⟩
      | true =>
        have eq0 : numberM m row = putM m (numOf row) := by
          unfold numberM
          rw [if_neg (fun z => z hl), if_neg (by rw [hw]; decide), if_neg (by rw [hw2]; decide)]
        rw [eq0] at q
        refine iteF ⟨Nat.zero_le _, fun o no => ?_⟩
        have s5 : Same H4 (upd H4 o (.lst [])) := same_new no
        have lo : (upd H4 o (.lst [])) o = some (.lst []) := upd_same
        have l1' : LI H4 o1 (ev2 row) := s4 _ _ (s3 _ _ (s2 _ _ l1))
        have l2' : LI H4 o2 (ev2 (row.drop 1)) := s4 _ _ (s3 _ _ l2)
        have sA : Same H H4 := s1.trans (s2.trans (s3.trans s4))
        refine ⟨_, rfl, _, rfl, o1, o2, _, _, rfl, LI.seq (s5 _ _ l1'), LI.seq (s5 _ _ l2'), ?_⟩
        refine for_it (walk_zip (K := K) (a := o1) (b := o2) (xs := (ev2 row).map V.int) (ys := (ev2 (row.drop 1)).map V.int) (n := m.1.length) (by rw [List.length_map, List.length_map, el1, el2, Nat.min_self])) (fun i σ H' => ∃ y5 y6, σ = [some (.ref ob), some (.ref r), some (.ref o1), some (.ref o2), some (.ref o), y5, y6] ∧ Same H4 H' ∧ LI H' o (Rf.placesQ ((numOf row).take i))) ⟨none, none, rfl, s5, lo⟩ (fun i σ H' _ ⟨_, _, _, u1, _⟩ => ⟨LI.seq (u1 _ _ l1'), LI.seq (u1 _ _ l2')⟩) ?_ ?_
        · rintro i x σ H' H5 hi ⟨y5, y6, rfl, u1, ho⟩ ⟨T', z1, z2, rfl, nT, rfl, hz1, hz2⟩
          obtain ⟨x1, hx1, rfl⟩ := int_at hz1
          obtain ⟨x2, hx2, rfl⟩ := int_at hz2
          have hx2b := List.all_eq_true.mp hw2 x2 (mem_of_at hx2)
          simp at hx2b
          have u2 : Same H' (upd H' T' (.tup [.int x1, .int x2])) := same_new nT
          have hnum : (numOf row)[i]? = some ((x1 : Rat) / (x2 : Rat)) := by
            unfold numOf
            rw [List.getElem?_map, (List.getElem?_zip_eq_some (z := (x1, x2))).mpr ⟨hx1, hx2⟩]
            rfl
          refine ⟨T', _, rfl, .inl (.inl upd_same), rfl, _, _, rfl, _, _, rfl, rfl, ?_⟩
          refine ⟨_, rfl, .inl ⟨rfl, _, LI.seq (u2 _ _ ho)⟩, ?_⟩
          refine ⟨_, rfl, _, rfl, x1, x2, rfl, by omega, ?_, fun H6 p u3 lp => ?_⟩
          · have : x2.natAbs < 2 ^ 10 := by omega
            exact lt_pow this (by decide)
          refine ⟨o, p, _, _, rfl, rfl, u3 _ _ (u2 _ _ ho), lp, ?_, ?_⟩
          · rw [List.length_map, List.length_map, places_length, List.length_take]
            have h9 : (Rf.frac ((x1 : Rat) / (x2 : Rat))).length = 2 := rfl
            rw [h9]
            exact Nat.le_of_lt (small1000 (by omega))
          · refine ⟨some (.int x1), some (.int x2), rfl, same_store no (u1.trans (u2.trans u3)), ?_⟩
            show (upd H6 o _) o = _
            rw [upd_same, List.take_add_one, hnum]
            unfold Rf.placesQ
            rw [List.flatMap_append, List.map_append]
            rfl
        · rintro σ H' ⟨y5, y6, rfl, u1, ho⟩
          have hnl := numOf_len hl
          rw [List.take_of_length_le (by omega)] at ho
          exact ⟨_, rfl, _, rfl, g, ob, na, o, m, _, rfl, hks'.same (sA.trans u1), hst.ne.1, hst.ne.2, hst.few, ho, hks'.ng (none_of_same sA no), ne_of_len hnl h2, by omega, Fin.mono q (sA.trans u1)⟩
  · have e : (!decide (V.int ((row.map V.int).length : Int) = V.int (2 * ((m.1.map V.int).length : Int)))) = true := by
      have : ¬ V.int ((row.map V.int).length : Int) = V.int (2 * ((m.1.map V.int).length : Int)) := fun z => hl (by
        have := V.int.inj z
        rw [List.length_map, List.length_map] at this
        omega)
      rw [decide_eq_false this]; rfl
    rw [e]
    have eq0 : numberM m row = (m, [-1]) := by
      unfold numberM
      rw [if_pos hl]
    rw [eq0] at q
    exact iteT ⟨1, rfl, (by show 1 ≤ sizeLine; decide), fun o no => low H (Same.refl _) _ q o no⟩
end
end Rp

set_option Elab.async false
set_option linter.all false
set_option maxRecDepth 100000
set_option maxHeartbeats 2000000
set_option exponentiation.threshold 1000000
namespace Rp
open PySem PySem.Spec PyProof.Rows L2
def nameM (c : Int) : Stt → List Rf.L → Res := if c = 2 then nPlus else if c = 3 then nMinus else if c = 4 then nTimes else if c = 5 then nBy else if c = 6 then nTold else if c = 7 then nNorm else if c = 8 then nTrace else if c = 9 then nPoly else if c = 10 then nLeast else if c = 11 then nWhole else if c = 12 then nSigns else if c = 13 then nAlike else nDrop
def ar (c : Int) : Nat := if c ≤ 5 then 2 else if c ≤ 12 then 1 else if c = 13 then 2 else 0
def withM (c : Int) (m : Stt) (names : List Int) : Res := if (names.all fun z => decide (z < (m.2.length : Int))) = true then nameM c m (names.map fun z => m.2.getD z.toNat []) else (m, [-2])
/-- the module's dicts -/
structure Tn (P : Program) (w : World) (K : PySem.W.Frag) (mg : Str → Option Value) (base : Heap) (C : Addr) where
  dN : Addr
  eN : Array DictEntry
  nN : Nat
  d_CALLS_WITH_NAMES : IDict K dN eN nN
  g_CALLS_WITH_NAMES : mg "CALLS_WITH_NAMES" = some (.ref dN)
  calN : ∀ c : Int, 2 ≤ c → c ≤ 14 → ∃ f, findBy Value.isInt eN c = some (.ref f) ∧ Cal P w K mg base 9 f ["kept", "chosen"] (spNm C (nameM c) (ar c))
def spWith (C : Addr) : Sp := fun vs H Q _ => ∃ (g ob na nm : Addr) (m : Stt) (c : Int) (names : List Int), vs = [.ref ob, .int c, .ref nm] ∧ KS g H C ob na m.1 m.2 ∧ StOk m ∧ 2 ≤ c ∧ c ≤ 14 ∧ LI H nm names ∧ names.length = ar c ∧ (∀ z ∈ names, 0 ≤ z) ∧ Fin g H C ob na Q (withM c m names)
theorem ar_le (c : Int) : ar c ≤ 2 := by
  unfold ar
  split
  · omega
  · split
    · omega
    · split <;> omega
section
variable {P : Program} {w : World} {K : PySem.W.Frag} {mg : Str → Option Value} {base : Heap} {C : Addr}
abbrev s_answer_with_names : Stmt := topS 60
abbrev N_answer_with_names : List Str := ["kept", "call", "names", "chosen", "name"]
theorem sc_answer_with_names : FnScope N_answer_with_names ["kept", "call", "names"] (defScope s_answer_with_names) := ⟨rfl, rfl, rfl, by decide +kernel, rfl, by decide +kernel, by decide +kernel⟩
theorem ok_answer_with_names {f : Addr} {fd : FuncData} (F : Fun K "answer_with_names" "answer_with_names" s_answer_with_names f fd) (B : Bt mg) (U : Tx K mg C) (T : Tn P w K mg base C) : FnOk P w K mg base CX0 10 f fd ["kept", "call", "names"] (spWith C) := by
  have A_CALLS_WITH_NAMES : ∀ (f : Addr) (sp : Sp), (∃ ps, Cal P w K mg base 9 f ps sp) → ∃ ps, Cal P w K mg base 9 f ps sp := fun _ _ h => h
  refine F.ok sc_answer_with_names (fun vs H Q E h => ?_) (fun cdv A outer s H vs Q E hr h => ?_)
  · obtain ⟨g, ob, na, nm, m, c, names, rfl, _⟩ := h
    rfl
  · obtain ⟨g, ob, na, nm, m, c, names, rfl, hks, hst, hc1, hc2, ln, hnl, hn0, q⟩ := h
    refine ⟨_, (pss_cons (ps_if (pt_not (pt_val (pe_callB (cr_all rfl) (by rfl) B.all (by decide +kernel) (pa_cons (pe_lc (own := [("name", 4)]) (g := gName 4) (tt := tYes) rfl sc_answer_with_names.nd (pi_list (pv 2)) (blkOk_by (own := [("name", 4)]) (N := N_answer_with_names) (sc := defScope s_answer_with_names) (by decide +kernel)) (fun _ _ _ _ _ => (pg_name (i := 4) sc_answer_with_names.nd rfl (Or.inl rfl))) (fun _ _ _ _ _ => pts_nil) (fun _ _ _ _ _ => (pe_cmpR op_lt (pv 4) (pe_callB (show CallR _ _ (rLenK K) from call_len_seq) (by rfl) B.len PySem.boot_len (pa_cons (show PE _ _ (tFld K (tVar 0) "numbers") from pe_fld (pv 0) rfl) pa_nil)) (nomark _)))) pa_nil)))) (pss_one (ps_ret (pe_lst (pa_cons (pe_un un_neg pe_int) pa_nil)))) pss_nil)
        (pss_cons (ps_setLc (own := [("name", 4)]) (i := 3) (g := gName 4) (tt := tYes) rfl sc_answer_with_names.nd rfl rfl (sw_true rfl rfl rfl (by decide +kernel)) (pi_list (pv 2)) (blkOk_by (own := [("name", 4)]) (N := N_answer_with_names) (sc := defScope s_answer_with_names) (by decide +kernel)) (fun _ _ _ _ _ => (pg_name (i := 4) sc_answer_with_names.nd rfl (Or.inl rfl))) (fun _ _ _ _ _ => pts_nil) (fun _ _ _ _ _ => (pe_ix (show IxR _ (rIxL K) from ix_list) (show PE _ _ (tFld K (tVar 0) "numbers") from pe_fld (pv 0) rfl) (pv 4) (fun _ _ => rfl))))
        (pss_one (ps_ret (pe_callR A_CALLS_WITH_NAMES (hr.mono (by omega)) (pe_ix (ix_id T.d_CALLS_WITH_NAMES) (pe_glob (v := .ref _) (by rfl) T.g_CALLS_WITH_NAMES rfl) (pv 1) (fun _ _ => rfl)) (pa_cons (pv 0) (pa_cons (pv 3) pa_nil))))))), ?_⟩
    have hks' := hks
    obtain ⟨dx, ca, as, k0, k1, k2, k3, k4, k5⟩ := hks
    have hal := ar_le c
    refine ⟨_, rfl, nm, rfl, ⟨_, LI.seq ln⟩, fun D nD => ?_⟩
    refine lc_gen (walk_list (K := K) (a := nm) (xs := names.map V.int)) nD (by rw [List.length_map]; exact small1000 (by omega)) (fun i => .bl (decide (names.getD i 0 < (m.2.length : Int)))) (fun _ => true) (fun H4 s5 => LI.seq (s5 _ _ ln)) ?_ (fun H4 s4 hD => ?_)
    · rintro i x H4 H5 hi s5 ⟨rfl, hx⟩ R RY hk1 hk2
      obtain ⟨z, hz, rfl⟩ := int_at hx
      have e1 : names.getD i 0 = z := by rw [List.getD_eq_getElem?_getD, hz]; rfl
      rw [e1] at hk1
      have hk := hk1 rfl _ (Same.refl _)
      refine ⟨rfl, _, rfl, _, rfl, ob, C, dx, _, _, rfl, s5 _ _ k1, U.cl, U.nN, kF_n ca na, na, _, rfl, .inl (.inl (.inl (s5 _ _ k3))), _, _, rfl, rfl, ?_⟩
      rw [List.length_map, k4]
      exact hk
    · rw [filter_all, List.length_map] at hD
      refine ⟨D, names.map (fun z => decide (z < (m.2.length : Int))), rfl, .inl (.inl ?_), _, rfl, ?_⟩
      · rw [← range_map_get (fun z => decide (z < (m.2.length : Int))) 0 names, List.map_map]
        exact hD
      · have e : (names.map (fun z => decide (z < (m.2.length : Int)))).all id = names.all fun z => decide (z < (m.2.length : Int)) := by
          rw [List.all_map]; rfl
        rw [e]
        cases hall : names.all fun z => decide (z < (m.2.length : Int)) with
        | false =>
          have eq0 : withM c m names = (m, [-2]) := if_neg (by rw [hall]; decide)
          rw [eq0] at q
          exact iteT ⟨2, rfl, (by show 1 ≤ sizeLine; decide), fun o no => fin_new (out := [-2]) q hks' s4 no⟩
        | true =>
          have eq0 : withM c m names = nameM c m (names.map fun z => m.2.getD z.toNat []) := if_pos hall
          rw [eq0] at q
          have hlt : ∀ z ∈ names, 0 ≤ z ∧ z.toNat < m.2.length := fun z hz => by
            have h1 := List.all_eq_true.mp hall z hz
            simp at h1
            have h2 := hn0 z hz
            exact ⟨h2, by omega⟩
          refine iteF ⟨_, rfl, nm, rfl, ⟨_, LI.seq (s4 _ _ ln)⟩, fun D2 nD2 => ?_⟩
          have k3' := s4 _ _ k3
          refine lc_gen (walk_list (K := K) (a := nm) (xs := names.map V.int)) nD2 (by rw [List.length_map]; exact small1000 (by omega)) (fun i => .ref (as.getD (names.getD i 0).toNat 0)) (fun _ => true) (fun H5 s5 => LI.seq (s5 _ _ (s4 _ _ ln))) ?_ (fun H5 s5 hD2 => ?_)
          · rintro i x H6 H7 hi s5 ⟨rfl, hx⟩ R RY hk1 hk2
            obtain ⟨z, hz, rfl⟩ := int_at hx
            have e1 : names.getD i 0 = z := by rw [List.getD_eq_getElem?_getD, hz]; rfl
            obtain ⟨g1, g2⟩ := hlt z (mem_of_at hz)
            have hza : as[z.toNat]? = some (as[z.toNat]'(by omega)) := List.getElem?_eq_getElem (by omega)
            have e2 : as.getD z.toNat 0 = as[z.toNat]'(by omega) := by rw [List.getD_eq_getElem?_getD, hza]; rfl
            rw [e1, e2] at hk1
            have hk := hk1 rfl _ (Same.refl _)
            refine ⟨rfl, _, rfl, ob, C, dx, _, _, rfl, s5 _ _ (s4 _ _ k1), U.cl, U.nN, kF_n ca na, _, rfl, na, _, z, .ref (as[z.toNat]'(by omega)), rfl, rfl, .inl (.inl (s5 _ _ k3')), ?_, hk⟩
            have ez : ((z.toNat : Nat) : Int) = z := by omega
            have hat : atI (as.map V.ref) ((z.toNat : Nat) : Int) = some (.ref (as[z.toNat]'(by omega))) := atI_nat (by rw [List.getElem?_map, hza]; rfl)
            exact (congrArg (atI (as.map V.ref)) ez).symm.trans hat
          · rw [filter_all, List.length_map] at hD2
            obtain ⟨fa, hfa, hcal⟩ := T.calN c hc1 hc2
            have sA : Same H H5 := s4.trans s5
            refine ⟨_, rfl, c, .ref fa, .ref fa, rfl, rfl, hfa, rfl, fa, _, rfl, ⟨_, hcal⟩, _, rfl, _, rfl, g, ob, na, D2, m, _, rfl, hks'.same sA, hst, ?_, by rw [List.length_map]; exact hnl, ?_, Fin.mono q sA⟩
            · refine ⟨(List.range names.length).map fun i => as.getD (names.getD i 0).toNat 0, ?_, by simp, fun i x y hx hy => ?_⟩
              · rw [List.map_map]
                exact hD2
              · rw [List.map_map] at hy
                rw [List.getElem?_map] at hx hy
                cases hz : names[i]? with
                | none => rw [hz] at hy; cases hy
                | some z =>
                  rw [hz] at hy
                  have hi : i < names.length := (List.getElem?_eq_some_iff.mp hz).1
                  rw [List.getElem?_range hi] at hx
                  have e1 : names.getD i 0 = z := by rw [List.getD_eq_getElem?_getD, hz]; rfl
                  obtain ⟨g1, g2⟩ := hlt z (mem_of_at hz)
                  have hx2 : as.getD z.toNat 0 = x := by
                    have h9 : as.getD (names.getD i 0).toNat 0 = x := Option.some.inj hx
                    rw [e1] at h9
                    exact h9
                  have hy2 : Rf.placesQ (m.2.getD z.toNat []) = y := Option.some.inj hy
                  have hza : as[z.toNat]? = some x := by
                    rw [List.getElem?_eq_getElem (by omega), ← hx2, List.getD_eq_getElem?_getD, List.getElem?_eq_getElem (by omega)]
                    rfl
                  have hzm : m.2[z.toNat]? = some (m.2.getD z.toNat []) := by
                    rw [List.getElem?_eq_getElem g2, List.getD_eq_getElem?_getD, List.getElem?_eq_getElem g2]
                    rfl
                  rw [← hy2]
                  exact sA _ _ (k5 _ x _ hza hzm)
            · intro u hu
              obtain ⟨z, hz, rfl⟩ := List.mem_map.mp hu
              obtain ⟨g1, g2⟩ := hlt z hz
              have : m.2.getD z.toNat [] ∈ m.2 := by
                rw [List.getD_eq_getElem?_getD, List.getElem?_eq_getElem g2]
                exact List.getElem_mem g2
              exact hst.all _ this
end
end Rp

set_option Elab.async false
set_option linter.all false
set_option maxRecDepth 100000
set_option maxHeartbeats 2000000
set_option exponentiation.threshold 1000000
namespace Rp
open PySem PySem.Spec PyProof.Rows L2
/-! ### the list of calls -/
def OkC (c : List (List Int)) : Prop := (∃ p r, c = [[p], r] ∧ (p = 0 ∨ p = 1)) ∨ (∃ p xs, c = [p :: xs] ∧ 2 ≤ p ∧ p ≤ 14 ∧ xs.length = ar p ∧ ∀ z ∈ xs, 0 ≤ z)
def stepM (m : Stt) (c : List (List Int)) : Res := match c with
  | [[p], r] => if p = 0 then fieldM m r else numberM m r
  | [p :: xs] => withM p m xs
  | _ => (m, [])
def tlM : Stt → List (List (List Int)) → List Int
  | _, [] => []
  | m, c :: cs => ((stepM m c).2.length : Int) :: ((stepM m c).2 ++ tlM (stepM m c).1 cs)
theorem shape_row {p : Int} (h : p = 0 ∨ p = 1) : PyNf01.shape p = some (0, 1) := by
  rcases h with rfl | rfl <;> rfl
theorem shape_names {p : Int} (h1 : 2 ≤ p) (h2 : p ≤ 14) : PyNf01.shape p = some (ar p, 0) := by
  have : p = 2 ∨ p = 3 ∨ p = 4 ∨ p = 5 ∨ p = 6 ∨ p = 7 ∨ p = 8 ∨ p = 9 ∨ p = 10 ∨ p = 11 ∨ p = 12 ∨ p = 13 ∨ p = 14 := by omega
  rcases this with rfl | rfl | rfl | rfl | rfl | rfl | rfl | rfl | rfl | rfl | rfl | rfl | rfl <;> rfl
theorem parse_end {f : Nat} {raw : List (List (List Int))} (h : PyFlat.calls PyNf01.shape f [] = some raw) : raw = [] := by
  cases f <;> exact (Option.some.inj h).symm
theorem parse_step {f : Nat} {l : List Int} {i : Nat} {raw : List (List (List Int))} (hi : i < l.length) (h : PyFlat.calls PyNf01.shape f (l.drop i) = some raw) (hok : ∀ c ∈ raw, OkC c) :
    ∃ (p : Int) (c : List (List Int)) (cs : List (List (List Int))) (f' j : Nat), raw = c :: cs ∧ l[i]? = some p ∧ i < j ∧ j ≤ l.length ∧ PyFlat.calls PyNf01.shape f' (l.drop j) = some cs ∧
      ((∃ n : Int, (p = 0 ∨ p = 1) ∧ l[i + 1]? = some n ∧ 0 ≤ n ∧ j = i + 2 + n.toNat ∧ c = [[p], (l.drop (i + 2)).take n.toNat]) ∨ (2 ≤ p ∧ p ≤ 14 ∧ j = i + 1 + ar p ∧ c = [p :: (l.drop (i + 1)).take (ar p)])) := by
  have hd : l.drop i = l[i] :: l.drop (i + 1) := List.drop_eq_getElem_cons hi
  rw [hd] at h
  have hli : l[i]? = some l[i] := List.getElem?_eq_getElem hi
  generalize l[i] = p at *
  cases f with
  | zero => cases h
  | succ f =>
    have h1 : (match PyFlat.call PyNf01.shape (p :: l.drop (i + 1)) with
      | none => none
      | some (c, t) => match PyFlat.calls PyNf01.shape f t with
        | none => none
        | some cs => some (c :: cs)) = some raw := h
    cases hc : PyFlat.call PyNf01.shape (p :: l.drop (i + 1)) with
    | none => rw [hc] at h1; cases h1
    | some ct =>
      obtain ⟨c, t⟩ := ct
      rw [hc] at h1
      dsimp only at h1
      cases hcs : PyFlat.calls PyNf01.shape f t with
      | none => rw [hcs] at h1; cases h1
      | some cs =>
        rw [hcs] at h1
        have er : raw = c :: cs := (Option.some.inj h1).symm
        subst er
        have hcall : (match PyNf01.shape p with
          | none => none
          | some (n, k) => if (l.drop (i + 1)).length < n then none else match PyFlat.rows k ((l.drop (i + 1)).drop n) with
            | none => none
            | some (xs, t) => some ((p :: (l.drop (i + 1)).take n) :: xs, t)) = some (c, t) := hc
        have hokc := hok c (List.mem_cons_self ..)
        cases hsh : PyNf01.shape p with
        | none => rw [hsh] at hcall; cases hcall
        | some nk =>
          obtain ⟨n, k⟩ := nk
          rw [hsh] at hcall
          dsimp only at hcall
          by_cases hlt : (l.drop (i + 1)).length < n
          · rw [if_pos hlt] at hcall; cases hcall
          · rw [if_neg hlt] at hcall
            cases hrows : PyFlat.rows k ((l.drop (i + 1)).drop n) with
            | none => rw [hrows] at hcall; cases hcall
            | some xt =>
              obtain ⟨xs, t'⟩ := xt
              rw [hrows] at hcall
              have e1 := Option.some.inj hcall
              have e2 : (p :: (l.drop (i + 1)).take n) :: xs = c := congrArg Prod.fst e1
              have e3 : t' = t := congrArg Prod.snd e1
              subst e3
              have hp : (p = 0 ∨ p = 1) ∨ (2 ≤ p ∧ p ≤ 14) := by
                rcases hokc with ⟨p', r, hc', hp'⟩ | ⟨p', xs', hc', h1', h2', _⟩
                · rw [← e2] at hc'
                  have := (List.cons.inj (List.cons.inj hc').1).1
                  rw [this]; exact .inl hp'
                · rw [← e2] at hc'
                  have := (List.cons.inj (List.cons.inj hc').1).1
                  rw [this]; exact .inr ⟨h1', h2'⟩
              rcases hp with hp | ⟨hp1, hp2⟩
              · rw [shape_row hp] at hsh
                have en : n = 0 := (congrArg Prod.fst (Option.some.inj hsh)).symm
                have ek : k = 1 := (congrArg Prod.snd (Option.some.inj hsh)).symm
                subst en ek
                rw [List.drop_zero] at hrows
                have hr1 : (match PyFlat.row (l.drop (i + 1)) with
                  | none => none
                  | some (x, s) => some ([x], s)) = some (xs, t') := by
                  refine Eq.trans ?_ hrows
                  show _ = (match PyFlat.row (l.drop (i + 1)) with
                    | none => none
                    | some (x, s) => match PyFlat.rows 0 s with
                      | none => none
                      | some (xs, t) => some (x :: xs, t))
                  cases PyFlat.row (l.drop (i + 1)) with
                  | none => rfl
                  | some _ => rfl
                cases hD : l.drop (i + 1) with
                | nil => rw [hD] at hr1; cases hr1
                | cons n0 r' =>
                  have hi1 : i + 1 < l.length := by
                    have := congrArg List.length hD
                    rw [List.length_drop, List.length_cons] at this
                    omega
                  have hD2 := List.drop_eq_getElem_cons hi1
                  rw [hD] at hD2
                  have en0 : n0 = l[i + 1] := (List.cons.inj hD2).1
                  have er' : r' = l.drop (i + 2) := (List.cons.inj hD2).2
                  rw [hD] at hr1
                  have hrow : PyFlat.row (n0 :: r') = if 0 ≤ n0 ∧ n0.toNat ≤ r'.length then some (r'.take n0.toNat, r'.drop n0.toNat) else none := rfl
                  rw [hrow] at hr1
                  by_cases hn0 : 0 ≤ n0 ∧ n0.toNat ≤ r'.length
                  · rw [if_pos hn0] at hr1
                    have e4 := Option.some.inj hr1
                    have e5 : [r'.take n0.toNat] = xs := congrArg Prod.fst e4
                    have e6 : r'.drop n0.toNat = t' := congrArg Prod.snd e4
                    have hrl : r'.length = l.length - (i + 2) := by rw [er', List.length_drop]
                    refine ⟨p, c, cs, f, i + 2 + n0.toNat, rfl, hli, by omega, by omega, ?_, .inl ⟨n0, hp, ?_, hn0.1, rfl, ?_⟩⟩
                    · rw [← List.drop_drop, ← er', e6]
                      exact hcs
                    · rw [List.getElem?_eq_getElem hi1, en0]
                    · rw [← e2, ← e5, er', List.take_zero]
                  · rw [if_neg hn0] at hr1; cases hr1
              · rw [shape_names hp1 hp2] at hsh
                have en : n = ar p := (congrArg Prod.fst (Option.some.inj hsh)).symm
                have ek : k = 0 := (congrArg Prod.snd (Option.some.inj hsh)).symm
                subst en ek
                have e4 := Option.some.inj hrows
                have e5 : [] = xs := congrArg Prod.fst e4
                have e6 : (l.drop (i + 1)).drop (ar p) = t' := congrArg Prod.snd e4
                rw [List.length_drop] at hlt
                refine ⟨p, c, cs, f, i + 1 + ar p, rfl, hli, by omega, by omega, ?_, .inr ⟨hp1, hp2, rfl, ?_⟩⟩
                · rw [← List.drop_drop, e6]
                  exact hcs
                · rw [← e2, ← e5]
theorem cut_mid (xs : List V) (lo hi : Nat) (h1 : lo ≤ hi) (h2 : hi ≤ xs.length) : cutV xs (some (lo : Int)) (some (hi : Int)) = (xs.drop lo).take (hi - lo) := by
  unfold cutV
  rw [HT.sIx_nat, HT.sIx_nat, Nat.min_eq_left h2, Nat.min_eq_left (by omega)]
theorem irr_ten : Rf.Irr [1, 0] := by
  intro x h
  have h1 : (0 : Rat) ≤ x * x := by
    rcases Rat.le_total (a := 0) (b := x) with h | h
    · exact Rat.mul_nonneg h h
    · have := Rat.mul_nonneg (a := -x) (b := -x) (by grind) (by grind)
      grind
  have h2 : ((0 : Int) : Rat) * x = 0 := Rat.zero_mul x
  have h3 : ((1 : Int) : Rat) = 1 := rfl
  rw [h2, h3] at h
  grind
theorem st_start : StOk ([1, 0], []) := by
  refine ⟨⟨⟨by decide, by decide⟩, irr_ten, fun z hz => ?_⟩, by decide, fun v hv => by cases hv⟩
  simp only [List.mem_cons, List.not_mem_nil, or_false] at hz
  rcases hz with rfl | rfl <;> decide
theorem withM_ok {m : Stt} (h : StOk m) (c : Int) (names : List Int) (hl : names.length = ar c) (h0 : ∀ z ∈ names, 0 ≤ z) : StOk (withM c m names).1 := by
  unfold withM
  split
  · next hall =>
    have hlt : ∀ z ∈ names, m.2.getD z.toNat [] ∈ m.2 := fun z hz => by
      have h1 := List.all_eq_true.mp hall z hz
      simp at h1
      have h2 := h0 z hz
      have g2 : z.toNat < m.2.length := by omega
      rw [List.getD_eq_getElem?_getD, List.getElem?_eq_getElem g2]
      exact List.getElem_mem g2
    have hus : ∀ u ∈ names.map (fun z => m.2.getD z.toNat []), u.length = m.1.length ∧ Bg u := by
      intro u hu
      obtain ⟨z, hz, rfl⟩ := List.mem_map.mp hu
      exact h.all _ (hlt z hz)
    generalize names.map (fun z => m.2.getD z.toNat []) = us at *
    have hd := h.fld.deg
    have h1 : 1 ≤ m.1.length := by have := hd.1; omega
    have two : ∀ f : Rf.L → Rf.L → Rf.L, (∀ a b, a.length = m.1.length → b.length = m.1.length → (f a b).length = m.1.length) → ∀ a b, us = [a, b] → StOk (putM m (f a b)).1 := by
      intro f hf a b e
      rw [e] at hus
      exact putM_ok h (hf a b (hus a (by simp)).1 (hus b (by simp)).1)
    unfold nameM
    repeat' split
    all_goals first
      | (unfold nPlus; split; exact two (fun a b => Rf.plusR a b) (fun a b ha hb => by rw [Rf.plusR_length _ _ (by rw [ha, hb]), ha]) _ _ rfl; exact h)
      | (unfold nMinus; split; exact two (fun a b => Rf.plusR a (Rf.minusR b)) (fun a b ha hb => by rw [Rf.plusR_length _ _ (by rw [minusR_length, ha, hb]), ha]) _ _ rfl; exact h)
      | (unfold nTimes; split; exact two (fun a b => Rf.timesR m.1 a b) (fun a b ha hb => Rf.times_length h1 _ hb) _ _ rfl; exact h)
      | (unfold nBy; split; (split; exact two (fun a b => Rf.timesR m.1 a (Rf.inverseR m.1 b)) (fun a b ha hb => Rf.times_length h1 _ (inv_length hd hb)) _ _ rfl; exact h); exact h)
      | (unfold nTold; split <;> exact h)
      | (unfold nNorm; split <;> exact h)
      | (unfold nTrace; split <;> exact h)
      | (unfold nPoly; split <;> exact h)
      | (unfold nLeast; split <;> exact h)
      | (unfold nWhole; split <;> exact h)
      | (unfold nSigns; split <;> exact h)
      | (unfold nAlike; split <;> exact h)
      | (unfold nDrop; split; (split; exact h; exact ⟨h.fld, by have := h.few; show m.2.dropLast.length ≤ 8; rw [List.length_dropLast]; omega, fun v hv => h.all v (by rw [List.dropLast_eq_take] at hv; exact List.mem_of_mem_take hv)⟩); exact h)
  · exact h
theorem stepM_names (m : Stt) (p : Int) (xs : List Int) : stepM m [p :: xs] = withM p m xs := by cases xs <;> rfl
theorem stepM_ok {m : Stt} (h : StOk m) {c : List (List Int)} (hc : OkC c) : StOk (stepM m c).1 := by
  rcases hc with ⟨p, r, rfl, hp⟩ | ⟨p, xs, rfl, _, _, hl, h0⟩
  · show StOk (if p = 0 then fieldM m r else numberM m r).1
    split
    · exact fieldM_ok h r
    · exact numberM_ok h r
  · rw [stepM_names]
    exact withM_ok h p xs hl h0
end Rp

set_option Elab.async false
set_option linter.all false
set_option maxRecDepth 100000
set_option maxHeartbeats 2000000
set_option exponentiation.threshold 1000000
namespace Rp
open PySem PySem.Spec PyProof.Rows L2
abbrev s_init : Stmt := inClass (topS 39) 0
theorem sc_init : FnScope ["self"] ["self"] (defScope s_init) := ⟨rfl, rfl, rfl, by decide +kernel, rfl, by decide +kernel, by decide +kernel⟩
def spInit (C : Addr) : Sp := fun vs H Q _ => ∃ (p dx : Addr), vs = [.ref p] ∧ H p = some (.ins C dx []) ∧
  ∀ (H' : Hp) (ca na : Addr), H' p = some (.ins C dx (kF ca na)) → LI H' ca [1, 0] → LI H' na [] → H ca = none → H na = none → (∀ b o, H b = some o → b ≠ p → H' b = some o) → Q .non H'
/-- the module's dicts, whose row is it -/
structure Tm (P : Program) (w : World) (K : PySem.W.Frag) (mg : Str → Option Value) (base : Heap) (C : Addr) where
  fI : Addr
  mk_Kept : Mk K C fI
  g_Kept : mg "Kept" = some (.ref C)
  dR : Addr
  eR : Array DictEntry
  nR : Nat
  d_CALLS_WITH_A_ROW : IDict K dR eR nR
  g_CALLS_WITH_A_ROW : mg "CALLS_WITH_A_ROW" = some (.ref dR)
  dH : Addr
  eH : Array DictEntry
  nH : Nat
  d_HOW_MANY_NAMES : IDict K dH eH nH
  g_HOW_MANY_NAMES : mg "HOW_MANY_NAMES" = some (.ref dH)
  row0 : ∃ f, findBy Value.isInt eR 0 = some (.ref f) ∧ Cal P w K mg base 9 f ["kept", "coefficients"] (spRow C fieldM)
  row1 : ∃ f, findBy Value.isInt eR 1 = some (.ref f) ∧ Cal P w K mg base 9 f ["kept", "handed_in"] (spRow C numberM)
  rowN : ∀ c : Int, 2 ≤ c → c ≤ 14 → findBy Value.isInt eR c = none
  hows : ∀ c : Int, 2 ≤ c → c ≤ 14 → ∃ t, findBy Value.isInt eH c = some (.int (ar c : Int) t)
theorem KS.given {g : Addr} {H : Hp} {C ob na : Addr} {k : List Int} {ns : List Rf.L} {o : HO} (h : KS g H C ob na k ns) : KS g (upd H g o) C ob na k ns := by
  obtain ⟨dx, ca, as, ⟨e1, e2, e3, e4, x, e5⟩, h1, h2, h3, h4, h5⟩ := h
  refine ⟨dx, ca, as, ⟨e1, e2, e3, e4, o, upd_same⟩, ?_, ?_, ?_, h4, fun i a v ha hv => ?_⟩
  · rw [upd_ne (Ne.symm e3)]; exact h1
  · show (upd H g o) ca = _
    rw [upd_ne e1]; exact h2
  · rw [upd_ne (Ne.symm e4)]; exact h3
  · show (upd H g o) a = _
    rw [upd_ne (e2 a (List.mem_of_getElem? ha))]
    exact h5 i a v ha hv
section
variable {P : Program} {w : World} {K : PySem.W.Frag} {mg : Str → Option Value} {base : Heap} {C : Addr}
theorem ok_init {f : Addr} {fd : FuncData} (F : Fun K "__init__" "Kept.__init__" s_init f fd) (T : Tx K mg C) : FnOk P w K mg base CX0 1 f fd ["self"] (spInit C) := by
  refine F.ok sc_init (fun vs H Q E h => ?_) (fun cdv A outer s H vs Q E hr h => ?_)
  · obtain ⟨p, dx, rfl, _⟩ := h
    rfl
  · obtain ⟨p, dx, rfl, hp, q⟩ := h
    refine ⟨_, pss_cons (ps_fld (pv 0) (pe_lst (pa_cons pe_int (pa_cons pe_int pa_nil))) rfl) (pss_one (ps_fld (pv 0) (pe_lst pa_nil) rfl)), ?_⟩
    refine ⟨(by show 2 ≤ sizeLine; decide), fun ca nca => ?_⟩
    have hpc : p ≠ ca := ne_of_none hp nca
    have s1 : Same H (upd H ca (.lst [.int 1, .int 0])) := same_new nca
    refine ⟨_, rfl, p, C, dx, _, rfl, s1 _ _ hp, T.cl, T.nC, (by show 0 < 1000; decide), ?_⟩
    refine ⟨Nat.zero_le _, fun na nna => ?_⟩
    have n1 : na ≠ p := by
      intro z; rw [z, upd_same] at nna; cases nna
    have n2 : na ≠ ca := by
      intro z; rw [z, upd_ne (Ne.symm hpc), upd_same] at nna; cases nna
    have nH : H na = none := by rw [upd_ne n1, upd_ne n2] at nna; exact nna
    have g1 : (upd (upd (upd H ca (.lst [.int 1, .int 0])) p (.ins C dx (putF "coefficients" (.ref ca) []))) na (.lst [])) p = some (.ins C dx (putF "coefficients" (.ref ca) [])) := by
      rw [upd_ne (Ne.symm n1)]; exact upd_same
    refine ⟨_, rfl, p, C, dx, _, rfl, g1, T.cl, T.nN, (by show 1 < 1000; decide), ?_⟩
    refine q _ ca na ?_ ?_ ?_ nca nH ?_
    · rw [upd_same, kF_new]
    · show (upd _ p _) ca = _
      rw [upd_ne (Ne.symm hpc), upd_ne (Ne.symm n2), upd_ne (Ne.symm hpc), upd_same]
      rfl
    · show (upd _ p _) na = _
      rw [upd_ne n1, upd_same]
      rfl
    · intro b o e hb
      have hbc : b ≠ ca := ne_of_none e nca
      have hbn : b ≠ na := ne_of_none e nH
      rw [upd_ne hb, upd_ne hbn, upd_ne hb, upd_ne hbc]
      exact e
abbrev s_answers : Stmt := topS 61
abbrev N_answers : List Str := ["calls", "kept", "given", "at", "call", "first", "answer"]
theorem sc_answers : FnScope N_answers ["calls"] (defScope s_answers) := ⟨rfl, rfl, rfl, by decide +kernel, rfl, by decide +kernel, by decide +kernel⟩
def spAns (K : PySem.W.Frag) : Sp := fun vs H Q _ => ∃ (a : Addr) (l : List Int) (raw : List (List (List Int))), vs = [.ref a] ∧ SqL K H a (l.map V.int) ∧ l.length ≤ 480 ∧ PyFlat.calls PyNf01.shape l.length l = some raw ∧ (∀ c ∈ raw, OkC c) ∧ (tlM ([1, 0], []) raw).length ≤ 10000000 ∧ ∀ (H' : Hp) (p : Addr), LI H' p (tlM ([1, 0], []) raw) → Q (.ref p) H'
theorem ok_answers {f fI' : Addr} {fd fdI : FuncData} (F : Fun K "answers" "answers" s_answers f fd) (B : Bt mg) (T : Tm P w K mg base C) (G_init : FnOk P w K mg base CX0 1 T.fI fdI ["self"] (spInit C)) (b_init : Binds K fdI ["self"] []) (C1 : CalN P w K mg base 10 "answer_with_names" ["kept", "call", "names"] (spWith C)) : FnOk P w K mg base CX0 12 f fd ["calls"] (spAns K) := by
  obtain ⟨_, g_answer_with_names, _, G_answer_with_names, k_answer_with_names, b_answer_with_names⟩ := C1
  have A_CALLS_WITH_A_ROW : ∀ (f : Addr) (sp : Sp), (∃ ps, Cal P w K mg base 9 f ps sp) → ∃ ps, Cal P w K mg base 9 f ps sp := fun _ _ h => h
  refine F.ok sc_answers (fun vs H Q E h => ?_) (fun cdv A outer s H vs Q E hr h => ?_)
  · obtain ⟨a, l, raw, rfl, _⟩ := h
    rfl
  · obtain ⟨a, l, raw, rfl, hs, hl, hraw, hok, hR, q⟩ := h
    refine ⟨_, (pss_cons (ps_set (i := 1) sc_answers.nd rfl (Or.inl rfl) (pe_make0 T.mk_Kept G_init (hr.mono (by omega)) rfl T.g_Kept b_init .nil pass0))
        (pss_cons (ps_set (i := 2) sc_answers.nd rfl (Or.inl rfl) (pe_lst pa_nil))
        (pss_cons (ps_set (i := 3) sc_answers.nd rfl (Or.inl rfl) pe_int)
        (pss_cons (ps_while PassesOwn.never (pt_cmpR op_lt (pv 3) (pe_callB (show CallR _ _ (rLenK K) from call_len_seq) (by rfl) B.len PySem.boot_len (pa_cons (pv 0) pa_nil)) (nomark _)) (pss_cons (ps_set (i := 4) sc_answers.nd rfl (Or.inl rfl) (pe_ix (show IxR _ (rIxL K) from ix_list) (pv 0) (pv 3) (fun _ _ => rfl)))
        (pss_cons (ps_if (pt_cmpR (op_in_id T.d_CALLS_WITH_A_ROW) (pv 4) (pe_glob (v := .ref _) (by rfl) T.g_CALLS_WITH_A_ROW rfl) (by rfl)) (pss_cons (ps_set (i := 5) sc_answers.nd rfl (Or.inl rfl) (pe_op op_add (pv 3) pe_int))
        (pss_cons (ps_set (i := 3) sc_answers.nd rfl (Or.inl rfl) (pe_op op_add (pv 5) (pe_ix (show IxR _ (rIxL K) from ix_list) (pv 0) (pe_op op_add (pv 3) pe_int) (fun _ _ => rfl))))
        (pss_one (ps_set (i := 6) sc_answers.nd rfl (Or.inl rfl) (pe_callR A_CALLS_WITH_A_ROW (hr.mono (by omega)) (pe_ix (ix_id T.d_CALLS_WITH_A_ROW) (pe_glob (v := .ref _) (by rfl) T.g_CALLS_WITH_A_ROW rfl) (pv 4) (fun _ _ => rfl)) (pa_cons (pv 1) (pa_cons (pe_slice (show SlR _ (rSlL K) from sl_list) (pv 0) (po_some (pv 5)) (po_some (pv 3))) pa_nil))))))) (pss_cons (ps_set (i := 5) sc_answers.nd rfl (Or.inl rfl) (pe_op op_add (pv 3) pe_int))
        (pss_cons (ps_set (i := 3) sc_answers.nd rfl (Or.inl rfl) (pe_op op_add (pv 5) (pe_ix (ix_id T.d_HOW_MANY_NAMES) (pe_glob (v := .ref _) (by rfl) T.g_HOW_MANY_NAMES rfl) (pv 4) (fun _ _ => rfl))))
        (pss_one (ps_set (i := 6) sc_answers.nd rfl (Or.inl rfl) (pe_call G_answer_with_names (hr.mono (by omega)) (by rfl) g_answer_with_names k_answer_with_names b_answer_with_names .nil pass0 (pa_cons (pv 1) (pa_cons (pv 4) (pa_cons (pe_slice (show SlR _ (rSlL K) from sl_list) (pv 0) (po_some (pv 5)) (po_some (pv 3))) pa_nil)))))))))
        (pss_cons (ps_expr (pe_bm PySem.F.plainAttrs_list PySem.F.slot_list_append PySem.F.type_list_append mt_append (pv 2) (pa_cons (pe_callB (show CallR _ _ (rLenK K) from call_len_seq) (by rfl) B.len PySem.boot_len (pa_cons (pv 6) pa_nil)) pa_nil)))
        (pss_one (ps_expr (pe_bm PySem.F.plainAttrs_list PySem.F.slot_list_extend PySem.F.type_list_extend mt_extend (pv 2) (pa_cons (pv 6) pa_nil))))))))
        (pss_one (ps_ret (pv 2))))))), ?_⟩
    intro x dx nx nd ne
    refine ⟨x, dx, rfl, upd_same, fun H1 ca na h1 h2 h3 nca nna fr => ⟨rfl, ?_⟩⟩
    have up : ∀ (b : Addr) (o : HO), b ≠ x → b ≠ dx → H b = some o → H1 b = some o := fun b o hb hb2 e => fr b o (by rw [upd_ne hb, upd_ne hb2]; exact e) hb
    have s1 : Same H H1 := fun b o e => up b o (ne_of_none e nx) (ne_of_none e nd) e
    have hca : H ca = none := none_of_same (fun b o e => by rw [upd_ne (ne_of_none e nx), upd_ne (ne_of_none e nd)]; exact e) nca
    have hna0 : H na = none := none_of_same (fun b o e => by rw [upd_ne (ne_of_none e nx), upd_ne (ne_of_none e nd)]; exact e) nna
    refine ⟨Nat.zero_le _, fun g ng => ?_⟩
    have hgn : H g = none := none_of_same s1 ng
    have sg : Same H1 (upd H1 g (.lst [])) := same_new ng
    have hgob : g ≠ x := (ne_of_none h1 ng).symm
    have hob : H x = none := nx
    have ks0 : KS g (upd H1 g (.lst [])) C x na [1, 0] [] := ⟨dx, ca, [], ⟨ne_of_none h2 ng, (fun a ha => by cases ha), hgob, (ne_of_none h3 ng).symm, _, upd_same⟩, sg _ _ h1, sg _ _ h2, sg _ _ h3, rfl, fun i a v ha _ => by cases ha⟩
    generalize hob2 : x = ob at *
    refine while_by (fun σ H' => ∃ (i : Nat) (na : Addr) (m : Stt) (gv : List Int) (rest : List (List (List Int))) (f : Nat) (y4 y5 y6 : Option V), σ = [some (.ref a), some (.ref ob), some (.ref g), some (.int (i : Int)), y4, y5, y6] ∧ Same H H' ∧ H na = none ∧ KS g H' C ob na m.1 m.2 ∧ StOk m ∧ LI H' g gv ∧ i ≤ l.length ∧ PyFlat.calls PyNf01.shape f (l.drop i) = some rest ∧ (∀ c ∈ rest, OkC c) ∧ tlM ([1, 0], []) raw = gv ++ tlM m rest) (fun (σ : L2.St) (_ : Hp) => match σ[3]? with | some (some (V.int z)) => l.length - z.toNat | _ => 0) ⟨0, na, ([1, 0], []), [], raw, l.length, none, none, none, rfl, s1.trans sg, hna0, ks0, st_start, upd_same, Nat.zero_le _, hraw, hok, rfl⟩ ?_ ?_
    · rintro σ H' ⟨i, na, m, gv, rest, fu, y4, y5, y6, rfl, s2, hna, hks, hst, lg, hil, hpar, hok2, hRR⟩
      refine ⟨_, rfl, _, rfl, a, _, rfl, .inl (s2.seq hs), _, _, rfl, rfl, _, rfl, ?_⟩
      have hgna : g ≠ na := by
        obtain ⟨_, _, _, ⟨_, _, _, e4, _⟩, _⟩ := hks
        exact e4
      by_cases hi : i < l.length
      · have e : decide ((i : Int) < ((l.map V.int).length : Int)) = true := decide_eq_true (by rw [List.length_map]; omega)
        rw [e]
        obtain ⟨PP, c, cs, f', j, rfl, hpp, hij, hjl, hcs, hcase⟩ := parse_step hi hpar hok2
        have hokc := hok2 c (List.mem_cons_self ..)
        have hat : atI (l.map V.int) (i : Int) = some (.int PP) := atI_nat (by rw [List.getElem?_map, hpp]; rfl)
        have hstep0 : tlM m (c :: cs) = ((stepM m c).2.length : Int) :: ((stepM m c).2 ++ tlM (stepM m c).1 cs) := rfl
        refine iteT ⟨_, rfl, _, rfl, a, _, _, .int PP, rfl, rfl, s2.seq hs, hat, ?_⟩
        refine ⟨_, rfl, PP, rfl, rfl, _, rfl, ?_⟩
        rcases hcase with ⟨nn, hp01, hnn, hnn0, rfl, rfl⟩ | ⟨hp1, hp2, rfl, rfl⟩
        · obtain ⟨fR, RM, ps, hfR, hcal, hRM⟩ : ∃ (fR : Addr) (RM : Stt → List Int → Res) (ps : List Str), findBy Value.isInt T.eR PP = some (.ref fR) ∧ Cal P w K mg base 9 fR ps (spRow C RM) ∧ ∀ r, stepM m [[PP], r] = RM m r := by
            rcases hp01 with rfl | rfl
            · obtain ⟨fR, e1, e2⟩ := T.row0
              exact ⟨fR, fieldM, _, e1, e2, fun r => rfl⟩
            · obtain ⟨fR, e1, e2⟩ := T.row1
              exact ⟨fR, numberM, _, e1, e2, fun r => rfl⟩
          rw [hfR]
          have hat2 : atI (l.map V.int) ((i : Int) + 1) = some (.int nn) := atI_nat (j := i + 1) (by rw [List.getElem?_map, hnn]; rfl)
          have ej : (i : Int) + 2 + nn = ((i + 2 + nn.toNat : Nat) : Int) := by omega
          refine iteT ⟨_, rfl, _, _, rfl, rfl, _, rfl, _, rfl, _, rfl, _, _, rfl, rfl, a, _, _, .int nn, rfl, rfl, s2.seq hs, hat2, _, _, rfl, rfl, ?_⟩
          refine ⟨_, rfl, PP, .ref fR, .ref fR, rfl, rfl, hfR, rfl, fR, _, rfl, ⟨_, hcal⟩, _, rfl, _, rfl, _, rfl, _, rfl, _, rfl, _, rfl, a, _, rfl, s2.seq hs, fun qq nqq => ?_⟩
          have ecut : cutV (l.map V.int) (some ((i : Int) + 2)) (some ((i : Int) + 2 + nn)) = ((l.drop (i + 2)).take nn.toNat).map V.int := by
            rw [ej]
            have := cut_mid (l.map V.int) (i + 2) (i + 2 + nn.toNat) (by omega) (by rw [List.length_map]; exact hjl)
            refine this.trans ?_
            rw [List.map_take, List.map_drop]
            congr 1
            omega
          rw [ecut]
          have s3 : Same H' (upd H' qq (.lst (((l.drop (i + 2)).take nn.toNat).map V.int))) := same_new nqq
          have lq : LI (upd H' qq (.lst (((l.drop (i + 2)).take nn.toNat).map V.int))) qq ((l.drop (i + 2)).take nn.toNat) := upd_same
          have lg2 := s3 _ _ lg
          have hstep := hRM ((l.drop (i + 2)).take nn.toNat)
          have hrl : ((l.drop (i + 2)).take nn.toNat).length ≤ 500 := by rw [List.length_take, List.length_drop]; omega
          generalize (l.drop (i + 2)).take nn.toNat = row at *
          have hks2 := hks.same s3
          have hqg : qq ≠ g := hks.ng nqq
          have s2' := s2.trans s3
          generalize upd H' qq (.lst (row.map V.int)) = H2 at *
          refine ⟨g, ob, na, qq, m, row, rfl, hks2, hst, lq, hqg, hrl, fun H3 na' p1 fr3 hn3 ks3 lp3 np1 => ?_⟩
          rw [← hstep] at ks3 lp3
          replace hks := hks2
          replace s2 := s2'
          clear hstep
          have hstep := hstep0
          have hst3 := stepM_ok hst hokc
          generalize stepM m [[PP], row] = RES at *
          have hpg : p1 ≠ g := hks.ng np1
          have lg3 : LI H3 g gv := fr3 _ _ hgob hgna lg2
          rw [hstep] at hRR
          have e10 : (2 : Nat) ^ 24 = sizeLine := rfl
          have hRl : gv.length + (RES.2.length + 1) + (tlM RES.1 cs).length ≤ 10000000 := by
            have := hR
            rw [hRR, List.length_append, List.length_cons, List.length_append] at this
            omega
          refine ⟨_, rfl, .inl ⟨rfl, _, LI.seq lg3⟩, _, rfl, p1, _, rfl, .inl (LI.seq lp3), g, _, _, rfl, rfl, lg3, ?_, ?_⟩
          · rw [List.length_map, ← e10]; omega
          have l4 : (upd H3 g (.lst (gv.map V.int ++ [.int ((RES.2.map V.int).length : Int)]))) g = some (.lst (gv.map V.int ++ [.int ((RES.2.map V.int).length : Int)])) := upd_same
          have l5 : LI (upd H3 g (.lst (gv.map V.int ++ [.int ((RES.2.map V.int).length : Int)]))) p1 RES.2 := by
            show (upd H3 g _) p1 = _
            rw [upd_ne hpg]; exact lp3
          have ks4 : KS g (upd H3 g (.lst (gv.map V.int ++ [.int ((RES.2.map V.int).length : Int)]))) C ob na' RES.1.1 RES.1.2 := ks3.given
          refine ⟨_, rfl, .inl ⟨rfl, _, .inl (.inl l4)⟩, _, rfl, g, p1, _, _, rfl, rfl, l4, l5, ?_, ?_⟩
          · rw [List.length_append, List.length_map, List.length_map, ← e10]
            show gv.length + 1 + _ ≤ _
            omega
          have hSame : Same H H3 := fun b o e => fr3 _ _ (ne_of_none e hob) (ne_of_none e hna) (s2 _ _ e)
          refine ⟨⟨i + 2 + nn.toNat, na', RES.1, gv ++ ((RES.2.length : Int) :: RES.2), cs, f', some (.int PP), some (.int ((i : Int) + 2)), some (.ref p1), ?_, same_store hgn (same_store hgn hSame), ?_, ks4.given, hst3, ?_, hjl, hcs, fun c' hc' => hok2 c' (List.mem_cons_of_mem _ hc'), ?_⟩, ?_⟩
          · exact congrArg (fun z => [some (V.ref a), some (V.ref ob), some (V.ref g), some (V.int z), some (V.int PP), some (V.int ((i : Int) + 2)), some (V.ref p1)]) ej
          · rcases hn3 with e | e
            · rw [e]; exact hna
            · exact none_of_same s2 e
          · show (upd _ g _) g = _
            rw [upd_same, List.map_append, List.map_cons, List.append_assoc, List.length_map]
            rfl
          · rw [hRR, List.append_assoc]; rfl
          · show l.length - ((i : Int) + 2 + nn).toNat < l.length - ((i : Int)).toNat
            omega
        · have hnone := T.rowN PP hp1 hp2
          rw [hnone]
          obtain ⟨tk, hhow⟩ := T.hows PP hp1 hp2
          refine iteF ⟨_, rfl, _, _, rfl, rfl, _, rfl, _, rfl, PP, _, .int (ar PP : Int), rfl, rfl, hhow, ⟨_, rfl⟩, _, _, rfl, rfl, ?_⟩
          refine ⟨_, rfl, _, rfl, _, rfl, _, rfl, _, rfl, _, rfl, _, rfl, a, _, rfl, s2.seq hs, fun qq nqq => ?_⟩
          have ej : (i : Int) + 1 + (ar PP : Int) = ((i + 1 + ar PP : Nat) : Int) := by omega
          have ecut : cutV (l.map V.int) (some ((i : Int) + 1)) (some ((i : Int) + 1 + (ar PP : Int))) = ((l.drop (i + 1)).take (ar PP)).map V.int := by
            rw [ej]
            have := cut_mid (l.map V.int) (i + 1) (i + 1 + ar PP) (by omega) (by rw [List.length_map]; exact hjl)
            refine this.trans ?_
            rw [List.map_take, List.map_drop]
            congr 1
            omega
          rw [ecut]
          have s3 : Same H' (upd H' qq (.lst (((l.drop (i + 1)).take (ar PP)).map V.int))) := same_new nqq
          have lq : LI (upd H' qq (.lst (((l.drop (i + 1)).take (ar PP)).map V.int))) qq ((l.drop (i + 1)).take (ar PP)) := upd_same
          have lg2 := s3 _ _ lg
          have hnl : ((l.drop (i + 1)).take (ar PP)).length = ar PP := by rw [List.length_take, List.length_drop]; omega
          have hstep := stepM_names m PP ((l.drop (i + 1)).take (ar PP))
          generalize (l.drop (i + 1)).take (ar PP) = row at *
          have hn0 : ∀ z ∈ row, 0 ≤ z := by
            rcases hokc with ⟨p', r', hc', _⟩ | ⟨p', xs', hc', _, _, _, h0⟩
            · cases hc'
            · have := (List.cons.inj (List.cons.inj hc').1).2
              rw [this]; exact h0
          have hks2 := hks.same s3
          have s2' := s2.trans s3
          generalize upd H' qq (.lst (row.map V.int)) = H2 at *
          refine ⟨g, ob, na, qq, m, PP, row, rfl, hks2, hst, hp1, hp2, lq, hnl, hn0, fun H3 na' p1 fr3 hn3 ks3 lp3 np1 => ?_⟩
          rw [← hstep] at ks3 lp3
          replace hks := hks2
          replace s2 := s2'
          clear hstep
          have hstep := hstep0
          have hst3 := stepM_ok hst hokc
          generalize stepM m [PP :: row] = RES at *
          have hpg : p1 ≠ g := hks.ng np1
          have lg3 : LI H3 g gv := fr3 _ _ hgob hgna lg2
          rw [hstep] at hRR
          have e10 : (2 : Nat) ^ 24 = sizeLine := rfl
          have hRl : gv.length + (RES.2.length + 1) + (tlM RES.1 cs).length ≤ 10000000 := by
            have := hR
            rw [hRR, List.length_append, List.length_cons, List.length_append] at this
            omega
          refine ⟨_, rfl, .inl ⟨rfl, _, LI.seq lg3⟩, _, rfl, p1, _, rfl, .inl (LI.seq lp3), g, _, _, rfl, rfl, lg3, ?_, ?_⟩
          · rw [List.length_map, ← e10]; omega
          have l4 : (upd H3 g (.lst (gv.map V.int ++ [.int ((RES.2.map V.int).length : Int)]))) g = some (.lst (gv.map V.int ++ [.int ((RES.2.map V.int).length : Int)])) := upd_same
          have l5 : LI (upd H3 g (.lst (gv.map V.int ++ [.int ((RES.2.map V.int).length : Int)]))) p1 RES.2 := by
            show (upd H3 g _) p1 = _
            rw [upd_ne hpg]; exact lp3
          have ks4 : KS g (upd H3 g (.lst (gv.map V.int ++ [.int ((RES.2.map V.int).length : Int)]))) C ob na' RES.1.1 RES.1.2 := ks3.given
          refine ⟨_, rfl, .inl ⟨rfl, _, .inl (.inl l4)⟩, _, rfl, g, p1, _, _, rfl, rfl, l4, l5, ?_, ?_⟩
          · rw [List.length_append, List.length_map, List.length_map, ← e10]
            show gv.length + 1 + _ ≤ _
            omega
          have hSame : Same H H3 := fun b o e => fr3 _ _ (ne_of_none e hob) (ne_of_none e hna) (s2 _ _ e)
          refine ⟨⟨i + 1 + ar PP, na', RES.1, gv ++ ((RES.2.length : Int) :: RES.2), cs, f', some (.int PP), some (.int ((i : Int) + 1)), some (.ref p1), ?_, same_store hgn (same_store hgn hSame), ?_, ks4.given, hst3, ?_, hjl, hcs, fun c' hc' => hok2 c' (List.mem_cons_of_mem _ hc'), ?_⟩, ?_⟩
          · exact congrArg (fun z => [some (V.ref a), some (V.ref ob), some (V.ref g), some (V.int z), some (V.int PP), some (V.int ((i : Int) + 1)), some (V.ref p1)]) ej
          · rcases hn3 with e | e
            · rw [e]; exact hna
            · exact none_of_same s2 e
          · show (upd _ g _) g = _
            rw [upd_same, List.map_append, List.map_cons, List.append_assoc, List.length_map]
            rfl
          · rw [hRR, List.append_assoc]; rfl
          · show l.length - ((i : Int) + 1 + (ar PP : Int)).toNat < l.length - ((i : Int)).toNat
            omega
      · have e : decide ((i : Int) < ((l.map V.int).length : Int)) = false := decide_eq_false (by rw [List.length_map]; omega)
        rw [e]
        have hdl : l.drop i = [] := List.drop_of_length_le (by omega)
        rw [hdl] at hpar
        have er := parse_end hpar
        subst er
        have eR : tlM ([1, 0], []) raw = gv := by rw [hRR]; exact List.append_nil _
        refine iteF ⟨_, rfl, q H' g ?_⟩
        rw [eR]
        exact lg
    · intro σ H' Q1 Q2 hQ
      rintro ⟨v1, g1, v2, g2, p, ys, g3, g4, i1, j1, g5, g6, b, g7, g8⟩
      exact ⟨v1, g1, v2, g2, p, ys, g3, g4, i1, j1, g5, g6, b, g7, hQ _ _ g8⟩
end
end Rp

set_option Elab.async false
set_option linter.all false
set_option maxRecDepth 100000
set_option maxHeartbeats 2000000
set_option exponentiation.threshold 1000000
namespace Rp
/-! ### the machine of the specification, over the mirror -/
def sOf (m : Stt) : Nf01.State := ⟨m.1, m.2.map (·.map Rf.psi)⟩
def EE (x : Nf01.State × Nf01.Ans) : Nf01.State × List Int := (x.1, Nf01Neutral.out x.2)
def rs (r : Res) : Nf01.State × List Int := (sOf r.1, r.2)
theorem at_lt {m : Stt} {z : Int} (h0 : 0 ≤ z) (h : z < (m.2.length : Int)) (g : Nf01.Num → Nf01.State × Nf01.Ans) : (sOf m).at_ z.toNat g = g ((m.2.getD z.toNat []).map Rf.psi) := by
  have h1 : z.toNat < m.2.length := by omega
  have e : (sOf m).l[z.toNat]? = some ((m.2.getD z.toNat []).map Rf.psi) := by
    show (m.2.map (·.map Rf.psi))[z.toNat]? = _
    rw [List.getElem?_map, List.getElem?_eq_getElem h1, List.getD_eq_getElem?_getD, List.getElem?_eq_getElem h1]
    rfl
  unfold Nf01.State.at_
  rw [e]
theorem at_ge {m : Stt} {z : Int} (h0 : 0 ≤ z) (h : ¬ z < (m.2.length : Int)) (g : Nf01.Num → Nf01.State × Nf01.Ans) : (sOf m).at_ z.toNat g = (sOf m, Nf01.ok (-2)) := by
  have h1 : m.2.length ≤ z.toNat := by omega
  have e : (sOf m).l[z.toNat]? = none := by
    show (m.2.map (·.map Rf.psi))[z.toNat]? = _
    rw [List.getElem?_map, List.getElem?_eq_none h1]
    rfl
  unfold Nf01.State.at_
  rw [e]
theorem getD_mem {m : Stt} {z : Int} (h0 : 0 ≤ z) (h : z < (m.2.length : Int)) : m.2.getD z.toNat [] ∈ m.2 := by
  have h1 : z.toNat < m.2.length := by omega
  rw [List.getD_eq_getElem?_getD, List.getElem?_eq_getElem h1]
  exact List.getElem_mem h1
theorem small_is (v : Rf.L) : Nf01.small (v.map Rf.psi) = bgB v := by
  have e : Nf01.small (v.map Rf.psi) = true ↔ bgB v = true := by
    rw [bgB_iff]
    unfold Nf01.small
    rw [List.all_eq_true]
    constructor
    · intro h q hq
      have := h (Rf.psi q) (List.mem_map.mpr ⟨q, hq, rfl⟩)
      rw [Bool.and_eq_true, decide_eq_true_iff, decide_eq_true_iff] at this
      exact this
    · intro h x hx
      obtain ⟨q, hq, rfl⟩ := List.mem_map.mp hx
      rw [Bool.and_eq_true, decide_eq_true_iff, decide_eq_true_iff]
      exact h q hq
  cases h1 : Nf01.small (v.map Rf.psi) <;> cases h2 : bgB v <;> simp_all
theorem put_is (m : Stt) (v : Rf.L) : EE ((sOf m).put (v.map Rf.psi)) = rs (putM m v) := by
  unfold Nf01.State.put putM
  have e1 : (sOf m).l.length = m.2.length := List.length_map ..
  rw [e1, small_is]
  by_cases h1 : 8 ≤ m.2.length
  · rw [if_pos h1, if_pos (show Nf01.MOST ≤ _ from h1)]
    rfl
  · rw [if_neg h1, if_neg (show ¬ Nf01.MOST ≤ _ from h1)]
    by_cases h2 : bgB v = false
    · rw [if_pos h2, if_pos h2]
      rfl
    · rw [if_neg h2, if_neg h2]
      show ((⟨m.1, m.2.map (·.map Rf.psi) ++ [v.map Rf.psi]⟩ : Nf01.State), Nf01Neutral.out (Nf01.ok ((m.2.length : Nat) : Int))) = ((⟨m.1, (m.2 ++ [v]).map (·.map Rf.psi)⟩ : Nf01.State), [((m.2.length : Nat) : Int)])
      rw [List.map_append]
      rfl
theorem w2 {m : Stt} {c x y : Int} (hx : 0 ≤ x) (hy : 0 ≤ y) (g : Nf01.Num → Nf01.Num → Nf01.State × Nf01.Ans) (h : ∀ a b, a ∈ m.2 → b ∈ m.2 → EE (g (a.map Rf.psi) (b.map Rf.psi)) = rs (nameM c m [a, b])) :
    EE ((sOf m).at_ x.toNat fun a => (sOf m).at_ y.toNat fun b => g a b) = rs (withM c m [x, y]) := by
  unfold withM
  by_cases h1 : x < (m.2.length : Int)
  · rw [at_lt hx h1]
    by_cases h2 : y < (m.2.length : Int)
    · rw [at_lt hy h2, if_pos (by simp [h1, h2])]
      exact h _ _ (getD_mem hx h1) (getD_mem hy h2)
    · rw [at_ge hy h2, if_neg (by simp [h2])]
      rfl
  · rw [at_ge hx h1, if_neg (by simp [h1])]
    rfl
theorem w1 {m : Stt} {c x : Int} (hx : 0 ≤ x) (g : Nf01.Num → Nf01.State × Nf01.Ans) (h : ∀ a, a ∈ m.2 → EE (g (a.map Rf.psi)) = rs (nameM c m [a])) :
    EE ((sOf m).at_ x.toNat fun a => g a) = rs (withM c m [x]) := by
  unfold withM
  by_cases h1 : x < (m.2.length : Int)
  · rw [at_lt hx h1, if_pos (by simp [h1])]
    exact h _ (getD_mem hx h1)
  · rw [at_ge hx h1, if_neg (by simp [h1])]
    rfl
theorem zero_is (v : Rf.L) : Nf01.isZero (v.map Rf.psi) = !((v.map fun q => q.num).any fun z => z != 0) := by
  unfold Nf01.isZero
  rw [List.all_map, List.any_map]
  induction v with
  | nil => rfl
  | cons q v ih =>
    rw [List.all_cons, List.any_cons, ih, Bool.not_or]
    congr 1
    show (Rf.psi q == Nf01.zero) = !(q.num != 0)
    by_cases h : q = 0
    · subst h; rfl
    · have h1 : ¬ Rf.psi q = Nf01.zero := fun e => h (Rf.psi_eq_zero.mp e)
      have h2 : q.num ≠ 0 := fun e => h (Rat.num_eq_zero.mp e)
      rw [beq_eq_false_iff_ne.mpr h1]
      simp [h2]
theorem nums_one (q : Rat) : Nf01.nums [Rf.psi q] = Rf.frac q := rfl
theorem whole_is (v : Rf.L) : (v.map Rf.psi).all (fun x => x.d == 1) = withinB (v.map fun q => (q.den : Int)) 1 1 := by
  unfold withinB
  rw [List.all_map, List.all_map]
  induction v with
  | nil => rfl
  | cons q v ih =>
    rw [List.all_cons, List.all_cons, ih]
    congr 1
    show (q.den == 1) = (decide ((1 : Int) ≤ (q.den : Int)) && decide ((q.den : Int) ≤ 1))
    by_cases h : q.den = 1
    · rw [h]; rfl
    · have : (q.den == 1) = false := beq_eq_false_iff_ne.mpr h
      rw [this]
      have : ¬ (((1 : Int) ≤ (q.den : Int)) ∧ (q.den : Int) ≤ 1) := by omega
      rw [← Bool.decide_and, decide_eq_false this]
theorem places_inj : ∀ {a b : Rf.L}, Rf.placesQ a = Rf.placesQ b → a = b
  | [], [], _ => rfl
  | [], _ :: _, h => by cases h
  | _ :: _, [], h => by cases h
  | p :: a, q :: b, h => by
    have h' : p.num :: (p.den : Int) :: Rf.placesQ a = q.num :: (q.den : Int) :: Rf.placesQ b := h
    injection h' with h1 h2
    injection h2 with h2 h3
    rw [places_inj h3, show p = q from Rat.ext h1 (Int.ofNat.inj h2)]
theorem map_psi_inj : ∀ {a b : Rf.L}, a.map Rf.psi = b.map Rf.psi → a = b
  | [], [], _ => rfl
  | [], _ :: _, h => by cases h
  | _ :: _, [], h => by cases h
  | p :: a, q :: b, h => by
    have h' : Rf.psi p :: a.map Rf.psi = Rf.psi q :: b.map Rf.psi := h
    injection h' with h1 h2
    rw [map_psi_inj h2, Rf.psi_inj h1]
theorem least_is {k : List Int} (hF : Rf.Fld k) {v : Rf.L} (hv : v.length = k.length) : Nf01.least k (v.map Rf.psi) = (leastR k v).map Rf.psi := Rf.least_places hF.deg hF.irr hv
theorem alike_is {k : List Int} (hF : Rf.Fld k) {u v : Rf.L} (hu : u.length = k.length) (hv : v.length = k.length) : (Nf01.flag (Nf01.least k (u.map Rf.psi) == Nf01.least k (v.map Rf.psi))) = (if Rf.placesQ (leastR k u) = Rf.placesQ (leastR k v) then 1 else 0) := by
  rw [least_is hF hu, least_is hF hv]
  unfold Nf01.flag
  by_cases h : leastR k u = leastR k v
  · rw [h]
    simp
  · rw [if_neg (fun e => h (places_inj e)), if_neg]
    intro e
    exact h (map_psi_inj (eq_of_beq e))
end Rp

set_option Elab.async false
set_option linter.all false
set_option maxRecDepth 100000
set_option maxHeartbeats 2000000
set_option exponentiation.threshold 1000000
namespace Rp
/-! ### a list of calls, parted -/
theorem rows_len : ∀ (k : Nat) (r : List Int) (xs : List (List Int)) (t : List Int), PyFlat.rows k r = some (xs, t) → xs.length = k
  | 0, r, xs, t, h => by
    have : ([], r) = (xs, t) := Option.some.inj h
    injection this with h1 _
    rw [← h1]; rfl
  | k + 1, r, xs, t, h => by
    unfold PyFlat.rows at h
    split at h
    · cases h
    · split at h
      · cases h
      · next e2 =>
        have h := Option.some.inj h
        injection h with h1 _
        rw [← h1, List.length_cons, rows_len k _ _ _ e2]
theorem calls_form : ∀ (f : Nat) (l : List Int) (raw : List (List (List Int))), PyFlat.calls PyNf01.shape f l = some raw → ∀ c ∈ raw, ∃ p xs rows n k, c = (p :: xs) :: rows ∧ PyNf01.shape p = some (n, k) ∧ xs.length = n ∧ rows.length = k
  | f, [], raw, h => by
    have : raw = [] := by cases f <;> exact (Option.some.inj h).symm
    rw [this]
    intro c hc; cases hc
  | 0, _ :: _, raw, h => by cases h
  | f + 1, p :: r, raw, h => by
    unfold PyFlat.calls at h
    split at h
    · cases h
    · next c t e1 =>
      split at h
      · cases h
      · next cs e2 =>
        have h := Option.some.inj h
        rw [← h]
        intro c' hc
        rcases List.mem_cons.mp hc with rfl | hc
        · simp only [PyFlat.call] at e1
          cases hsh : PyNf01.shape p with
          | none => rw [hsh] at e1; cases e1
          | some nk =>
            obtain ⟨n, k⟩ := nk
            rw [hsh] at e1
            simp only at e1
            by_cases hn : r.length < n
            · rw [if_pos hn] at e1; cases e1
            · rw [if_neg hn] at e1
              cases hr : PyFlat.rows k (r.drop n) with
              | none => rw [hr] at e1; cases e1
              | some xt =>
                obtain ⟨xs, t'⟩ := xt
                rw [hr] at e1
                have e1 := Option.some.inj e1
                injection e1 with e5 _
                exact ⟨p, r.take n, xs, n, k, e5.symm, hsh, by rw [List.length_take]; omega, rows_len _ _ _ _ hr⟩
        · exact calls_form f t cs e2 c' hc
theorem shape_inv {p : Int} {n k : Nat} (h : PyNf01.shape p = some (n, k)) : ((p = 0 ∨ p = 1) ∧ n = 0 ∧ k = 1) ∨ (2 ≤ p ∧ p ≤ 14 ∧ n = ar p ∧ k = 0) := by
  by_cases h1 : p = 0 ∨ p = 1
  · rw [shape_row h1] at h
    injection h with h
    injection h with h2 h3
    exact .inl ⟨h1, h2.symm, h3.symm⟩
  · by_cases h2 : 2 ≤ p ∧ p ≤ 14
    · rw [shape_names h2.1 h2.2] at h
      injection h with h
      injection h with h3 h4
      exact .inr ⟨h2.1, h2.2, h3.symm, h4.symm⟩
    · unfold PyNf01.shape at h
      repeat rw [if_neg (by omega)] at h
      cases h
theorem thirteen {p : Int} (h1 : 2 ≤ p) (h2 : p ≤ 14) : p = 2 ∨ p = 3 ∨ p = 4 ∨ p = 5 ∨ p = 6 ∨ p = 7 ∨ p = 8 ∨ p = 9 ∨ p = 10 ∨ p = 11 ∨ p = 12 ∨ p = 13 ∨ p = 14 := by omega
theorem asked_some {l : List Int} (h : Nf01Neutral.asked1 l = true) : ∃ x, Nf01Neutral.callIn l = some x ∧ Nf01Neutral.callOf l = some x := by
  unfold Nf01Neutral.asked1 at h
  obtain ⟨x, hx⟩ := Option.isSome_iff_exists.mp h
  refine ⟨x, ?_, hx⟩
  unfold Nf01Neutral.callOf at hx
  split at hx
  · cases hx
  · exact hx
theorem step_of {s : Nf01.State} {l : List Int} {x : Nf01.Call} (h : Nf01Neutral.asked1 l = true) (hx : Nf01Neutral.callIn l = some x) : Nf01Neutral.step s l = EE (Nf01.step s x) := by
  obtain ⟨y, h1, h2⟩ := asked_some h
  rw [hx] at h1
  injection h1 with h1
  subst h1
  unfold Nf01Neutral.step
  rw [h2]
  rfl
theorem two_some {i j : Int} (h0 : 0 ≤ i) (h1 : 0 ≤ j) : Nf01Neutral.two [i, j] = some (i.toNat, j.toNat) := by
  unfold Nf01Neutral.two
  exact if_pos ⟨h0, h1⟩
theorem two_inv {i j : Int} {f : Nat × Nat → Nf01.Call} {x : Nf01.Call} (h : (Nf01Neutral.two [i, j]).map f = some x) : 0 ≤ i ∧ 0 ≤ j := by
  by_cases hh : 0 ≤ i ∧ 0 ≤ j
  · exact hh
  · rw [show Nf01Neutral.two [i, j] = none from if_neg hh] at h
    cases h
theorem one_some {i : Int} (h0 : 0 ≤ i) : Nf01Neutral.one [i] = some i.toNat := by
  unfold Nf01Neutral.one
  exact if_pos h0
theorem one_inv {i : Int} {f : Nat → Nf01.Call} {x : Nf01.Call} (h : (Nf01Neutral.one [i]).map f = some x) : 0 ≤ i := by
  by_cases hh : 0 ≤ i
  · exact hh
  · rw [show Nf01Neutral.one [i] = none from if_neg hh] at h
    cases h
/-- what names say -/
theorem names_ok {p : Int} {xs : List Int} (h1 : 2 ≤ p) (h2 : p ≤ 14) (hl : xs.length = ar p) (ha : Nf01Neutral.asked1 ((PyNf01.whole [p :: xs]).headD []) = true) : ∀ z ∈ xs, 0 ≤ z := by
  have tw : ∀ i j : Int, 0 ≤ i ∧ 0 ≤ j → ∀ z ∈ [i, j], 0 ≤ z := fun i j h z hz => by
    simp at hz
    rcases hz with rfl | rfl
    · exact h.1
    · exact h.2
  have on : ∀ i : Int, 0 ≤ i → ∀ z ∈ [i], 0 ≤ z := fun i h z hz => by
    simp at hz
    rw [hz]; exact h
  rcases thirteen h1 h2 with rfl | rfl | rfl | rfl | rfl | rfl | rfl | rfl | rfl | rfl | rfl | rfl | rfl
  iterate 4
    match xs, hl with
    | [i, j], _ =>
      obtain ⟨x, hx, _⟩ := asked_some ha
      exact tw i j (two_inv hx)
  iterate 7
    match xs, hl with
    | [i], _ =>
      obtain ⟨x, hx, _⟩ := asked_some ha
      exact on i (one_inv hx)
  · match xs, hl with
    | [i, j], _ =>
      obtain ⟨x, hx, _⟩ := asked_some ha
      exact tw i j (two_inv hx)
  · match xs, hl with
    | [], _ =>
      intro z hz; cases hz
/-! ### the field -/
theorem any_within (r : List Int) : r.any (fun z => decide (Nf01.TOP < z.natAbs)) = !withinB r (-20) 20 := by
  unfold withinB
  induction r with
  | nil => rfl
  | cons z r ih =>
    rw [List.any_cons, List.all_cons, ih, Bool.not_and]
    congr 1
    by_cases h : Nf01.TOP < z.natAbs
    · have h' : 20 < z.natAbs := h
      have : ¬ (-20 ≤ z ∧ z ≤ 20) := by omega
      rw [← Bool.decide_and, decide_eq_true h, decide_eq_false this]
      rfl
    · have h' : ¬ 20 < z.natAbs := h
      have : -20 ≤ z ∧ z ≤ 20 := by omega
      rw [← Bool.decide_and, decide_eq_false h, decide_eq_true this]
      rfl
theorem field_is (m : Stt) (r : List Int) : EE (Nf01.step (sOf m) (.field r)) = rs (fieldM m r) := by
  show EE (if r.length < 2 ∨ 4 < r.length ∨ r.any (fun z => decide (Nf01.TOP < z.natAbs)) = true then (sOf m, Nf01.ok (-1)) else if Nf01.prime r = false then (sOf m, Nf01.ok (-3)) else (⟨r, []⟩, ⟨(Nf01.reals r : Nat), []⟩)) = _
  unfold fieldM
  rw [any_within]
  by_cases h : 2 ≤ r.length ∧ r.length ≤ 4
  · rw [if_neg (show ¬ ¬ (2 ≤ r.length ∧ r.length ≤ 4) from fun z => z h)]
    by_cases hw : withinB r (-20) 20 = false
    · rw [if_pos hw, if_pos (.inr (.inr (by rw [hw]; rfl)))]
      rfl
    · have hw' : withinB r (-20) 20 = true := by simpa using hw
      rw [if_neg hw, if_neg (by rw [hw']; intro z; rcases z with z | z | z; omega; omega; cases z)]
      have e := Rf.parted_is (k := r) h
      by_cases hp : Nf01.prime r = false
      · rw [hp] at e
        rw [if_pos hp, if_pos (show Rf.canBeParted r = true from e)]
        rfl
      · have hp' : Nf01.prime r = true := by simpa using hp
        rw [hp'] at e
        rw [if_neg hp, if_neg (by rw [e]; decide)]
        rfl
  · rw [if_pos h, if_pos (by omega)]
    rfl
/-! ### a number -/
theorem mapM_some {α β : Type} {f : α → Option β} {g : α → β} : ∀ {l : List α}, (∀ x ∈ l, f x = some (g x)) → l.mapM f = some (l.map g)
  | [], _ => rfl
  | a :: l, h => by
    rw [List.mapM_cons, h a (List.mem_cons_self ..), mapM_some (l := l) fun x hx => h x (List.mem_cons_of_mem _ hx)]
    rfl
theorem mapM_none {α β : Type} {f : α → Option β} : ∀ {l : List α} {x : α}, x ∈ l → f x = none → l.mapM f = none
  | [], _, h, _ => by cases h
  | a :: l, x, h, e => by
    rw [List.mapM_cons]
    rcases List.mem_cons.mp h with rfl | h
    · rw [e]; rfl
    · rw [mapM_none h e]
      cases f a <;> rfl
theorem ev2_getD : ∀ (l : List Int) (i : Nat), l.getD (2 * i) 0 = (ev2 l).getD i 0
  | [], i => rfl
  | [a], 0 => rfl
  | [a], i + 1 => rfl
  | a :: b :: r, 0 => rfl
  | a :: b :: r, i + 1 => by
    have ih := ev2_getD r i
    show (a :: b :: r).getD (2 * i + 2) 0 = (ev2 r).getD i 0
    rw [← ih]
    rfl
theorem ev2_getD1 (l : List Int) (i : Nat) : l.getD (2 * i + 1) 0 = (ev2 (l.drop 1)).getD i 0 := by
  rw [← ev2_getD]
  cases l <;> rfl
theorem within_idx {l : List Int} {lo up : Int} (h : withinB l lo up = false) : ∃ i, i < l.length ∧ ¬ (lo ≤ l.getD i 0 ∧ l.getD i 0 ≤ up) := by
  unfold withinB at h
  rw [List.all_eq_false] at h
  obtain ⟨z, hz, h⟩ := h
  obtain ⟨i, hi, rfl⟩ := List.mem_iff_getElem.mp hz
  refine ⟨i, hi, fun e => h ?_⟩
  rw [List.getD_eq_getElem?_getD, List.getElem?_eq_getElem hi] at e
  rw [Bool.and_eq_true, decide_eq_true_iff, decide_eq_true_iff]
  exact e
theorem within_all {l : List Int} {lo up : Int} (h : withinB l lo up = true) {i : Nat} (hi : i < l.length) : lo ≤ l.getD i 0 ∧ l.getD i 0 ≤ up := by
  have := List.all_eq_true.mp h _ (List.getElem_mem hi)
  rw [Bool.and_eq_true, decide_eq_true_iff, decide_eq_true_iff] at this
  rw [List.getD_eq_getElem?_getD, List.getElem?_eq_getElem hi]
  exact this
theorem read_is (n : Nat) (r : List Int) : Nf01.read n r = if r.length ≠ 2 * n then none else if withinB (ev2 r) (-1000) 1000 = false then none else if withinB (ev2 (r.drop 1)) 1 1000 = false then none else some ((numOf r).map Rf.psi) := by
  unfold Nf01.read
  by_cases h : r.length ≠ 2 * n
  · rw [if_pos h, if_pos h]
  · rw [if_neg h, if_neg h]
    have h : r.length = 2 * n := by simpa using h
    obtain ⟨l1, l2⟩ := ev2_len h
    have hf : (fun i => (let a := r.getD (2 * i) 0
        let b := r.getD (2 * i + 1) 0
        if b < 1 ∨ 1000 < b ∨ 1000 < a.natAbs then none else some (Nf01.F.of a b) : Option Nf01.F)) = fun i => if (ev2 (r.drop 1)).getD i 0 < 1 ∨ 1000 < (ev2 (r.drop 1)).getD i 0 ∨ 1000 < ((ev2 r).getD i 0).natAbs then none else some (Nf01.F.of ((ev2 r).getD i 0) ((ev2 (r.drop 1)).getD i 0)) := by
      funext i
      simp only [ev2_getD, ev2_getD1]
    rw [hf]
    by_cases h1 : withinB (ev2 r) (-1000) 1000 = false
    · rw [if_pos h1]
      obtain ⟨i, hi, hn⟩ := within_idx h1
      exact mapM_none (x := i) (List.mem_range.mpr (by omega)) (if_pos (by omega))
    · rw [if_neg h1]
      have h1 : withinB (ev2 r) (-1000) 1000 = true := by simpa using h1
      by_cases h2 : withinB (ev2 (r.drop 1)) 1 1000 = false
      · rw [if_pos h2]
        obtain ⟨i, hi, hn⟩ := within_idx h2
        exact mapM_none (x := i) (List.mem_range.mpr (by omega)) (if_pos (by omega))
      · rw [if_neg h2]
        have h2 : withinB (ev2 (r.drop 1)) 1 1000 = true := by simpa using h2
        rw [mapM_some (g := fun i => Nf01.F.of ((ev2 r).getD i 0) ((ev2 (r.drop 1)).getD i 0)) fun i hi => ?_]
        · congr 1
          unfold numOf
          refine List.ext_getElem ?_ fun i hi1 hi2 => ?_
          · rw [List.length_map, List.length_range, List.length_map, List.length_map, List.length_zip, l1, l2, Nat.min_self]
          · have hi : i < n := by simpa using hi1
            have a2 := within_all h2 (i := i) (by omega)
            rw [List.getElem_map, List.getElem_map, List.getElem_map, List.getElem_zip, List.getElem_range, Rf.of_psi _ _ (by omega)]
            rw [List.getD_eq_getElem?_getD, List.getElem?_eq_getElem (show i < (ev2 r).length by omega), List.getD_eq_getElem?_getD, List.getElem?_eq_getElem (show i < (ev2 (r.drop 1)).length by omega)]
            rfl
        · have hi := List.mem_range.mp hi
          have a1 := within_all h1 (i := i) (by omega)
          have a2 := within_all h2 (i := i) (by omega)
          exact if_neg (by omega)
theorem number_is (m : Stt) (r : List Int) : EE (Nf01.step (sOf m) (.num r)) = rs (numberM m r) := by
  show EE (match Nf01.read m.1.length r with | none => (sOf m, Nf01.ok (-1)) | some a => (sOf m).put a) = _
  rw [read_is]
  unfold numberM
  by_cases h : r.length ≠ 2 * m.1.length
  · rw [if_pos h, if_pos h]; rfl
  · rw [if_neg h, if_neg h]
    by_cases h1 : withinB (ev2 r) (-1000) 1000 = false
    · rw [if_pos h1, if_pos h1]; rfl
    · rw [if_neg h1, if_neg h1]
      by_cases h2 : withinB (ev2 (r.drop 1)) 1 1000 = false
      · rw [if_pos h2, if_pos h2]; rfl
      · rw [if_neg h2, if_neg h2]
        exact put_is m (numOf r)
/-! ### each call -/
theorem ne_zeros {k : List Int} {b : Rf.L} (h : ((b.map fun q => q.num).any fun z => z != 0) = true) : b ≠ Rf.zerosR k := by
  rintro rfl
  rw [List.any_eq_true] at h
  obtain ⟨z, hz, hne⟩ := h
  obtain ⟨q, hq, rfl⟩ := List.mem_map.mp hz
  rw [List.eq_of_mem_replicate hq] at hne
  cases hne
theorem by_is {m : Stt} (h : StOk m) {a b : Rf.L} (hb : b ∈ m.2) : EE (if Nf01.isZero (b.map Rf.psi) = true then (sOf m, Nf01.ok (-3)) else (sOf m).put (Nf01.times (sOf m).k (a.map Rf.psi) (Nf01.inverse (sOf m).k (b.map Rf.psi)))) = rs (nBy m [a, b]) := by
  rw [zero_is]
  show _ = rs (if ((b.map fun q => q.num).any fun z => z != 0) = true then putM m (Rf.timesR m.1 a (Rf.inverseR m.1 b)) else (m, [-3]))
  by_cases hz : ((b.map fun q => q.num).any fun z => z != 0) = true
  · rw [if_pos hz, if_neg (by rw [hz]; decide)]
    have hl := (h.all b hb).1
    have e1 : Nf01.inverse (sOf m).k (b.map Rf.psi) = (Rf.inverseR m.1 b).map Rf.psi := Rf.inverse_psi m.1 b (Rf.head_ne h.fld.deg hl (Rf.norm_ne h.fld.deg h.fld.irr hl (ne_zeros hz)))
    rw [e1]
    have e2 : Nf01.times (sOf m).k (a.map Rf.psi) ((Rf.inverseR m.1 b).map Rf.psi) = _ := Rf.times_psi m.1 a (Rf.inverseR m.1 b)
    rw [e2]
    exact put_is m _
  · rw [if_neg hz, if_pos (by simpa using hz)]
    rfl
theorem drop_is (m : Stt) : EE (Nf01.step (sOf m) .drop) = rs (withM 14 m []) := by
  show EE (if m.2.map (·.map Rf.psi) = [] then (sOf m, Nf01.ok (-4)) else (⟨m.1, (m.2.map (·.map Rf.psi)).dropLast⟩, Nf01.ok ((m.2.map (·.map Rf.psi)).length - 1 : Nat))) = rs (if m.2 = [] then (m, [-4]) else ((m.1, m.2.dropLast), [(m.2.length : Int) - 1]))
  by_cases h : m.2 = []
  · rw [if_pos h, if_pos (by rw [h]; rfl)]
    rfl
  · rw [if_neg h, if_neg (by simpa using h)]
    have hl : 0 < m.2.length := List.length_pos_iff.mpr h
    show ((⟨m.1, (m.2.map (·.map Rf.psi)).dropLast⟩ : Nf01.State), [(((m.2.map (·.map Rf.psi)).length - 1 : Nat) : Int)]) = ((⟨m.1, (m.2.dropLast).map (·.map Rf.psi)⟩ : Nf01.State), [(m.2.length : Int) - 1])
    rw [List.map_dropLast, List.length_map, show ((m.2.length - 1 : Nat) : Int) = (m.2.length : Int) - 1 by omega]
theorem step_is {m : Stt} (h : StOk m) {c : List (List Int)} (hc : OkC c) (ha : Nf01Neutral.asked1 ((PyNf01.whole c).headD []) = true) : Nf01Neutral.step (sOf m) ((PyNf01.whole c).headD []) = rs (stepM m c) := by
  have len : ∀ a ∈ m.2, a.length = m.1.length := fun a ha => (h.all a ha).1
  rcases hc with ⟨p, r, rfl, hp⟩ | ⟨p, xs, rfl, h1, h2, hl, h0⟩
  · rcases hp with rfl | rfl
    · have hx : Nf01Neutral.callIn (0 :: r) = some (.field r) := by
        obtain ⟨x, hx, _⟩ := asked_some (l := 0 :: r) ha
        have hx' : (if r.length ≤ 6 then some (Nf01.Call.field r) else none) = some x := hx
        show (if r.length ≤ 6 then some (Nf01.Call.field r) else none) = _
        split at hx'
        · next hh => exact if_pos hh
        · cases hx'
      exact (step_of ha hx).trans (field_is m r)
    · have hx : Nf01Neutral.callIn (1 :: r) = some (.num r) := by
        obtain ⟨x, hx, _⟩ := asked_some (l := 1 :: r) ha
        have hx' : (if r.length ≤ 10 then some (Nf01.Call.num r) else none) = some x := hx
        show (if r.length ≤ 10 then some (Nf01.Call.num r) else none) = _
        split at hx'
        · next hh => exact if_pos hh
        · cases hx'
      exact (step_of ha hx).trans (number_is m r)
  · rw [stepM_names]
    rcases thirteen h1 h2 with rfl | rfl | rfl | rfl | rfl | rfl | rfl | rfl | rfl | rfl | rfl | rfl | rfl
    · match xs, hl with
      | [i, j], _ =>
        have hi : 0 ≤ i := h0 i (by simp)
        have hj : 0 ≤ j := h0 j (by simp)
        have hx : Nf01Neutral.callIn [2, i, j] = some (.plus i.toNat j.toNat) := by
          show (Nf01Neutral.two [i, j]).map _ = _
          rw [two_some hi hj]; rfl
        exact (step_of ha hx).trans (w2 hi hj (fun a b => (sOf m).put (Nf01.plus a b)) fun a b _ _ => by rw [Rf.plus_psi]; exact put_is m _)
    · match xs, hl with
      | [i, j], _ =>
        have hi : 0 ≤ i := h0 i (by simp)
        have hj : 0 ≤ j := h0 j (by simp)
        have hx : Nf01Neutral.callIn [3, i, j] = some (.minus i.toNat j.toNat) := by
          show (Nf01Neutral.two [i, j]).map _ = _
          rw [two_some hi hj]; rfl
        exact (step_of ha hx).trans (w2 hi hj (fun a b => (sOf m).put (Nf01.plus a (Nf01.minus b))) fun a b _ _ => by rw [Rf.minus_psi, Rf.plus_psi]; exact put_is m _)
    · match xs, hl with
      | [i, j], _ =>
        have hi : 0 ≤ i := h0 i (by simp)
        have hj : 0 ≤ j := h0 j (by simp)
        have hx : Nf01Neutral.callIn [4, i, j] = some (.times i.toNat j.toNat) := by
          show (Nf01Neutral.two [i, j]).map _ = _
          rw [two_some hi hj]; rfl
        refine (step_of ha hx).trans (w2 hi hj (fun a b => (sOf m).put (Nf01.times (sOf m).k a b)) fun a b _ _ => ?_)
        have e : Nf01.times (sOf m).k (a.map Rf.psi) (b.map Rf.psi) = _ := Rf.times_psi m.1 a b
        rw [e]; exact put_is m _
    · match xs, hl with
      | [i, j], _ =>
        have hi : 0 ≤ i := h0 i (by simp)
        have hj : 0 ≤ j := h0 j (by simp)
        have hx : Nf01Neutral.callIn [5, i, j] = some (.by_ i.toNat j.toNat) := by
          show (Nf01Neutral.two [i, j]).map _ = _
          rw [two_some hi hj]; rfl
        exact (step_of ha hx).trans (w2 hi hj (fun a b => if Nf01.isZero b = true then (sOf m, Nf01.ok (-3)) else (sOf m).put (Nf01.times (sOf m).k a (Nf01.inverse (sOf m).k b))) fun a b _ hb => by_is h hb)
    · match xs, hl with
      | [i], _ =>
        have hi : 0 ≤ i := h0 i (by simp)
        have hx : Nf01Neutral.callIn [6, i] = some (.told i.toNat) := by
          show (Nf01Neutral.one [i]).map _ = _
          rw [one_some hi]; rfl
        exact (step_of ha hx).trans (w1 hi (fun a => (sOf m, ⟨0, Nf01.nums a⟩)) fun a _ => by rw [Rf.nums_psi]; rfl)
    · match xs, hl with
      | [i], _ =>
        have hi : 0 ≤ i := h0 i (by simp)
        have hx : Nf01Neutral.callIn [7, i] = some (.norm i.toNat) := by
          show (Nf01Neutral.one [i]).map _ = _
          rw [one_some hi]; rfl
        refine (step_of ha hx).trans (w1 hi (fun a => (sOf m, ⟨0, Nf01.nums [Nf01.norm (sOf m).k a]⟩)) fun a _ => ?_)
        have e : Nf01.norm (sOf m).k (a.map Rf.psi) = _ := Rf.norm_psi m.1 a
        rw [e]; rfl
    · match xs, hl with
      | [i], _ =>
        have hi : 0 ≤ i := h0 i (by simp)
        have hx : Nf01Neutral.callIn [8, i] = some (.trace i.toNat) := by
          show (Nf01Neutral.one [i]).map _ = _
          rw [one_some hi]; rfl
        refine (step_of ha hx).trans (w1 hi (fun a => (sOf m, ⟨0, Nf01.nums [Nf01.trace (sOf m).k a]⟩)) fun a _ => ?_)
        have e : Nf01.trace (sOf m).k (a.map Rf.psi) = _ := Rf.trace_psi m.1 a
        rw [e]; rfl
    · match xs, hl with
      | [i], _ =>
        have hi : 0 ≤ i := h0 i (by simp)
        have hx : Nf01Neutral.callIn [9, i] = some (.poly i.toNat) := by
          show (Nf01Neutral.one [i]).map _ = _
          rw [one_some hi]; rfl
        refine (step_of ha hx).trans (w1 hi (fun a => (sOf m, ⟨0, Nf01.nums (Nf01.charOf (sOf m).k a)⟩)) fun a _ => ?_)
        have e : Nf01.charOf (sOf m).k (a.map Rf.psi) = _ := Rf.char_psi m.1 a
        rw [e, Rf.nums_psi]; rfl
    · match xs, hl with
      | [i], _ =>
        have hi : 0 ≤ i := h0 i (by simp)
        have hx : Nf01Neutral.callIn [10, i] = some (.least i.toNat) := by
          show (Nf01Neutral.one [i]).map _ = _
          rw [one_some hi]; rfl
        refine (step_of ha hx).trans (w1 hi (fun a => (sOf m, ⟨((Nf01.least (sOf m).k a).length : Int) - 1, Nf01.nums (Nf01.least (sOf m).k a)⟩)) fun a hm => ?_)
        have e : Nf01.least (sOf m).k (a.map Rf.psi) = _ := least_is h.fld (len a hm)
        rw [e, Rf.nums_psi, List.length_map]; rfl
    · match xs, hl with
      | [i], _ =>
        have hi : 0 ≤ i := h0 i (by simp)
        have hx : Nf01Neutral.callIn [11, i] = some (.isWhole i.toNat) := by
          show (Nf01Neutral.one [i]).map _ = _
          rw [one_some hi]; rfl
        refine (step_of ha hx).trans (w1 hi (fun a => (sOf m, Nf01.ok (Nf01.flag (Nf01.isWhole (sOf m).k a)))) fun a hm => ?_)
        have e : Nf01.isWhole (sOf m).k (a.map Rf.psi) = withinB ((Rf.charR m.1 a).map fun q => (q.den : Int)) 1 1 := by
          have e : Nf01.charOf (sOf m).k (a.map Rf.psi) = _ := Rf.char_psi m.1 a
          unfold Nf01.isWhole
          rw [e]
          exact whole_is _
        rw [e]; rfl
    · match xs, hl with
      | [i], _ =>
        have hi : 0 ≤ i := h0 i (by simp)
        have hx : Nf01Neutral.callIn [12, i] = some (.signs i.toNat) := by
          show (Nf01Neutral.one [i]).map _ = _
          rw [one_some hi]; rfl
        refine (step_of ha hx).trans (w1 hi (fun a => (sOf m, ⟨(Nf01.reals (sOf m).k : Nat), (List.range (Nf01.reals (sOf m).k)).map fun r => Nf01.sign (sOf m).k a (r + 1)⟩)) fun a hm => ?_)
        have e : ((signsR m.1 a).length : Int) = (Nf01.reals m.1 : Nat) := by
          unfold signsR
          rw [List.length_map, List.length_range]
        show _ = rs (m, ((signsR m.1 a).length : Int) :: signsR m.1 a)
        rw [e]; rfl
    · match xs, hl with
      | [i, j], _ =>
        have hi : 0 ≤ i := h0 i (by simp)
        have hj : 0 ≤ j := h0 j (by simp)
        have hx : Nf01Neutral.callIn [13, i, j] = some (.alike i.toNat j.toNat) := by
          show (Nf01Neutral.two [i, j]).map _ = _
          rw [two_some hi hj]; rfl
        refine (step_of ha hx).trans (w2 hi hj (fun a b => (sOf m, Nf01.ok (Nf01.flag (Nf01.least (sOf m).k a == Nf01.least (sOf m).k b)))) fun a b h1 h2 => ?_)
        have e := alike_is h.fld (len a h1) (len b h2)
        have e' : Nf01.flag (Nf01.least (sOf m).k (a.map Rf.psi) == Nf01.least (sOf m).k (b.map Rf.psi)) = _ := e
        rw [e']; rfl
    · match xs, hl with
      | [], _ => exact (step_of ha rfl).trans (drop_is m)
/-! ### all calls -/
theorem told_is : ∀ {m : Stt} (h : StOk m) {cs : List (List (List Int))}, (∀ c ∈ cs, OkC c ∧ Nf01Neutral.asked1 ((PyNf01.whole c).headD []) = true) →
    PyFlat.told (PyFlat.played (fun s c => Nf01Neutral.step s (c.headD [])) (sOf m) (cs.map PyNf01.whole)) = tlM m cs
  | m, h, [], _ => rfl
  | m, h, c :: cs, hc => by
    obtain ⟨h1, h2⟩ := hc c (List.mem_cons_self ..)
    have e := step_is h h1 h2
    have ih := told_is (m := (stepM m c).1) (stepM_ok h h1) (cs := cs) fun c' h' => hc c' (List.mem_cons_of_mem _ h')
    have g1 : PyFlat.told (PyFlat.played (fun s c => Nf01Neutral.step s (c.headD [])) (sOf m) ((c :: cs).map PyNf01.whole)) = ((Nf01Neutral.step (sOf m) ((PyNf01.whole c).headD [])).2.length : Int) :: ((Nf01Neutral.step (sOf m) ((PyNf01.whole c).headD [])).2 ++ PyFlat.told (PyFlat.played (fun s c => Nf01Neutral.step s (c.headD [])) (Nf01Neutral.step (sOf m) ((PyNf01.whole c).headD [])).1 (cs.map PyNf01.whole))) := rfl
    rw [g1, e]
    show ((stepM m c).2.length : Int) :: ((stepM m c).2 ++ PyFlat.told (PyFlat.played (fun s c => Nf01Neutral.step s (c.headD [])) (sOf (stepM m c).1) (cs.map PyNf01.whole))) = _
    rw [ih]
    rfl
theorem asked_raw {l : List Int} (h : PyNf01.answers_asked l = true) : ∃ raw, PyFlat.calls PyNf01.shape l.length l = some raw ∧ (∀ c ∈ raw, OkC c) ∧ PyNf01.answers l = tlM ([1, 0], []) raw ∧ (PyNf01.answers l).length ≤ 10000000 := by
  unfold PyNf01.answers_asked at h
  split at h
  · cases h
  · next raw hraw =>
    rw [Bool.and_eq_true, Bool.and_eq_true] at h
    obtain ⟨⟨_, ha⟩, hs⟩ := h
    have hask : ∀ c ∈ raw, Nf01Neutral.asked1 ((PyNf01.whole c).headD []) = true := by
      unfold Nf01Neutral.asked at ha
      rw [Bool.and_eq_true] at ha
      intro c hc
      refine List.all_eq_true.mp ha.1 _ ?_
      exact List.mem_map.mpr ⟨PyNf01.whole c, List.mem_map.mpr ⟨c, hc, rfl⟩, rfl⟩
    have hok : ∀ c ∈ raw, OkC c := by
      intro c hc
      obtain ⟨p, xs, rows, n, k, rfl, hsh, hn, hk⟩ := calls_form _ _ _ hraw c hc
      rcases shape_inv hsh with ⟨hp, rfl, rfl⟩ | ⟨h1, h2, rfl, rfl⟩
      · match xs, hn, rows, hk with
        | [], _, [r], _ => exact .inl ⟨p, r, rfl, hp⟩
      · match rows, hk with
        | [], _ => exact .inr ⟨p, xs, rfl, h1, h2, hn, names_ok h1 h2 hn (hask _ hc)⟩
    refine ⟨raw, hraw, hok, ?_, ?_⟩
    · unfold PyNf01.answers PyNf01.calls
      rw [hraw]
      exact told_is st_start fun c hc => ⟨hok c hc, hask c hc⟩
    · unfold PyFlat.short at hs
      exact of_decide_eq_true hs
end Rp

set_option Elab.async false
set_option linter.all false
set_option maxRecDepth 100000
set_option maxHeartbeats 2000000
set_option exponentiation.threshold 1000000
namespace Rp
open PySem PySem.Spec PyProof.Rows L2
/-! ### the end: what the top has written -/
/-- a def of the module -/
def HasDef (K : PySem.W.Frag) (mg : Str → Option Value) (x : Str) (ps : List Str) (st : Stmt) : Prop := ∃ (f : Addr) (fd : FuncData), mg x = some (.ref f) ∧ Fun K x x st f fd ∧ Binds K fd ps []
section
variable {K : PySem.W.Frag} {h : Heap} {mg : Str → Option Value}
theorem def_mk {x : Str} {ps : List Str} {st : Stmt} {f : Addr} {oc : Value} {od an : Option Addr} {osl : Array (Option Value)} {kV doc pm cdv ct : Value} (X : K.In h) (G : h.Ns mainGlobals mg)
    (hb : ∀ (kV doc pm : Value) (an : Option Addr) (cdv ct : Value) (us : List Value), us.length = ps.length → bindArgs (PySem.W.fnOf x x (defArgs st) (defBody st) (defScope st) .none kV doc pm an cdv ct) ⟨us, []⟩ = pure (ps.zip us))
    (a : PySem.W.nsIn K mainGlobals x = some (some (.ref f))) (l : K.lookup f = some ⟨oc, od, .func (PySem.W.fnOf x x (defArgs st) (defBody st) (defScope st) .none kV doc pm an cdv ct), osl⟩) (c : PySem.W.codeIn K cdv x = true) (k : PySem.W.keepIn K (.ref f) = true) :
    HasDef K mg x ps st := by
  have F := fun_mk (st := st) l c k
  exact ⟨f, _, PySem.W.mg_of X G a, F, F.binds hb⟩
/-- the class -/
def HasKept (K : PySem.W.Frag) (mg : Str → Option Value) : Prop := ∃ C : Addr, Nonempty (Tx K mg C) ∧ ∃ (fI : Addr) (fdI : FuncData), Mk K C fI ∧ Fun K "__init__" "Kept.__init__" s_init fI fdI ∧ Binds K fdI ["self"] []
theorem kept_mk {C f : Addr} {oc : Value} {od an : Option Addr} {osl : Array (Option Value)} {kV doc pm cdv ct : Value} {tM tL tC tI : Tok} (X : K.In h) (G : h.Ns mainGlobals mg)
    (aC : PySem.W.nsIn K mainGlobals "Kept" = some (some (.ref C))) (ai : PySem.W.findIn K (.ref C) "__init__" = some (some (.ref f))) (ii : PySem.W.isFn K (.ref f) = true)
    (l : K.lookup f = some ⟨oc, od, .func (PySem.W.fnOf "__init__" "Kept.__init__" (defArgs s_init) (defBody s_init) (defScope s_init) .none kV doc pm an cdv ct), osl⟩) (c : PySem.W.codeIn K cdv "Kept.__init__" = true) (k : PySem.W.keepIn K (.ref f) = true)
    (pg : PySem.W.plainGet K C Str.empty = true) (hd : PySem.W.hasDictIn K C = true) (po : PySem.W.plainOver K C = true) (sa : PySem.W.findIn K (.ref C) "__setattr__" = some (some (.builtin "object.__setattr__"))) (mk : PySem.W.makesIn K C = true) (kc : PySem.W.keepIn K (.ref C) = true)
    (nC : PySem.W.findIn K (.ref C) "coefficients" = some none) (nN : PySem.W.findIn K (.ref C) "numbers" = some none)
    (cM : PySem.W.nsIn K mainGlobals "MOST_NUMBERS" = some (some (.int 8 tM))) (cL : PySem.W.nsIn K mainGlobals "LARGEST_KEPT" = some (some (.int 1000000000000000000 tL))) (cC : PySem.W.nsIn K mainGlobals "LARGEST_COEFFICIENT" = some (some (.int 20 tC))) (cI : PySem.W.nsIn K mainGlobals "LARGEST_HANDED_IN" = some (some (.int 1000 tI))) : HasKept K mg := by
  have F := fun_mk (st := s_init) l c k
  exact ⟨C, ⟨⟨⟨pg, hd, po, sa⟩, nC, nN, PySem.W.mg_of X G aC, tM, tL, tC, tI, PySem.W.mg_of X G cM, PySem.W.mg_of X G cL, PySem.W.mg_of X G cC, PySem.W.mg_of X G cI⟩⟩, f, _, ⟨mk, ai, ii, kc⟩, F, F.binds (ps := ["self"]) fun _ _ _ _ _ _ us hl => match us, hl with | [_], _ => rfl⟩
/-! ### the dicts -/
def keysOk (es : Array DictEntry) : Bool := es.toList.all fun e => match e.key with | .int k _ => e.hash == hashInt k | _ => false
theorem keys_of {es : Array DictEntry} (h : keysOk es = true) : ∀ e ∈ es.toList, ∃ (k : Int) (t : Tok), e.key = .int k t ∧ e.hash = hashInt k := by
  intro e he
  have := List.all_eq_true.mp h e he
  split at this
  · next k t hk => exact ⟨k, t, hk, eq_of_beq this⟩
  · cases this
def HasRow (K : PySem.W.Frag) (mg : Str → Option Value) : Prop := ∃ (d : Addr) (es : Array DictEntry) (n : Nat), IDict K d es n ∧ mg "CALLS_WITH_A_ROW" = some (.ref d) ∧ (∃ f, findBy Value.isInt es (0 : Int) = some (.ref f) ∧ mg "answer_field" = some (.ref f)) ∧ (∃ f, findBy Value.isInt es (1 : Int) = some (.ref f) ∧ mg "answer_number" = some (.ref f)) ∧ ∀ c : Int, 2 ≤ c → c ≤ 14 → findBy Value.isInt es c = none
theorem row_mk {d f0 f1 : Addr} {es : Array DictEntry} {n : Nat} (X : K.In h) (G : h.Ns mainGlobals mg) (a : PySem.W.nsIn K mainGlobals "CALLS_WITH_A_ROW" = some (some (.ref d))) (l : K.lookup d = some ⟨.type "dict", none, .dict es n, #[]⟩)
    (n0 : PySem.W.nsIn K mainGlobals "answer_field" = some (some (.ref f0))) (n1 : PySem.W.nsIn K mainGlobals "answer_number" = some (some (.ref f1)))
    (ks : keysOk es = true) (low : (d == sysModules) = false) (e0 : findBy Value.isInt es (0 : Int) = some (.ref f0)) (e1 : findBy Value.isInt es (1 : Int) = some (.ref f1)) (eN : ∀ c : Int, 2 ≤ c → c ≤ 14 → findBy Value.isInt es c = none) : HasRow K mg :=
  ⟨d, es, n, ⟨l, keys_of ks, low⟩, PySem.W.mg_of X G a, ⟨f0, e0, PySem.W.mg_of X G n0⟩, ⟨f1, e1, PySem.W.mg_of X G n1⟩, eN⟩
def HasHow (K : PySem.W.Frag) (mg : Str → Option Value) : Prop := ∃ (d : Addr) (es : Array DictEntry) (n : Nat), IDict K d es n ∧ mg "HOW_MANY_NAMES" = some (.ref d) ∧ ∀ c : Int, 2 ≤ c → c ≤ 14 → ∃ t, findBy Value.isInt es c = some (.int (ar c : Int) t)
theorem how_mk {d : Addr} {es : Array DictEntry} {n : Nat} (X : K.In h) (G : h.Ns mainGlobals mg) (a : PySem.W.nsIn K mainGlobals "HOW_MANY_NAMES" = some (some (.ref d))) (l : K.lookup d = some ⟨.type "dict", none, .dict es n, #[]⟩)
    (ks : keysOk es = true) (low : (d == sysModules) = false) (eN : ∀ c : Int, 2 ≤ c → c ≤ 14 → ∃ t, findBy Value.isInt es c = some (.int (ar c : Int) t)) : HasHow K mg :=
  ⟨d, es, n, ⟨l, keys_of ks, low⟩, PySem.W.mg_of X G a, eN⟩
def nmC (c : Int) : Str := if c = 2 then "answer_plus" else if c = 3 then "answer_minus" else if c = 4 then "answer_times" else if c = 5 then "answer_by" else if c = 6 then "answer_told" else if c = 7 then "answer_norm" else if c = 8 then "answer_trace" else if c = 9 then "answer_polynomial" else if c = 10 then "answer_least" else if c = 11 then "answer_whole" else if c = 12 then "answer_signs" else if c = 13 then "answer_alike" else "answer_drop"
def HasNames (K : PySem.W.Frag) (mg : Str → Option Value) : Prop := ∃ (d : Addr) (es : Array DictEntry) (n : Nat), IDict K d es n ∧ mg "CALLS_WITH_NAMES" = some (.ref d) ∧ ∀ c : Int, 2 ≤ c → c ≤ 14 → ∃ f, findBy Value.isInt es c = some (.ref f) ∧ mg (nmC c) = some (.ref f)
theorem names_mk {d f2 f3 f4 f5 f6 f7 f8 f9 f10 f11 f12 f13 f14 : Addr} {es : Array DictEntry} {n : Nat} (X : K.In h) (G : h.Ns mainGlobals mg) (a : PySem.W.nsIn K mainGlobals "CALLS_WITH_NAMES" = some (some (.ref d))) (l : K.lookup d = some ⟨.type "dict", none, .dict es n, #[]⟩)
    (n2 : PySem.W.nsIn K mainGlobals "answer_plus" = some (some (.ref f2)))
    (n3 : PySem.W.nsIn K mainGlobals "answer_minus" = some (some (.ref f3)))
    (n4 : PySem.W.nsIn K mainGlobals "answer_times" = some (some (.ref f4)))
    (n5 : PySem.W.nsIn K mainGlobals "answer_by" = some (some (.ref f5)))
    (n6 : PySem.W.nsIn K mainGlobals "answer_told" = some (some (.ref f6)))
    (n7 : PySem.W.nsIn K mainGlobals "answer_norm" = some (some (.ref f7)))
    (n8 : PySem.W.nsIn K mainGlobals "answer_trace" = some (some (.ref f8)))
    (n9 : PySem.W.nsIn K mainGlobals "answer_polynomial" = some (some (.ref f9)))
    (n10 : PySem.W.nsIn K mainGlobals "answer_least" = some (some (.ref f10)))
    (n11 : PySem.W.nsIn K mainGlobals "answer_whole" = some (some (.ref f11)))
    (n12 : PySem.W.nsIn K mainGlobals "answer_signs" = some (some (.ref f12)))
    (n13 : PySem.W.nsIn K mainGlobals "answer_alike" = some (some (.ref f13)))
    (n14 : PySem.W.nsIn K mainGlobals "answer_drop" = some (some (.ref f14)))
    (ks : keysOk es = true) (low : (d == sysModules) = false)
    (e2 : findBy Value.isInt es (2 : Int) = some (.ref f2))
    (e3 : findBy Value.isInt es (3 : Int) = some (.ref f3))
    (e4 : findBy Value.isInt es (4 : Int) = some (.ref f4))
    (e5 : findBy Value.isInt es (5 : Int) = some (.ref f5))
    (e6 : findBy Value.isInt es (6 : Int) = some (.ref f6))
    (e7 : findBy Value.isInt es (7 : Int) = some (.ref f7))
    (e8 : findBy Value.isInt es (8 : Int) = some (.ref f8))
    (e9 : findBy Value.isInt es (9 : Int) = some (.ref f9))
    (e10 : findBy Value.isInt es (10 : Int) = some (.ref f10))
    (e11 : findBy Value.isInt es (11 : Int) = some (.ref f11))
    (e12 : findBy Value.isInt es (12 : Int) = some (.ref f12))
    (e13 : findBy Value.isInt es (13 : Int) = some (.ref f13))
    (e14 : findBy Value.isInt es (14 : Int) = some (.ref f14))
    : HasNames K mg := by
  refine ⟨d, es, n, ⟨l, keys_of ks, low⟩, PySem.W.mg_of X G a, fun c h1 h2 => ?_⟩
  rcases thirteen h1 h2 with rfl | rfl | rfl | rfl | rfl | rfl | rfl | rfl | rfl | rfl | rfl | rfl | rfl
  · exact ⟨f2, e2, PySem.W.mg_of X G n2⟩
  · exact ⟨f3, e3, PySem.W.mg_of X G n3⟩
  · exact ⟨f4, e4, PySem.W.mg_of X G n4⟩
  · exact ⟨f5, e5, PySem.W.mg_of X G n5⟩
  · exact ⟨f6, e6, PySem.W.mg_of X G n6⟩
  · exact ⟨f7, e7, PySem.W.mg_of X G n7⟩
  · exact ⟨f8, e8, PySem.W.mg_of X G n8⟩
  · exact ⟨f9, e9, PySem.W.mg_of X G n9⟩
  · exact ⟨f10, e10, PySem.W.mg_of X G n10⟩
  · exact ⟨f11, e11, PySem.W.mg_of X G n11⟩
  · exact ⟨f12, e12, PySem.W.mg_of X G n12⟩
  · exact ⟨f13, e13, PySem.W.mg_of X G n13⟩
  · exact ⟨f14, e14, PySem.W.mg_of X G n14⟩
theorem bt_mk (X : K.In h) (G : h.Ns mainGlobals mg) (z0 : PySem.W.nsIn K mainGlobals "len" = some none) (z1 : PySem.W.nsIn K mainGlobals "abs" = some none) (z2 : PySem.W.nsIn K mainGlobals "sum" = some none) (z3 : PySem.W.nsIn K mainGlobals "all" = some none) (z4 : PySem.W.nsIn K mainGlobals "any" = some none) (z5 : PySem.W.nsIn K mainGlobals "max" = some none) (z6 : PySem.W.nsIn K mainGlobals "zip" = some none) (z7 : PySem.W.nsIn K mainGlobals "range" = some none) (z8 : PySem.W.nsIn K mainGlobals "enumerate" = some none) (z9 : PySem.W.nsIn K mainGlobals "reversed" = some none) : Bt mg :=
  ⟨PySem.W.mg_none_of X G z0, PySem.W.mg_none_of X G z1, PySem.W.mg_none_of X G z2, PySem.W.mg_none_of X G z3, PySem.W.mg_none_of X G z4, PySem.W.mg_none_of X G z5, PySem.W.mg_none_of X G z6, PySem.W.mg_none_of X G z7, PySem.W.mg_none_of X G z8, PySem.W.mg_none_of X G z9⟩
end
section
variable {P : Program} {w : World} {K : PySem.W.Frag} {mg : Str → Option Value} {base : Heap}
theorem all_ok (B : Bt mg) (hI : HasKept K mg) (hR : HasRow K mg) (hN : HasNames K mg) (hH : HasHow K mg)
    (D_greatest_divisor : HasDef K mg "greatest_divisor" ["one", "other"] s_greatest_divisor)
    (D_in_lowest_terms : HasDef K mg "in_lowest_terms" ["above", "below"] s_in_lowest_terms)
    (D_over_one_below : HasDef K mg "over_one_below" ["places"] s_over_one_below)
    (D_places_of : HasDef K mg "places_of" ["above", "below"] s_places_of)
    (D_sum_of : HasDef K mg "sum_of" ["left", "right"] s_sum_of)
    (D_difference_of : HasDef K mg "difference_of" ["left", "right"] s_difference_of)
    (D_times_root : HasDef K mg "times_root" ["coefficients", "row"] s_times_root)
    (D_rows_of : HasDef K mg "rows_of" ["coefficients", "above"] s_rows_of)
    (D_whole_product : HasDef K mg "whole_product" ["coefficients", "left", "right"] s_whole_product)
    (D_product_of : HasDef K mg "product_of" ["coefficients", "left", "right"] s_product_of)
    (D_determinant : HasDef K mg "determinant" ["rows"] s_determinant)
    (D_quotient_of : HasDef K mg "quotient_of" ["coefficients", "left", "right"] s_quotient_of)
    (D_norm_of : HasDef K mg "norm_of" ["coefficients", "number"] s_norm_of)
    (D_whole_trace : HasDef K mg "whole_trace" ["coefficients", "above"] s_whole_trace)
    (D_trace_of : HasDef K mg "trace_of" ["coefficients", "number"] s_trace_of)
    (D_whole_polynomial : HasDef K mg "whole_polynomial" ["coefficients", "above"] s_whole_polynomial)
    (D_whole_least : HasDef K mg "whole_least" ["coefficients", "above"] s_whole_least)
    (D_with_roots_divided : HasDef K mg "with_roots_divided" ["polynomial", "below"] s_with_roots_divided)
    (D_polynomial_of : HasDef K mg "polynomial_of" ["coefficients", "number"] s_polynomial_of)
    (D_least_of : HasDef K mg "least_of" ["coefficients", "number"] s_least_of)
    (D_value_at : HasDef K mg "value_at" ["polynomial", "above", "below"] s_value_at)
    (D_bound_of_roots : HasDef K mg "bound_of_roots" ["polynomial"] s_bound_of_roots)
    (D_whole_roots : HasDef K mg "whole_roots" ["polynomial"] s_whole_roots)
    (D_parts_into_quadratics : HasDef K mg "parts_into_quadratics" ["polynomial"] s_parts_into_quadratics)
    (D_can_be_parted : HasDef K mg "can_be_parted" ["polynomial"] s_can_be_parted)
    (D_without_zero_tops : HasDef K mg "without_zero_tops" ["polynomial"] s_without_zero_tops)
    (D_rest_of_division : HasDef K mg "rest_of_division" ["dividend", "divisor"] s_rest_of_division)
    (D_sturm_chain : HasDef K mg "sturm_chain" ["coefficients", "above"] s_sturm_chain)
    (D_changes_at : HasDef K mg "changes_at" ["chain", "above", "below"] s_changes_at)
    (D_unweighed_chain : HasDef K mg "unweighed_chain" ["coefficients"] s_unweighed_chain)
    (D_count_real_roots : HasDef K mg "count_real_roots" ["coefficients"] s_count_real_roots)
    (D_real_roots_apart : HasDef K mg "real_roots_apart" ["coefficients"] s_real_roots_apart)
    (D_signs_of : HasDef K mg "signs_of" ["coefficients", "number"] s_signs_of)
    (D_all_within : HasDef K mg "all_within" ["values", "least", "greatest"] s_all_within)
    (D_keep : HasDef K mg "keep" ["kept", "places"] s_keep)
    (D_answer_field : HasDef K mg "answer_field" ["kept", "coefficients"] s_answer_field)
    (D_answer_number : HasDef K mg "answer_number" ["kept", "handed_in"] s_answer_number)
    (D_answer_plus : HasDef K mg "answer_plus" ["kept", "chosen"] s_answer_plus)
    (D_answer_minus : HasDef K mg "answer_minus" ["kept", "chosen"] s_answer_minus)
    (D_answer_times : HasDef K mg "answer_times" ["kept", "chosen"] s_answer_times)
    (D_answer_by : HasDef K mg "answer_by" ["kept", "chosen"] s_answer_by)
    (D_answer_told : HasDef K mg "answer_told" ["kept", "chosen"] s_answer_told)
    (D_answer_norm : HasDef K mg "answer_norm" ["kept", "chosen"] s_answer_norm)
    (D_answer_trace : HasDef K mg "answer_trace" ["kept", "chosen"] s_answer_trace)
    (D_answer_polynomial : HasDef K mg "answer_polynomial" ["kept", "chosen"] s_answer_polynomial)
    (D_answer_least : HasDef K mg "answer_least" ["kept", "chosen"] s_answer_least)
    (D_answer_whole : HasDef K mg "answer_whole" ["kept", "chosen"] s_answer_whole)
    (D_answer_signs : HasDef K mg "answer_signs" ["kept", "chosen"] s_answer_signs)
    (D_answer_alike : HasDef K mg "answer_alike" ["kept", "chosen"] s_answer_alike)
    (D_answer_drop : HasDef K mg "answer_drop" ["kept", "chosen"] s_answer_drop)
    (D_answer_with_names : HasDef K mg "answer_with_names" ["kept", "call", "names"] s_answer_with_names)
    {f : Addr} {fd : FuncData} (F : Fun K "answers" "answers" s_answers f fd) : FnOk P w K mg base CX0 12 f fd ["calls"] (spAns K) := by
  obtain ⟨C, ⟨T⟩, fI, fdI, mkI, FI, bI⟩ := hI
  obtain ⟨f_greatest_divisor, d_greatest_divisor, g_greatest_divisor, F_greatest_divisor, b_greatest_divisor⟩ := D_greatest_divisor
  have C_greatest_divisor : CalN P w K mg base 1 "greatest_divisor" ["one", "other"] spGcd := ⟨f_greatest_divisor, g_greatest_divisor, d_greatest_divisor, ok_greatest_divisor F_greatest_divisor B, F_greatest_divisor.kp, b_greatest_divisor⟩
  obtain ⟨f_in_lowest_terms, d_in_lowest_terms, g_in_lowest_terms, F_in_lowest_terms, b_in_lowest_terms⟩ := D_in_lowest_terms
  have C_in_lowest_terms : CalN P w K mg base 2 "in_lowest_terms" ["above", "below"] spLow := ⟨f_in_lowest_terms, g_in_lowest_terms, d_in_lowest_terms, ok_in_lowest_terms F_in_lowest_terms C_greatest_divisor, F_in_lowest_terms.kp, b_in_lowest_terms⟩
  obtain ⟨f_over_one_below, d_over_one_below, g_over_one_below, F_over_one_below, b_over_one_below⟩ := D_over_one_below
  have C_over_one_below : CalN P w K mg base 2 "over_one_below" ["places"] spOver := ⟨f_over_one_below, g_over_one_below, d_over_one_below, ok_over_one_below F_over_one_below B C_greatest_divisor, F_over_one_below.kp, b_over_one_below⟩
  obtain ⟨f_places_of, d_places_of, g_places_of, F_places_of, b_places_of⟩ := D_places_of
  have C_places_of : CalN P w K mg base 3 "places_of" ["above", "below"] spPlaces := ⟨f_places_of, g_places_of, d_places_of, ok_places_of F_places_of C_in_lowest_terms, F_places_of.kp, b_places_of⟩
  obtain ⟨f_sum_of, d_sum_of, g_sum_of, F_sum_of, b_sum_of⟩ := D_sum_of
  have C_sum_of : CalN P w K mg base 4 "sum_of" ["left", "right"] spSum := ⟨f_sum_of, g_sum_of, d_sum_of, ok_sum_of F_sum_of B C_over_one_below C_places_of, F_sum_of.kp, b_sum_of⟩
  obtain ⟨f_difference_of, d_difference_of, g_difference_of, F_difference_of, b_difference_of⟩ := D_difference_of
  have C_difference_of : CalN P w K mg base 5 "difference_of" ["left", "right"] spDiff := ⟨f_difference_of, g_difference_of, d_difference_of, ok_difference_of F_difference_of B C_over_one_below C_places_of C_sum_of, F_difference_of.kp, b_difference_of⟩
  obtain ⟨f_times_root, d_times_root, g_times_root, F_times_root, b_times_root⟩ := D_times_root
  have C_times_root : CalN P w K mg base 1 "times_root" ["coefficients", "row"] spRoot := ⟨f_times_root, g_times_root, d_times_root, ok_times_root F_times_root B, F_times_root.kp, b_times_root⟩
  obtain ⟨f_rows_of, d_rows_of, g_rows_of, F_rows_of, b_rows_of⟩ := D_rows_of
  have C_rows_of : CalN P w K mg base 2 "rows_of" ["coefficients", "above"] spRows := ⟨f_rows_of, g_rows_of, d_rows_of, ok_rows_of F_rows_of B C_times_root, F_rows_of.kp, b_rows_of⟩
  obtain ⟨f_whole_product, d_whole_product, g_whole_product, F_whole_product, b_whole_product⟩ := D_whole_product
  have C_whole_product : CalN P w K mg base 3 "whole_product" ["coefficients", "left", "right"] spProd := ⟨f_whole_product, g_whole_product, d_whole_product, ok_whole_product F_whole_product B C_rows_of, F_whole_product.kp, b_whole_product⟩
  obtain ⟨f_product_of, d_product_of, g_product_of, F_product_of, b_product_of⟩ := D_product_of
  have C_product_of : CalN P w K mg base 4 "product_of" ["coefficients", "left", "right"] spProdOf := ⟨f_product_of, g_product_of, d_product_of, ok_product_of F_product_of B C_over_one_below C_places_of C_whole_product, F_product_of.kp, b_product_of⟩
  obtain ⟨f_determinant, d_determinant, g_determinant, F_determinant, b_determinant⟩ := D_determinant
  have C_determinant : CalN P w K mg base 5 "determinant" ["rows"] spDetA := ⟨f_determinant, g_determinant, d_determinant, ok_determinantA F_determinant B g_determinant b_determinant, F_determinant.kp, b_determinant⟩
  obtain ⟨f_quotient_of, d_quotient_of, g_quotient_of, F_quotient_of, b_quotient_of⟩ := D_quotient_of
  have C_quotient_of : CalN P w K mg base 6 "quotient_of" ["coefficients", "left", "right"] spQuot := ⟨f_quotient_of, g_quotient_of, d_quotient_of, ok_quotient_of F_quotient_of B C_over_one_below C_rows_of C_determinant C_places_of, F_quotient_of.kp, b_quotient_of⟩
  obtain ⟨f_norm_of, d_norm_of, g_norm_of, F_norm_of, b_norm_of⟩ := D_norm_of
  have C_norm_of : CalN P w K mg base 6 "norm_of" ["coefficients", "number"] spNorm := ⟨f_norm_of, g_norm_of, d_norm_of, ok_norm_of F_norm_of B C_over_one_below C_rows_of C_determinant C_in_lowest_terms, F_norm_of.kp, b_norm_of⟩
  obtain ⟨f_whole_trace, d_whole_trace, g_whole_trace, F_whole_trace, b_whole_trace⟩ := D_whole_trace
  have C_whole_trace : CalN P w K mg base 3 "whole_trace" ["coefficients", "above"] spTrace := ⟨f_whole_trace, g_whole_trace, d_whole_trace, ok_whole_trace F_whole_trace B C_rows_of, F_whole_trace.kp, b_whole_trace⟩
  obtain ⟨f_trace_of, d_trace_of, g_trace_of, F_trace_of, b_trace_of⟩ := D_trace_of
  have C_trace_of : CalN P w K mg base 4 "trace_of" ["coefficients", "number"] spTraceOf := ⟨f_trace_of, g_trace_of, d_trace_of, ok_trace_of F_trace_of B C_over_one_below C_whole_trace C_in_lowest_terms, F_trace_of.kp, b_trace_of⟩
  obtain ⟨f_whole_polynomial, d_whole_polynomial, g_whole_polynomial, F_whole_polynomial, b_whole_polynomial⟩ := D_whole_polynomial
  have C_whole_polynomial : CalN P w K mg base 4 "whole_polynomial" ["coefficients", "above"] spWPoly := ⟨f_whole_polynomial, g_whole_polynomial, d_whole_polynomial, ok_whole_polynomial F_whole_polynomial B C_whole_product C_whole_trace, F_whole_polynomial.kp, b_whole_polynomial⟩
  obtain ⟨f_whole_least, d_whole_least, g_whole_least, F_whole_least, b_whole_least⟩ := D_whole_least
  have C_whole_least : CalN P w K mg base 5 "whole_least" ["coefficients", "above"] spWLeast := ⟨f_whole_least, g_whole_least, d_whole_least, ok_whole_least F_whole_least B C_whole_polynomial, F_whole_least.kp, b_whole_least⟩
  obtain ⟨f_with_roots_divided, d_with_roots_divided, g_with_roots_divided, F_with_roots_divided, b_with_roots_divided⟩ := D_with_roots_divided
  have C_with_roots_divided : CalN P w K mg base 3 "with_roots_divided" ["polynomial", "below"] spDivided := ⟨f_with_roots_divided, g_with_roots_divided, d_with_roots_divided, ok_with_roots_divided F_with_roots_divided B C_in_lowest_terms, F_with_roots_divided.kp, b_with_roots_divided⟩
  obtain ⟨f_polynomial_of, d_polynomial_of, g_polynomial_of, F_polynomial_of, b_polynomial_of⟩ := D_polynomial_of
  have C_polynomial_of : CalN P w K mg base 5 "polynomial_of" ["coefficients", "number"] spPolyOf := ⟨f_polynomial_of, g_polynomial_of, d_polynomial_of, ok_polynomial_of F_polynomial_of B C_over_one_below C_whole_polynomial C_with_roots_divided, F_polynomial_of.kp, b_polynomial_of⟩
  obtain ⟨f_least_of, d_least_of, g_least_of, F_least_of, b_least_of⟩ := D_least_of
  have C_least_of : CalN P w K mg base 6 "least_of" ["coefficients", "number"] spLeastOf := ⟨f_least_of, g_least_of, d_least_of, ok_least_of F_least_of B C_over_one_below C_whole_least C_with_roots_divided, F_least_of.kp, b_least_of⟩
  obtain ⟨f_value_at, d_value_at, g_value_at, F_value_at, b_value_at⟩ := D_value_at
  have C_value_at : CalN P w K mg base 1 "value_at" ["polynomial", "above", "below"] spValue := ⟨f_value_at, g_value_at, d_value_at, ok_value_at F_value_at B, F_value_at.kp, b_value_at⟩
  obtain ⟨f_bound_of_roots, d_bound_of_roots, g_bound_of_roots, F_bound_of_roots, b_bound_of_roots⟩ := D_bound_of_roots
  have C_bound_of_roots : CalN P w K mg base 1 "bound_of_roots" ["polynomial"] spBound := ⟨f_bound_of_roots, g_bound_of_roots, d_bound_of_roots, ok_bound_of_roots F_bound_of_roots B, F_bound_of_roots.kp, b_bound_of_roots⟩
  obtain ⟨f_whole_roots, d_whole_roots, g_whole_roots, F_whole_roots, b_whole_roots⟩ := D_whole_roots
  have C_whole_roots : CalN P w K mg base 2 "whole_roots" ["polynomial"] spRootsW := ⟨f_whole_roots, g_whole_roots, d_whole_roots, ok_whole_roots F_whole_roots B C_bound_of_roots C_value_at, F_whole_roots.kp, b_whole_roots⟩
  obtain ⟨f_parts_into_quadratics, d_parts_into_quadratics, g_parts_into_quadratics, F_parts_into_quadratics, b_parts_into_quadratics⟩ := D_parts_into_quadratics
  have C_parts_into_quadratics : CalN P w K mg base 3 "parts_into_quadratics" ["polynomial"] spParts := ⟨f_parts_into_quadratics, g_parts_into_quadratics, d_parts_into_quadratics, ok_parts_into_quadratics F_parts_into_quadratics B C_whole_roots, F_parts_into_quadratics.kp, b_parts_into_quadratics⟩
  obtain ⟨f_can_be_parted, d_can_be_parted, g_can_be_parted, F_can_be_parted, b_can_be_parted⟩ := D_can_be_parted
  have C_can_be_parted : CalN P w K mg base 4 "can_be_parted" ["polynomial"] spParted := ⟨f_can_be_parted, g_can_be_parted, d_can_be_parted, ok_can_be_parted F_can_be_parted B C_whole_roots C_parts_into_quadratics, F_can_be_parted.kp, b_can_be_parted⟩
  obtain ⟨f_without_zero_tops, d_without_zero_tops, g_without_zero_tops, F_without_zero_tops, b_without_zero_tops⟩ := D_without_zero_tops
  have C_without_zero_tops : CalN P w K mg base 1 "without_zero_tops" ["polynomial"] spTops := ⟨f_without_zero_tops, g_without_zero_tops, d_without_zero_tops, ok_without_zero_tops F_without_zero_tops B, F_without_zero_tops.kp, b_without_zero_tops⟩
  obtain ⟨f_rest_of_division, d_rest_of_division, g_rest_of_division, F_rest_of_division, b_rest_of_division⟩ := D_rest_of_division
  have C_rest_of_division : CalN P w K mg base 2 "rest_of_division" ["dividend", "divisor"] spRest := ⟨f_rest_of_division, g_rest_of_division, d_rest_of_division, ok_rest_of_division F_rest_of_division B C_without_zero_tops, F_rest_of_division.kp, b_rest_of_division⟩
  obtain ⟨f_sturm_chain, d_sturm_chain, g_sturm_chain, F_sturm_chain, b_sturm_chain⟩ := D_sturm_chain
  have C_sturm_chain : CalN P w K mg base 4 "sturm_chain" ["coefficients", "above"] spSturm := ⟨f_sturm_chain, g_sturm_chain, d_sturm_chain, ok_sturm_chain F_sturm_chain B C_without_zero_tops C_whole_product C_rest_of_division, F_sturm_chain.kp, b_sturm_chain⟩
  obtain ⟨f_changes_at, d_changes_at, g_changes_at, F_changes_at, b_changes_at⟩ := D_changes_at
  have C_changes_at : CalN P w K mg base 2 "changes_at" ["chain", "above", "below"] spChanges := ⟨f_changes_at, g_changes_at, d_changes_at, ok_changes_at F_changes_at B C_value_at, F_changes_at.kp, b_changes_at⟩
  obtain ⟨f_unweighed_chain, d_unweighed_chain, g_unweighed_chain, F_unweighed_chain, b_unweighed_chain⟩ := D_unweighed_chain
  have C_unweighed_chain : CalN P w K mg base 5 "unweighed_chain" ["coefficients"] spUnw := ⟨f_unweighed_chain, g_unweighed_chain, d_unweighed_chain, ok_unweighed_chain F_unweighed_chain B C_sturm_chain, F_unweighed_chain.kp, b_unweighed_chain⟩
  obtain ⟨f_count_real_roots, d_count_real_roots, g_count_real_roots, F_count_real_roots, b_count_real_roots⟩ := D_count_real_roots
  have C_count_real_roots : CalN P w K mg base 6 "count_real_roots" ["coefficients"] spCount := ⟨f_count_real_roots, g_count_real_roots, d_count_real_roots, ok_count_real_roots F_count_real_roots B C_unweighed_chain C_bound_of_roots C_changes_at, F_count_real_roots.kp, b_count_real_roots⟩
  obtain ⟨f_real_roots_apart, d_real_roots_apart, g_real_roots_apart, F_real_roots_apart, b_real_roots_apart⟩ := D_real_roots_apart
  have C_real_roots_apart : CalN P w K mg base 7 "real_roots_apart" ["coefficients"] spApart := ⟨f_real_roots_apart, g_real_roots_apart, d_real_roots_apart, ok_real_roots_apart F_real_roots_apart B C_unweighed_chain C_bound_of_roots C_count_real_roots C_changes_at, F_real_roots_apart.kp, b_real_roots_apart⟩
  obtain ⟨f_signs_of, d_signs_of, g_signs_of, F_signs_of, b_signs_of⟩ := D_signs_of
  have C_signs_of : CalN P w K mg base 8 "signs_of" ["coefficients", "number"] spSigns := ⟨f_signs_of, g_signs_of, d_signs_of, ok_signs_of F_signs_of B C_over_one_below C_sturm_chain C_real_roots_apart C_changes_at, F_signs_of.kp, b_signs_of⟩
  obtain ⟨f_all_within, d_all_within, g_all_within, F_all_within, b_all_within⟩ := D_all_within
  have C_all_within : CalN P w K mg base 1 "all_within" ["values", "least", "greatest"] spWithin := ⟨f_all_within, g_all_within, d_all_within, ok_all_within F_all_within B, F_all_within.kp, b_all_within⟩
  obtain ⟨f_keep, d_keep, g_keep, F_keep, b_keep⟩ := D_keep
  have C_keep : CalN P w K mg base 2 "keep" ["kept", "places"] (spKeep C) := ⟨f_keep, g_keep, d_keep, ok_keep F_keep B T C_all_within, F_keep.kp, b_keep⟩
  obtain ⟨f_answer_field, d_answer_field, g_answer_field, F_answer_field, b_answer_field⟩ := D_answer_field
  have C_answer_field : CalN P w K mg base 7 "answer_field" ["kept", "coefficients"] (spRow C fieldM) := ⟨f_answer_field, g_answer_field, d_answer_field, ok_answer_field F_answer_field B T C_all_within C_can_be_parted C_count_real_roots, F_answer_field.kp, b_answer_field⟩
  have N_answer_field : CalN P w K mg base 9 "answer_field" ["kept", "coefficients"] (spRow C fieldM) := ⟨f_answer_field, g_answer_field, d_answer_field, (ok_answer_field F_answer_field B T C_all_within C_can_be_parted C_count_real_roots).mono (by decide), F_answer_field.kp, b_answer_field⟩
  obtain ⟨f_answer_number, d_answer_number, g_answer_number, F_answer_number, b_answer_number⟩ := D_answer_number
  have C_answer_number : CalN P w K mg base 3 "answer_number" ["kept", "handed_in"] (spRow C numberM) := ⟨f_answer_number, g_answer_number, d_answer_number, ok_answer_number F_answer_number B T C_all_within C_in_lowest_terms C_keep, F_answer_number.kp, b_answer_number⟩
  have N_answer_number : CalN P w K mg base 9 "answer_number" ["kept", "handed_in"] (spRow C numberM) := ⟨f_answer_number, g_answer_number, d_answer_number, (ok_answer_number F_answer_number B T C_all_within C_in_lowest_terms C_keep).mono (by decide), F_answer_number.kp, b_answer_number⟩
  obtain ⟨f_answer_plus, d_answer_plus, g_answer_plus, F_answer_plus, b_answer_plus⟩ := D_answer_plus
  have C_answer_plus : CalN P w K mg base 5 "answer_plus" ["kept", "chosen"] (spNm C nPlus 2) := ⟨f_answer_plus, g_answer_plus, d_answer_plus, ok_answer_plus F_answer_plus C_keep C_sum_of, F_answer_plus.kp, b_answer_plus⟩
  have N_answer_plus : CalN P w K mg base 9 "answer_plus" ["kept", "chosen"] (spNm C nPlus 2) := ⟨f_answer_plus, g_answer_plus, d_answer_plus, (ok_answer_plus F_answer_plus C_keep C_sum_of).mono (by decide), F_answer_plus.kp, b_answer_plus⟩
  obtain ⟨f_answer_minus, d_answer_minus, g_answer_minus, F_answer_minus, b_answer_minus⟩ := D_answer_minus
  have C_answer_minus : CalN P w K mg base 6 "answer_minus" ["kept", "chosen"] (spNm C nMinus 2) := ⟨f_answer_minus, g_answer_minus, d_answer_minus, ok_answer_minus F_answer_minus C_keep C_difference_of, F_answer_minus.kp, b_answer_minus⟩
  have N_answer_minus : CalN P w K mg base 9 "answer_minus" ["kept", "chosen"] (spNm C nMinus 2) := ⟨f_answer_minus, g_answer_minus, d_answer_minus, (ok_answer_minus F_answer_minus C_keep C_difference_of).mono (by decide), F_answer_minus.kp, b_answer_minus⟩
  obtain ⟨f_answer_times, d_answer_times, g_answer_times, F_answer_times, b_answer_times⟩ := D_answer_times
  have C_answer_times : CalN P w K mg base 5 "answer_times" ["kept", "chosen"] (spNm C nTimes 2) := ⟨f_answer_times, g_answer_times, d_answer_times, ok_answer_times F_answer_times T C_keep C_product_of, F_answer_times.kp, b_answer_times⟩
  have N_answer_times : CalN P w K mg base 9 "answer_times" ["kept", "chosen"] (spNm C nTimes 2) := ⟨f_answer_times, g_answer_times, d_answer_times, (ok_answer_times F_answer_times T C_keep C_product_of).mono (by decide), F_answer_times.kp, b_answer_times⟩
  obtain ⟨f_answer_by, d_answer_by, g_answer_by, F_answer_by, b_answer_by⟩ := D_answer_by
  have C_answer_by : CalN P w K mg base 7 "answer_by" ["kept", "chosen"] (spNm C nBy 2) := ⟨f_answer_by, g_answer_by, d_answer_by, ok_answer_by F_answer_by B T C_keep C_quotient_of, F_answer_by.kp, b_answer_by⟩
  have N_answer_by : CalN P w K mg base 9 "answer_by" ["kept", "chosen"] (spNm C nBy 2) := ⟨f_answer_by, g_answer_by, d_answer_by, (ok_answer_by F_answer_by B T C_keep C_quotient_of).mono (by decide), F_answer_by.kp, b_answer_by⟩
  obtain ⟨f_answer_told, d_answer_told, g_answer_told, F_answer_told, b_answer_told⟩ := D_answer_told
  have C_answer_told : CalN P w K mg base 1 "answer_told" ["kept", "chosen"] (spNm C nTold 1) := ⟨f_answer_told, g_answer_told, d_answer_told, ok_answer_told F_answer_told, F_answer_told.kp, b_answer_told⟩
  have N_answer_told : CalN P w K mg base 9 "answer_told" ["kept", "chosen"] (spNm C nTold 1) := ⟨f_answer_told, g_answer_told, d_answer_told, (ok_answer_told F_answer_told).mono (by decide), F_answer_told.kp, b_answer_told⟩
  obtain ⟨f_answer_norm, d_answer_norm, g_answer_norm, F_answer_norm, b_answer_norm⟩ := D_answer_norm
  have C_answer_norm : CalN P w K mg base 7 "answer_norm" ["kept", "chosen"] (spNm C nNorm 1) := ⟨f_answer_norm, g_answer_norm, d_answer_norm, ok_answer_norm F_answer_norm T C_norm_of, F_answer_norm.kp, b_answer_norm⟩
  have N_answer_norm : CalN P w K mg base 9 "answer_norm" ["kept", "chosen"] (spNm C nNorm 1) := ⟨f_answer_norm, g_answer_norm, d_answer_norm, (ok_answer_norm F_answer_norm T C_norm_of).mono (by decide), F_answer_norm.kp, b_answer_norm⟩
  obtain ⟨f_answer_trace, d_answer_trace, g_answer_trace, F_answer_trace, b_answer_trace⟩ := D_answer_trace
  have C_answer_trace : CalN P w K mg base 5 "answer_trace" ["kept", "chosen"] (spNm C nTrace 1) := ⟨f_answer_trace, g_answer_trace, d_answer_trace, ok_answer_trace F_answer_trace T C_trace_of, F_answer_trace.kp, b_answer_trace⟩
  have N_answer_trace : CalN P w K mg base 9 "answer_trace" ["kept", "chosen"] (spNm C nTrace 1) := ⟨f_answer_trace, g_answer_trace, d_answer_trace, (ok_answer_trace F_answer_trace T C_trace_of).mono (by decide), F_answer_trace.kp, b_answer_trace⟩
  obtain ⟨f_answer_polynomial, d_answer_polynomial, g_answer_polynomial, F_answer_polynomial, b_answer_polynomial⟩ := D_answer_polynomial
  have C_answer_polynomial : CalN P w K mg base 6 "answer_polynomial" ["kept", "chosen"] (spNm C nPoly 1) := ⟨f_answer_polynomial, g_answer_polynomial, d_answer_polynomial, ok_answer_polynomial F_answer_polynomial T C_polynomial_of, F_answer_polynomial.kp, b_answer_polynomial⟩
  have N_answer_polynomial : CalN P w K mg base 9 "answer_polynomial" ["kept", "chosen"] (spNm C nPoly 1) := ⟨f_answer_polynomial, g_answer_polynomial, d_answer_polynomial, (ok_answer_polynomial F_answer_polynomial T C_polynomial_of).mono (by decide), F_answer_polynomial.kp, b_answer_polynomial⟩
  obtain ⟨f_answer_least, d_answer_least, g_answer_least, F_answer_least, b_answer_least⟩ := D_answer_least
  have C_answer_least : CalN P w K mg base 7 "answer_least" ["kept", "chosen"] (spNm C nLeast 1) := ⟨f_answer_least, g_answer_least, d_answer_least, ok_answer_least F_answer_least B T C_least_of, F_answer_least.kp, b_answer_least⟩
  have N_answer_least : CalN P w K mg base 9 "answer_least" ["kept", "chosen"] (spNm C nLeast 1) := ⟨f_answer_least, g_answer_least, d_answer_least, (ok_answer_least F_answer_least B T C_least_of).mono (by decide), F_answer_least.kp, b_answer_least⟩
  obtain ⟨f_answer_whole, d_answer_whole, g_answer_whole, F_answer_whole, b_answer_whole⟩ := D_answer_whole
  have C_answer_whole : CalN P w K mg base 6 "answer_whole" ["kept", "chosen"] (spNm C nWhole 1) := ⟨f_answer_whole, g_answer_whole, d_answer_whole, ok_answer_whole F_answer_whole T C_all_within C_polynomial_of, F_answer_whole.kp, b_answer_whole⟩
  have N_answer_whole : CalN P w K mg base 9 "answer_whole" ["kept", "chosen"] (spNm C nWhole 1) := ⟨f_answer_whole, g_answer_whole, d_answer_whole, (ok_answer_whole F_answer_whole T C_all_within C_polynomial_of).mono (by decide), F_answer_whole.kp, b_answer_whole⟩
  obtain ⟨f_answer_signs, d_answer_signs, g_answer_signs, F_answer_signs, b_answer_signs⟩ := D_answer_signs
  have C_answer_signs : CalN P w K mg base 9 "answer_signs" ["kept", "chosen"] (spNm C nSigns 1) := ⟨f_answer_signs, g_answer_signs, d_answer_signs, ok_answer_signs F_answer_signs B T C_signs_of, F_answer_signs.kp, b_answer_signs⟩
  have N_answer_signs : CalN P w K mg base 9 "answer_signs" ["kept", "chosen"] (spNm C nSigns 1) := ⟨f_answer_signs, g_answer_signs, d_answer_signs, (ok_answer_signs F_answer_signs B T C_signs_of).mono (by decide), F_answer_signs.kp, b_answer_signs⟩
  obtain ⟨f_answer_alike, d_answer_alike, g_answer_alike, F_answer_alike, b_answer_alike⟩ := D_answer_alike
  have C_answer_alike : CalN P w K mg base 7 "answer_alike" ["kept", "chosen"] (spNm C nAlike 2) := ⟨f_answer_alike, g_answer_alike, d_answer_alike, ok_answer_alike F_answer_alike T C_least_of, F_answer_alike.kp, b_answer_alike⟩
  have N_answer_alike : CalN P w K mg base 9 "answer_alike" ["kept", "chosen"] (spNm C nAlike 2) := ⟨f_answer_alike, g_answer_alike, d_answer_alike, (ok_answer_alike F_answer_alike T C_least_of).mono (by decide), F_answer_alike.kp, b_answer_alike⟩
  obtain ⟨f_answer_drop, d_answer_drop, g_answer_drop, F_answer_drop, b_answer_drop⟩ := D_answer_drop
  have C_answer_drop : CalN P w K mg base 1 "answer_drop" ["kept", "chosen"] (spNm C nDrop 0) := ⟨f_answer_drop, g_answer_drop, d_answer_drop, ok_answer_drop F_answer_drop B T, F_answer_drop.kp, b_answer_drop⟩
  have N_answer_drop : CalN P w K mg base 9 "answer_drop" ["kept", "chosen"] (spNm C nDrop 0) := ⟨f_answer_drop, g_answer_drop, d_answer_drop, (ok_answer_drop F_answer_drop B T).mono (by decide), F_answer_drop.kp, b_answer_drop⟩
  have hn : ∀ c : Int, 2 ≤ c → c ≤ 14 → CalN P w K mg base 9 (nmC c) ["kept", "chosen"] (spNm C (nameM c) (ar c)) := by
    intro c h1 h2
    rcases thirteen h1 h2 with rfl | rfl | rfl | rfl | rfl | rfl | rfl | rfl | rfl | rfl | rfl | rfl | rfl
    · exact N_answer_plus
    · exact N_answer_minus
    · exact N_answer_times
    · exact N_answer_by
    · exact N_answer_told
    · exact N_answer_norm
    · exact N_answer_trace
    · exact N_answer_polynomial
    · exact N_answer_least
    · exact N_answer_whole
    · exact N_answer_signs
    · exact N_answer_alike
    · exact N_answer_drop
  obtain ⟨dN, eN, nN, iN, gN, hN⟩ := hN
  have Tn_ : Tn P w K mg base C := ⟨dN, eN, nN, iN, gN, fun c h1 h2 => by
    obtain ⟨f, e, g⟩ := hN c h1 h2
    obtain ⟨f', g', k⟩ := hn c h1 h2
    rw [g] at g'
    cases g'
    exact ⟨f, e, k⟩⟩
  obtain ⟨f_answer_with_names, d_answer_with_names, g_answer_with_names, F_answer_with_names, b_answer_with_names⟩ := D_answer_with_names
  have C_answer_with_names : CalN P w K mg base 10 "answer_with_names" ["kept", "call", "names"] (spWith C) := ⟨f_answer_with_names, g_answer_with_names, d_answer_with_names, ok_answer_with_names F_answer_with_names B T Tn_, F_answer_with_names.kp, b_answer_with_names⟩
  obtain ⟨dR, eR, nR, iR, gR, ⟨f0, e0, g0⟩, ⟨f1, e1, g1⟩, hR⟩ := hR
  obtain ⟨dH, eH, nH, iH, gH, hH⟩ := hH
  have Tm_ : ∃ T2 : Tm P w K mg base C, T2.fI = fI := by
    refine ⟨⟨fI, mkI, T.g_Kept, dR, eR, nR, iR, gR, dH, eH, nH, iH, gH, ⟨f0, e0, ?_⟩, ⟨f1, e1, ?_⟩, hR, hH⟩, rfl⟩
    · obtain ⟨f', g', k⟩ := N_answer_field
      rw [g0] at g'
      cases g'
      exact k
    · obtain ⟨f', g', k⟩ := N_answer_number
      rw [g1] at g'
      cases g'
      exact k
  obtain ⟨T2, e2⟩ := Tm_
  subst e2
  exact ok_answers (fI' := f) F B T2 (ok_init FI T) bI C_answer_with_names
theorem last {fa : Addr} (hmg : mg "answers" = some (.ref fa)) (D : HasDef K mg "answers" ["calls"] s_answers) (H : ∀ {f : Addr} {fd : FuncData} (F : Fun K "answers" "answers" s_answers f fd) (base : Heap), FnOk P w K mg base CX0 12 f fd ["calls"] (spAns K)) :
    ∃ fd : FuncData, (∀ (s : Shared) (us : List Value), us.length = (["calls"] : List Str).length → BindsTo s fd ⟨us, []⟩ ((["calls"] : List Str).zip us)) ∧ ∀ base : Heap, K.In base → base.Ns mainGlobals mg → FnOk P w K mg base CX0 12 fa fd ["calls"] (spAns K) := by
  obtain ⟨f, fd, g, F, b⟩ := D
  rw [hmg] at g
  cases g
  refine ⟨fd, ?_, fun base _ _ => H F base⟩
  obtain ⟨oc, od, kV, doc, pm, an, cdv, ct, osl, rfl, lk, hcd⟩ := F.ex
  exact fun s us hu => match us, hu with | [_], _ => .of_eq rfl
end
end Rp

set_option Elab.async false
set_option linter.all false
set_option maxRecDepth 100000
open PySem PySem.W PyProof.Rows
set_option maxHeartbeats 16000000 in
theorem PySem.Challenge.cw_rootfield_s01_answers_holds : PySem.Challenge.rw_rootfield_s01_answers.Holds := by
  w_on; k_headS; (case hw => exact ⟨[.list [.int 14]], by decide +kernel, by decide +kernel⟩)
  k_fillS
  refine L2.walk_specK (r := PySem.Challenge.rw_rootfield_s01_answers) (k := 12) (CX := L2.CX0) (ps := ["calls"]) (sp := Rp.spAns) (by decide +kernel) rfl rfl ⟨rfl, by decide, by decide⟩ (fun w h Y => PySem.W.kIn_of Y) ?F ?S (fun _ _ _ _ z => z)
  case F =>
    intro w mg fa h Y KX G hmg
    clear Y
    have D_greatest_divisor : Rp.HasDef (cw_rootfield_s01_answers_holds.heap_1 w.params) mg "greatest_divisor" ["one", "other"] Rp.s_greatest_divisor := by
      refine' Rp.def_mk KX G (fun _ _ _ _ _ _ us hl => match us, hl with | [_, _], _ => rfl) ?a ?l ?c ?k
      (case a => k_is); (case l => k_is); (case c => k_is); (case k => k_is)
    have D_in_lowest_terms : Rp.HasDef (cw_rootfield_s01_answers_holds.heap_1 w.params) mg "in_lowest_terms" ["above", "below"] Rp.s_in_lowest_terms := by
      refine' Rp.def_mk KX G (fun _ _ _ _ _ _ us hl => match us, hl with | [_, _], _ => rfl) ?a ?l ?c ?k
      (case a => k_is); (case l => k_is); (case c => k_is); (case k => k_is)
    have D_over_one_below : Rp.HasDef (cw_rootfield_s01_answers_holds.heap_1 w.params) mg "over_one_below" ["places"] Rp.s_over_one_below := by
      refine' Rp.def_mk KX G (fun _ _ _ _ _ _ us hl => match us, hl with | [_], _ => rfl) ?a ?l ?c ?k
      (case a => k_is); (case l => k_is); (case c => k_is); (case k => k_is)
    have D_places_of : Rp.HasDef (cw_rootfield_s01_answers_holds.heap_1 w.params) mg "places_of" ["above", "below"] Rp.s_places_of := by
      refine' Rp.def_mk KX G (fun _ _ _ _ _ _ us hl => match us, hl with | [_, _], _ => rfl) ?a ?l ?c ?k
      (case a => k_is); (case l => k_is); (case c => k_is); (case k => k_is)
    have D_sum_of : Rp.HasDef (cw_rootfield_s01_answers_holds.heap_1 w.params) mg "sum_of" ["left", "right"] Rp.s_sum_of := by
      refine' Rp.def_mk KX G (fun _ _ _ _ _ _ us hl => match us, hl with | [_, _], _ => rfl) ?a ?l ?c ?k
      (case a => k_is); (case l => k_is); (case c => k_is); (case k => k_is)
    have D_difference_of : Rp.HasDef (cw_rootfield_s01_answers_holds.heap_1 w.params) mg "difference_of" ["left", "right"] Rp.s_difference_of := by
      refine' Rp.def_mk KX G (fun _ _ _ _ _ _ us hl => match us, hl with | [_, _], _ => rfl) ?a ?l ?c ?k
      (case a => k_is); (case l => k_is); (case c => k_is); (case k => k_is)
    have D_times_root : Rp.HasDef (cw_rootfield_s01_answers_holds.heap_1 w.params) mg "times_root" ["coefficients", "row"] Rp.s_times_root := by
      refine' Rp.def_mk KX G (fun _ _ _ _ _ _ us hl => match us, hl with | [_, _], _ => rfl) ?a ?l ?c ?k
      (case a => k_is); (case l => k_is); (case c => k_is); (case k => k_is)
    have D_rows_of : Rp.HasDef (cw_rootfield_s01_answers_holds.heap_1 w.params) mg "rows_of" ["coefficients", "above"] Rp.s_rows_of := by
      refine' Rp.def_mk KX G (fun _ _ _ _ _ _ us hl => match us, hl with | [_, _], _ => rfl) ?a ?l ?c ?k
      (case a => k_is); (case l => k_is); (case c => k_is); (case k => k_is)
    have D_whole_product : Rp.HasDef (cw_rootfield_s01_answers_holds.heap_1 w.params) mg "whole_product" ["coefficients", "left", "right"] Rp.s_whole_product := by
      refine' Rp.def_mk KX G (fun _ _ _ _ _ _ us hl => match us, hl with | [_, _, _], _ => rfl) ?a ?l ?c ?k
      (case a => k_is); (case l => k_is); (case c => k_is); (case k => k_is)
    have D_product_of : Rp.HasDef (cw_rootfield_s01_answers_holds.heap_1 w.params) mg "product_of" ["coefficients", "left", "right"] Rp.s_product_of := by
      refine' Rp.def_mk KX G (fun _ _ _ _ _ _ us hl => match us, hl with | [_, _, _], _ => rfl) ?a ?l ?c ?k
      (case a => k_is); (case l => k_is); (case c => k_is); (case k => k_is)
    have D_determinant : Rp.HasDef (cw_rootfield_s01_answers_holds.heap_1 w.params) mg "determinant" ["rows"] Rp.s_determinant := by
      refine' Rp.def_mk KX G (fun _ _ _ _ _ _ us hl => match us, hl with | [_], _ => rfl) ?a ?l ?c ?k
      (case a => k_is); (case l => k_is); (case c => k_is); (case k => k_is)
    have D_quotient_of : Rp.HasDef (cw_rootfield_s01_answers_holds.heap_1 w.params) mg "quotient_of" ["coefficients", "left", "right"] Rp.s_quotient_of := by
      refine' Rp.def_mk KX G (fun _ _ _ _ _ _ us hl => match us, hl with | [_, _, _], _ => rfl) ?a ?l ?c ?k
      (case a => k_is); (case l => k_is); (case c => k_is); (case k => k_is)
    have D_norm_of : Rp.HasDef (cw_rootfield_s01_answers_holds.heap_1 w.params) mg "norm_of" ["coefficients", "number"] Rp.s_norm_of := by
      refine' Rp.def_mk KX G (fun _ _ _ _ _ _ us hl => match us, hl with | [_, _], _ => rfl) ?a ?l ?c ?k
      (case a => k_is); (case l => k_is); (case c => k_is); (case k => k_is)
    have D_whole_trace : Rp.HasDef (cw_rootfield_s01_answers_holds.heap_1 w.params) mg "whole_trace" ["coefficients", "above"] Rp.s_whole_trace := by
      refine' Rp.def_mk KX G (fun _ _ _ _ _ _ us hl => match us, hl with | [_, _], _ => rfl) ?a ?l ?c ?k
      (case a => k_is); (case l => k_is); (case c => k_is); (case k => k_is)
    have D_trace_of : Rp.HasDef (cw_rootfield_s01_answers_holds.heap_1 w.params) mg "trace_of" ["coefficients", "number"] Rp.s_trace_of := by
      refine' Rp.def_mk KX G (fun _ _ _ _ _ _ us hl => match us, hl with | [_, _], _ => rfl) ?a ?l ?c ?k
      (case a => k_is); (case l => k_is); (case c => k_is); (case k => k_is)
    have D_whole_polynomial : Rp.HasDef (cw_rootfield_s01_answers_holds.heap_1 w.params) mg "whole_polynomial" ["coefficients", "above"] Rp.s_whole_polynomial := by
      refine' Rp.def_mk KX G (fun _ _ _ _ _ _ us hl => match us, hl with | [_, _], _ => rfl) ?a ?l ?c ?k
      (case a => k_is); (case l => k_is); (case c => k_is); (case k => k_is)
    have D_whole_least : Rp.HasDef (cw_rootfield_s01_answers_holds.heap_1 w.params) mg "whole_least" ["coefficients", "above"] Rp.s_whole_least := by
      refine' Rp.def_mk KX G (fun _ _ _ _ _ _ us hl => match us, hl with | [_, _], _ => rfl) ?a ?l ?c ?k
      (case a => k_is); (case l => k_is); (case c => k_is); (case k => k_is)
    have D_with_roots_divided : Rp.HasDef (cw_rootfield_s01_answers_holds.heap_1 w.params) mg "with_roots_divided" ["polynomial", "below"] Rp.s_with_roots_divided := by
      refine' Rp.def_mk KX G (fun _ _ _ _ _ _ us hl => match us, hl with | [_, _], _ => rfl) ?a ?l ?c ?k
      (case a => k_is); (case l => k_is); (case c => k_is); (case k => k_is)
    have D_polynomial_of : Rp.HasDef (cw_rootfield_s01_answers_holds.heap_1 w.params) mg "polynomial_of" ["coefficients", "number"] Rp.s_polynomial_of := by
      refine' Rp.def_mk KX G (fun _ _ _ _ _ _ us hl => match us, hl with | [_, _], _ => rfl) ?a ?l ?c ?k
      (case a => k_is); (case l => k_is); (case c => k_is); (case k => k_is)
    have D_least_of : Rp.HasDef (cw_rootfield_s01_answers_holds.heap_1 w.params) mg "least_of" ["coefficients", "number"] Rp.s_least_of := by
      refine' Rp.def_mk KX G (fun _ _ _ _ _ _ us hl => match us, hl with | [_, _], _ => rfl) ?a ?l ?c ?k
      (case a => k_is); (case l => k_is); (case c => k_is); (case k => k_is)
    have D_value_at : Rp.HasDef (cw_rootfield_s01_answers_holds.heap_1 w.params) mg "value_at" ["polynomial", "above", "below"] Rp.s_value_at := by
      refine' Rp.def_mk KX G (fun _ _ _ _ _ _ us hl => match us, hl with | [_, _, _], _ => rfl) ?a ?l ?c ?k
      (case a => k_is); (case l => k_is); (case c => k_is); (case k => k_is)
    have D_bound_of_roots : Rp.HasDef (cw_rootfield_s01_answers_holds.heap_1 w.params) mg "bound_of_roots" ["polynomial"] Rp.s_bound_of_roots := by
      refine' Rp.def_mk KX G (fun _ _ _ _ _ _ us hl => match us, hl with | [_], _ => rfl) ?a ?l ?c ?k
      (case a => k_is); (case l => k_is); (case c => k_is); (case k => k_is)
    have D_whole_roots : Rp.HasDef (cw_rootfield_s01_answers_holds.heap_1 w.params) mg "whole_roots" ["polynomial"] Rp.s_whole_roots := by
      refine' Rp.def_mk KX G (fun _ _ _ _ _ _ us hl => match us, hl with | [_], _ => rfl) ?a ?l ?c ?k
      (case a => k_is); (case l => k_is); (case c => k_is); (case k => k_is)
    have D_parts_into_quadratics : Rp.HasDef (cw_rootfield_s01_answers_holds.heap_1 w.params) mg "parts_into_quadratics" ["polynomial"] Rp.s_parts_into_quadratics := by
      refine' Rp.def_mk KX G (fun _ _ _ _ _ _ us hl => match us, hl with | [_], _ => rfl) ?a ?l ?c ?k
      (case a => k_is); (case l => k_is); (case c => k_is); (case k => k_is)
    have D_can_be_parted : Rp.HasDef (cw_rootfield_s01_answers_holds.heap_1 w.params) mg "can_be_parted" ["polynomial"] Rp.s_can_be_parted := by
      refine' Rp.def_mk KX G (fun _ _ _ _ _ _ us hl => match us, hl with | [_], _ => rfl) ?a ?l ?c ?k
      (case a => k_is); (case l => k_is); (case c => k_is); (case k => k_is)
    have D_without_zero_tops : Rp.HasDef (cw_rootfield_s01_answers_holds.heap_1 w.params) mg "without_zero_tops" ["polynomial"] Rp.s_without_zero_tops := by
      refine' Rp.def_mk KX G (fun _ _ _ _ _ _ us hl => match us, hl with | [_], _ => rfl) ?a ?l ?c ?k
      (case a => k_is); (case l => k_is); (case c => k_is); (case k => k_is)
    have D_rest_of_division : Rp.HasDef (cw_rootfield_s01_answers_holds.heap_1 w.params) mg "rest_of_division" ["dividend", "divisor"] Rp.s_rest_of_division := by
      refine' Rp.def_mk KX G (fun _ _ _ _ _ _ us hl => match us, hl with | [_, _], _ => rfl) ?a ?l ?c ?k
      (case a => k_is); (case l => k_is); (case c => k_is); (case k => k_is)
    have D_sturm_chain : Rp.HasDef (cw_rootfield_s01_answers_holds.heap_1 w.params) mg "sturm_chain" ["coefficients", "above"] Rp.s_sturm_chain := by
      refine' Rp.def_mk KX G (fun _ _ _ _ _ _ us hl => match us, hl with | [_, _], _ => rfl) ?a ?l ?c ?k
      (case a => k_is); (case l => k_is); (case c => k_is); (case k => k_is)
    have D_changes_at : Rp.HasDef (cw_rootfield_s01_answers_holds.heap_1 w.params) mg "changes_at" ["chain", "above", "below"] Rp.s_changes_at := by
      refine' Rp.def_mk KX G (fun _ _ _ _ _ _ us hl => match us, hl with | [_, _, _], _ => rfl) ?a ?l ?c ?k
      (case a => k_is); (case l => k_is); (case c => k_is); (case k => k_is)
    have D_unweighed_chain : Rp.HasDef (cw_rootfield_s01_answers_holds.heap_1 w.params) mg "unweighed_chain" ["coefficients"] Rp.s_unweighed_chain := by
      refine' Rp.def_mk KX G (fun _ _ _ _ _ _ us hl => match us, hl with | [_], _ => rfl) ?a ?l ?c ?k
      (case a => k_is); (case l => k_is); (case c => k_is); (case k => k_is)
    have D_count_real_roots : Rp.HasDef (cw_rootfield_s01_answers_holds.heap_1 w.params) mg "count_real_roots" ["coefficients"] Rp.s_count_real_roots := by
      refine' Rp.def_mk KX G (fun _ _ _ _ _ _ us hl => match us, hl with | [_], _ => rfl) ?a ?l ?c ?k
      (case a => k_is); (case l => k_is); (case c => k_is); (case k => k_is)
    have D_real_roots_apart : Rp.HasDef (cw_rootfield_s01_answers_holds.heap_1 w.params) mg "real_roots_apart" ["coefficients"] Rp.s_real_roots_apart := by
      refine' Rp.def_mk KX G (fun _ _ _ _ _ _ us hl => match us, hl with | [_], _ => rfl) ?a ?l ?c ?k
      (case a => k_is); (case l => k_is); (case c => k_is); (case k => k_is)
    have D_signs_of : Rp.HasDef (cw_rootfield_s01_answers_holds.heap_1 w.params) mg "signs_of" ["coefficients", "number"] Rp.s_signs_of := by
      refine' Rp.def_mk KX G (fun _ _ _ _ _ _ us hl => match us, hl with | [_, _], _ => rfl) ?a ?l ?c ?k
      (case a => k_is); (case l => k_is); (case c => k_is); (case k => k_is)
    have D_all_within : Rp.HasDef (cw_rootfield_s01_answers_holds.heap_1 w.params) mg "all_within" ["values", "least", "greatest"] Rp.s_all_within := by
      refine' Rp.def_mk KX G (fun _ _ _ _ _ _ us hl => match us, hl with | [_, _, _], _ => rfl) ?a ?l ?c ?k
      (case a => k_is); (case l => k_is); (case c => k_is); (case k => k_is)
    have D_keep : Rp.HasDef (cw_rootfield_s01_answers_holds.heap_1 w.params) mg "keep" ["kept", "places"] Rp.s_keep := by
      refine' Rp.def_mk KX G (fun _ _ _ _ _ _ us hl => match us, hl with | [_, _], _ => rfl) ?a ?l ?c ?k
      (case a => k_is); (case l => k_is); (case c => k_is); (case k => k_is)
    have D_answer_field : Rp.HasDef (cw_rootfield_s01_answers_holds.heap_1 w.params) mg "answer_field" ["kept", "coefficients"] Rp.s_answer_field := by
      refine' Rp.def_mk KX G (fun _ _ _ _ _ _ us hl => match us, hl with | [_, _], _ => rfl) ?a ?l ?c ?k
      (case a => k_is); (case l => k_is); (case c => k_is); (case k => k_is)
    have D_answer_number : Rp.HasDef (cw_rootfield_s01_answers_holds.heap_1 w.params) mg "answer_number" ["kept", "handed_in"] Rp.s_answer_number := by
      refine' Rp.def_mk KX G (fun _ _ _ _ _ _ us hl => match us, hl with | [_, _], _ => rfl) ?a ?l ?c ?k
      (case a => k_is); (case l => k_is); (case c => k_is); (case k => k_is)
    have D_answer_plus : Rp.HasDef (cw_rootfield_s01_answers_holds.heap_1 w.params) mg "answer_plus" ["kept", "chosen"] Rp.s_answer_plus := by
      refine' Rp.def_mk KX G (fun _ _ _ _ _ _ us hl => match us, hl with | [_, _], _ => rfl) ?a ?l ?c ?k
      (case a => k_is); (case l => k_is); (case c => k_is); (case k => k_is)
    have D_answer_minus : Rp.HasDef (cw_rootfield_s01_answers_holds.heap_1 w.params) mg "answer_minus" ["kept", "chosen"] Rp.s_answer_minus := by
      refine' Rp.def_mk KX G (fun _ _ _ _ _ _ us hl => match us, hl with | [_, _], _ => rfl) ?a ?l ?c ?k
      (case a => k_is); (case l => k_is); (case c => k_is); (case k => k_is)
    have D_answer_times : Rp.HasDef (cw_rootfield_s01_answers_holds.heap_1 w.params) mg "answer_times" ["kept", "chosen"] Rp.s_answer_times := by
      refine' Rp.def_mk KX G (fun _ _ _ _ _ _ us hl => match us, hl with | [_, _], _ => rfl) ?a ?l ?c ?k
      (case a => k_is); (case l => k_is); (case c => k_is); (case k => k_is)
    have D_answer_by : Rp.HasDef (cw_rootfield_s01_answers_holds.heap_1 w.params) mg "answer_by" ["kept", "chosen"] Rp.s_answer_by := by
      refine' Rp.def_mk KX G (fun _ _ _ _ _ _ us hl => match us, hl with | [_, _], _ => rfl) ?a ?l ?c ?k
      (case a => k_is); (case l => k_is); (case c => k_is); (case k => k_is)
    have D_answer_told : Rp.HasDef (cw_rootfield_s01_answers_holds.heap_1 w.params) mg "answer_told" ["kept", "chosen"] Rp.s_answer_told := by
      refine' Rp.def_mk KX G (fun _ _ _ _ _ _ us hl => match us, hl with | [_, _], _ => rfl) ?a ?l ?c ?k
      (case a => k_is); (case l => k_is); (case c => k_is); (case k => k_is)
    have D_answer_norm : Rp.HasDef (cw_rootfield_s01_answers_holds.heap_1 w.params) mg "answer_norm" ["kept", "chosen"] Rp.s_answer_norm := by
      refine' Rp.def_mk KX G (fun _ _ _ _ _ _ us hl => match us, hl with | [_, _], _ => rfl) ?a ?l ?c ?k
      (case a => k_is); (case l => k_is); (case c => k_is); (case k => k_is)
    have D_answer_trace : Rp.HasDef (cw_rootfield_s01_answers_holds.heap_1 w.params) mg "answer_trace" ["kept", "chosen"] Rp.s_answer_trace := by
      refine' Rp.def_mk KX G (fun _ _ _ _ _ _ us hl => match us, hl with | [_, _], _ => rfl) ?a ?l ?c ?k
      (case a => k_is); (case l => k_is); (case c => k_is); (case k => k_is)
    have D_answer_polynomial : Rp.HasDef (cw_rootfield_s01_answers_holds.heap_1 w.params) mg "answer_polynomial" ["kept", "chosen"] Rp.s_answer_polynomial := by
      refine' Rp.def_mk KX G (fun _ _ _ _ _ _ us hl => match us, hl with | [_, _], _ => rfl) ?a ?l ?c ?k
      (case a => k_is); (case l => k_is); (case c => k_is); (case k => k_is)
    have D_answer_least : Rp.HasDef (cw_rootfield_s01_answers_holds.heap_1 w.params) mg "answer_least" ["kept", "chosen"] Rp.s_answer_least := by
      refine' Rp.def_mk KX G (fun _ _ _ _ _ _ us hl => match us, hl with | [_, _], _ => rfl) ?a ?l ?c ?k
      (case a => k_is); (case l => k_is); (case c => k_is); (case k => k_is)
    have D_answer_whole : Rp.HasDef (cw_rootfield_s01_answers_holds.heap_1 w.params) mg "answer_whole" ["kept", "chosen"] Rp.s_answer_whole := by
      refine' Rp.def_mk KX G (fun _ _ _ _ _ _ us hl => match us, hl with | [_, _], _ => rfl) ?a ?l ?c ?k
      (case a => k_is); (case l => k_is); (case c => k_is); (case k => k_is)
    have D_answer_signs : Rp.HasDef (cw_rootfield_s01_answers_holds.heap_1 w.params) mg "answer_signs" ["kept", "chosen"] Rp.s_answer_signs := by
      refine' Rp.def_mk KX G (fun _ _ _ _ _ _ us hl => match us, hl with | [_, _], _ => rfl) ?a ?l ?c ?k
      (case a => k_is); (case l => k_is); (case c => k_is); (case k => k_is)
    have D_answer_alike : Rp.HasDef (cw_rootfield_s01_answers_holds.heap_1 w.params) mg "answer_alike" ["kept", "chosen"] Rp.s_answer_alike := by
      refine' Rp.def_mk KX G (fun _ _ _ _ _ _ us hl => match us, hl with | [_, _], _ => rfl) ?a ?l ?c ?k
      (case a => k_is); (case l => k_is); (case c => k_is); (case k => k_is)
    have D_answer_drop : Rp.HasDef (cw_rootfield_s01_answers_holds.heap_1 w.params) mg "answer_drop" ["kept", "chosen"] Rp.s_answer_drop := by
      refine' Rp.def_mk KX G (fun _ _ _ _ _ _ us hl => match us, hl with | [_, _], _ => rfl) ?a ?l ?c ?k
      (case a => k_is); (case l => k_is); (case c => k_is); (case k => k_is)
    have D_answer_with_names : Rp.HasDef (cw_rootfield_s01_answers_holds.heap_1 w.params) mg "answer_with_names" ["kept", "call", "names"] Rp.s_answer_with_names := by
      refine' Rp.def_mk KX G (fun _ _ _ _ _ _ us hl => match us, hl with | [_, _, _], _ => rfl) ?a ?l ?c ?k
      (case a => k_is); (case l => k_is); (case c => k_is); (case k => k_is)
    have hI : Rp.HasKept (cw_rootfield_s01_answers_holds.heap_1 w.params) mg := by
      refine' Rp.kept_mk KX G ?aC ?ai ?ii ?l ?c ?k ?pg ?hd ?po ?sa ?mk ?kc ?nC ?nN ?cM ?cL ?cC ?cI
      (case aC => k_is)
      (case ai => k_is)
      (case ii => k_is)
      (case l => k_is)
      (case c => k_is)
      (case k => k_is)
      (case pg => k_is)
      (case hd => k_is)
      (case po => k_is)
      (case sa => k_is)
      (case mk => k_is)
      (case kc => k_is)
      (case nC => k_is)
      (case nN => k_is)
      (case cM => k_is)
      (case cL => k_is)
      (case cC => k_is)
      (case cI => k_is)
    have hR : Rp.HasRow (cw_rootfield_s01_answers_holds.heap_1 w.params) mg := by
      refine' Rp.row_mk KX G ?a ?l ?n0 ?n1 ?ks ?low ?e0 ?e1 ?eN
      (case a => k_is); (case l => k_is); (case n0 => k_is); (case n1 => k_is); (case ks => rfl); (case low => rfl); (case e0 => rfl); (case e1 => rfl)
      (case eN => intro c h1 h2; rcases Rp.thirteen h1 h2 with rfl | rfl | rfl | rfl | rfl | rfl | rfl | rfl | rfl | rfl | rfl | rfl | rfl <;> rfl)
    have hH : Rp.HasHow (cw_rootfield_s01_answers_holds.heap_1 w.params) mg := by
      refine' Rp.how_mk KX G ?a ?l ?ks ?low ?eN
      (case a => k_is); (case l => k_is); (case ks => rfl); (case low => rfl)
      (case eN => intro c h1 h2; rcases Rp.thirteen h1 h2 with rfl | rfl | rfl | rfl | rfl | rfl | rfl | rfl | rfl | rfl | rfl | rfl | rfl <;> exact ⟨_, rfl⟩)
    have hN : Rp.HasNames (cw_rootfield_s01_answers_holds.heap_1 w.params) mg := by
      refine' Rp.names_mk KX G ?a ?l ?n2 ?n3 ?n4 ?n5 ?n6 ?n7 ?n8 ?n9 ?n10 ?n11 ?n12 ?n13 ?n14 ?ks ?low ?e2 ?e3 ?e4 ?e5 ?e6 ?e7 ?e8 ?e9 ?e10 ?e11 ?e12 ?e13 ?e14
      (case a => k_is); (case l => k_is)
      (case n2 => k_is)
      (case n3 => k_is)
      (case n4 => k_is)
      (case n5 => k_is)
      (case n6 => k_is)
      (case n7 => k_is)
      (case n8 => k_is)
      (case n9 => k_is)
      (case n10 => k_is)
      (case n11 => k_is)
      (case n12 => k_is)
      (case n13 => k_is)
      (case n14 => k_is)
      (case ks => rfl); (case low => rfl)
      (case e2 => rfl)
      (case e3 => rfl)
      (case e4 => rfl)
      (case e5 => rfl)
      (case e6 => rfl)
      (case e7 => rfl)
      (case e8 => rfl)
      (case e9 => rfl)
      (case e10 => rfl)
      (case e11 => rfl)
      (case e12 => rfl)
      (case e13 => rfl)
      (case e14 => rfl)
    have B : Rp.Bt mg := by
      refine' Rp.bt_mk (K := cw_rootfield_s01_answers_holds.heap_1 w.params) KX G ?z0 ?z1 ?z2 ?z3 ?z4 ?z5 ?z6 ?z7 ?z8 ?z9
      (case z0 => k_is)
      (case z1 => k_is)
      (case z2 => k_is)
      (case z3 => k_is)
      (case z4 => k_is)
      (case z5 => k_is)
      (case z6 => k_is)
      (case z7 => k_is)
      (case z8 => k_is)
      (case z9 => k_is)
    have A : Rp.HasDef (cw_rootfield_s01_answers_holds.heap_1 w.params) mg "answers" ["calls"] Rp.s_answers := by
      refine' Rp.def_mk KX G (fun _ _ _ _ _ _ us hl => match us, hl with | [_], _ => rfl) ?a ?l ?c ?k
      (case a => k_is); (case l => k_is); (case c => k_is); (case k => k_is)
    exact Rp.last hmg A fun F base => Rp.all_ok B hI hR hN hH D_greatest_divisor D_in_lowest_terms D_over_one_below D_places_of D_sum_of D_difference_of D_times_root D_rows_of D_whole_product D_product_of D_determinant D_quotient_of D_norm_of D_whole_trace D_trace_of D_whole_polynomial D_whole_least D_with_roots_divided D_polynomial_of D_least_of D_value_at D_bound_of_roots D_whole_roots D_parts_into_quadratics D_can_be_parted D_without_zero_tops D_rest_of_division D_sturm_chain D_changes_at D_unweighed_chain D_count_real_roots D_real_roots_apart D_signs_of D_all_within D_keep D_answer_field D_answer_number D_answer_plus D_answer_minus D_answer_times D_answer_by D_answer_told D_answer_norm D_answer_trace D_answer_polynomial D_answer_least D_answer_whole D_answer_signs D_answer_alike D_answer_drop D_answer_with_names F
  case S =>
    intro K H xs a hO hwi hask hx
    cases hx with
    | cons h1 h2 =>
      cases h2
      cases h1 with
      | lst hs ha =>
        have e := L2.ints_dw a.1 _ ha
        subst e
        have q : (PySem.W.Codec.inLen 0 480 a.1 && a.1.all (PySem.W.Codec.inInt (_root_.Int.negSucc 9007199254740991) (_root_.Int.ofNat 9007199254740992))) && true = true := hwi
        rw [Bool.and_eq_true, Bool.and_eq_true] at q
        have hl : a.1.length ≤ 480 := (PySem.W.Codec.inNat_iff.mp q.1.1).2
        have hk : PyNf01.answers_asked a.1 = true := hask
        obtain ⟨raw, h1, h2, h3, h4⟩ := Rp.asked_raw hk
        refine ⟨_, a.1, raw, rfl, hs, hl, h1, h2, by rw [← h3]; exact h4, fun H' p hp => ?_⟩
        rw [← h3] at hp
        exact .lst (L2.SqL.of hp) (L2.dw_ints _)

