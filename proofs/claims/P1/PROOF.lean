import PyProof.Rows.All
import Wide.All
import OpenK.AllK
import Wide.FinOn
import Open.SpecLaws
import KE.OsGo
import HandS.ForSpec
import HandS.ForMost
import HandS.Wide
import HandS.Rev
import HandS.RevTup
import PySem.Challenge.RW_beadstring_s01_answers
set_option linter.all false
namespace BD
/-- the sum of f 0, .., f (k - 1) -/
def S : Nat → (Nat → Rat) → Rat
  | 0, _ => 0
  | k + 1, f => S k f + f k
theorem S_congr {f g : Nat → Rat} : ∀ {k : Nat}, (∀ i, i < k → f i = g i) → S k f = S k g
  | 0, _ => rfl
  | k + 1, h => by
    show S k f + f k = S k g + g k
    rw [S_congr (k := k) fun i hi => h i (by omega), h k (by omega)]
theorem S_add (f g : Nat → Rat) : ∀ k, S k (fun i => f i + g i) = S k f + S k g
  | 0 => by show (0 : Rat) = 0 + 0; grind
  | k + 1 => by
    show S k _ + _ = S k f + f k + (S k g + g k)
    rw [S_add f g k]; grind
theorem S_mul (c : Rat) (f : Nat → Rat) : ∀ k, S k (fun i => c * f i) = c * S k f
  | 0 => by show (0 : Rat) = c * 0; grind
  | k + 1 => by
    show S k _ + _ = c * (S k f + f k)
    rw [S_mul c f k]; grind
theorem S_zero {f : Nat → Rat} {k : Nat} (h : ∀ i, i < k → f i = 0) : S k f = 0 := by
  induction k with
  | zero => rfl
  | succ k ih =>
    show S k f + f k = 0
    rw [ih fun i hi => h i (by omega), h k (by omega)]; grind
theorem S_comm (f : Nat → Nat → Rat) (l : Nat) : ∀ k, S k (fun i => S l (f i)) = S l (fun j => S k (fun i => f i j))
  | 0 => (S_zero fun _ _ => rfl).symm
  | k + 1 => by
    show S k _ + S l (f k) = _
    rw [S_comm f l k, ← S_add]
    rfl
theorem S_head (f : Nat → Rat) : ∀ k, S (k + 1) f = f 0 + S k (fun i => f (i + 1))
  | 0 => by show (0 : Rat) + f 0 = f 0 + 0; grind
  | k + 1 => by
    show S (k + 1) f + f (k + 1) = f 0 + (S k _ + f (k + 1))
    rw [S_head f k]; grind
theorem S_only {f : Nat → Rat} {j : Nat} : ∀ {k : Nat}, j < k → (∀ i, i < k → i ≠ j → f i = 0) → S k f = f j
  | 0, h, _ => absurd h (by omega)
  | k + 1, h, z => by
    show S k f + f k = f j
    by_cases e : j = k
    · subst e
      rw [S_zero fun i hi => z i (by omega) (by omega)]; grind
    · rw [S_only (k := k) (by omega) fun i hi n => z i (by omega) n, z k (by omega) (by omega)]; grind
theorem S_nonneg {f : Nat → Rat} : ∀ {k : Nat}, (∀ i, i < k → 0 ≤ f i) → 0 ≤ S k f
  | 0, _ => by show (0 : Rat) ≤ 0; grind
  | k + 1, h => by
    have a := S_nonneg (k := k) fun i hi => h i (by omega)
    have b := h k (by omega)
    show 0 ≤ S k f + f k
    grind
theorem S_pos {f : Nat → Rat} {j : Nat} : ∀ {k : Nat}, j < k → (∀ i, i < k → 0 ≤ f i) → 0 < f j → 0 < S k f
  | 0, h, _, _ => absurd h (by omega)
  | k + 1, h, z, p => by
    show 0 < S k f + f k
    by_cases e : j = k
    · subst e
      have a := S_nonneg (k := j) fun i hi => z i (by omega)
      grind
    · have a := S_pos (k := k) (by omega) (fun i hi => z i (by omega)) p
      have b := z k (by omega)
      grind
theorem sq_nonneg (x : Rat) : 0 ≤ x * x := by
  by_cases h : 0 ≤ x
  · exact Rat.mul_nonneg h h
  · have h2 : 0 ≤ -x := by grind
    have := Rat.mul_nonneg h2 h2
    grind
theorem sq_pos {x : Rat} (h : x ≠ 0) : 0 < x * x := by
  by_cases h1 : 0 < x
  · exact Rat.mul_pos h1 h1
  · have h2 : 0 < -x := by grind
    have := Rat.mul_pos h2 h2
    grind
/-! ### tables -/
abbrev Mt := Nat → Nat → Rat
def mm (n : Nat) (A B : Mt) : Mt := fun i j => S n fun k => A i k * B k j
def pw (n : Nat) (T : Mt) : Nat → Mt
  | 0 => fun i j => if i = j then 1 else 0
  | k + 1 => mm n T (pw n T k)
def tr (n : Nat) (A : Mt) : Rat := S n fun i => A i i
theorem mm_assoc (n : Nat) (A B C : Mt) (i j : Nat) : mm n (mm n A B) C i j = mm n A (mm n B C) i j := by
  show (S n fun k => (S n fun l => A i l * B l k) * C k j) = S n fun l => A i l * S n fun k => B l k * C k j
  have e1 : ∀ k, k < n → (S n fun l => A i l * B l k) * C k j = S n fun l => A i l * (B l k * C k j) := fun k _ => by
    rw [show (S n fun l => A i l * B l k) * C k j = C k j * S n fun l => A i l * B l k by grind, ← S_mul]
    exact S_congr fun l _ => by grind
  rw [S_congr e1, S_comm]
  exact S_congr fun l _ => S_mul _ _ _
theorem mm_congr {n : Nat} {A A' B B' : Mt} {i j : Nat} (h1 : ∀ k, k < n → A i k = A' i k) (h2 : ∀ k, k < n → B k j = B' k j) : mm n A B i j = mm n A' B' i j :=
  S_congr fun k hk => by show A i k * B k j = A' i k * B' k j; rw [h1 k hk, h2 k hk]
theorem one_mm {n : Nat} {T A : Mt} {i j : Nat} (h : i < n) : mm n (pw n T 0) A i j = A i j := by
  show (S n fun k => (if i = k then 1 else 0) * A k j) = A i j
  rw [S_only (j := i) h fun k _ hk => by rw [if_neg (fun e => hk e.symm)]; grind]
  rw [if_pos rfl]; grind
theorem pw_add {n : Nat} {T : Mt} (l : Nat) : ∀ (k i j : Nat), i < n → pw n T (k + l) i j = mm n (pw n T k) (pw n T l) i j
  | 0, i, j, h => by rw [one_mm h, Nat.zero_add]
  | k + 1, i, j, h => by
    rw [show k + 1 + l = (k + l) + 1 by omega]
    show mm n T (pw n T (k + l)) i j = mm n (mm n T (pw n T k)) (pw n T l) i j
    rw [mm_assoc]
    exact mm_congr (fun _ _ => rfl) fun c hc => pw_add l k c j hc
theorem pw_one {n : Nat} {T : Mt} {i j : Nat} (hj : j < n) : pw n T 1 i j = T i j := by
  show (S n fun k => T i k * (if k = j then 1 else 0)) = T i j
  rw [S_only (j := j) hj fun k _ hk => by rw [if_neg hk]; grind]
  rw [if_pos rfl]; grind
theorem pw_right {n : Nat} {T : Mt} {k i j : Nat} (h : i < n) (hj : j < n) : pw n T (k + 1) i j = mm n (pw n T k) T i j := by
  rw [pw_add 1 k i j h]
  exact mm_congr (fun _ _ => rfl) fun c hc => pw_one hj
theorem pw_symm {n : Nat} {T : Mt} {w : Nat → Rat} (hs : ∀ i j, w i * T i j = w j * T j i) : ∀ (k i j : Nat), i < n → j < n → w i * pw n T k i j = w j * pw n T k j i
  | 0, i, j, _, _ => by
    show w i * (if i = j then 1 else 0) = w j * (if j = i then 1 else 0)
    by_cases e : i = j
    · subst e; rfl
    · rw [if_neg e, if_neg (fun z => e z.symm)]; grind
  | k + 1, i, j, hi, hj => by
    rw [pw_right hj hi]
    show w i * (S n fun c => T i c * pw n T k c j) = w j * S n fun c => pw n T k j c * T c i
    rw [← S_mul, ← S_mul]
    refine S_congr fun c hc => ?_
    have e1 := hs i c
    have e2 := pw_symm hs k c j hc hj
    grind
/-- the trace of a product of powers -/
theorem tr_pw {n : Nat} {T : Mt} (k l : Nat) : tr n (pw n T (k + l)) = S n fun a => S n fun b => pw n T k a b * pw n T l b a :=
  S_congr fun a ha => pw_add l k a a ha
/-- the form of the traces is a sum of squares -/
theorem form_sq {n d : Nat} {T : Mt} {w : Nat → Rat} (hw : ∀ i, 0 < w i) (hs : ∀ i j, w i * T i j = w j * T j i) (v : Nat → Rat) :
    (S d fun i => S d fun k => v i * (v k * tr n (pw n T (i + k)))) = S n fun a => S n fun b => (w a / w b) * ((S d fun i => v i * pw n T i a b) * (S d fun i => v i * pw n T i a b)) := by
  have e1 : ∀ i k, tr n (pw n T (i + k)) = S n fun a => S n fun b => (w a / w b) * (pw n T i a b * pw n T k a b) := fun i k => by
    rw [tr_pw]
    refine S_congr fun a ha => S_congr fun b hb => ?_
    have e := pw_symm hs k a b ha hb
    have hb0 : w b ≠ 0 := by have := hw b; grind
    have : pw n T k b a = (w a / w b) * pw n T k a b := by grind
    rw [this]; grind
  have e2 : (S d fun i => S d fun k => v i * (v k * tr n (pw n T (i + k)))) = S d fun i => S d fun k => S n fun a => S n fun b => (w a / w b) * ((v i * pw n T i a b) * (v k * pw n T k a b)) := by
    refine S_congr fun i _ => S_congr fun k _ => ?_
    rw [e1, ← S_mul, ← S_mul]
    refine S_congr fun a _ => ?_
    rw [← S_mul, ← S_mul]
    exact S_congr fun b _ => by grind
  rw [e2]
  have e3 : (S d fun i => S d fun k => S n fun a => S n fun b => (w a / w b) * ((v i * pw n T i a b) * (v k * pw n T k a b)))
      = S d fun i => S n fun a => S n fun b => S d fun k => (w a / w b) * ((v i * pw n T i a b) * (v k * pw n T k a b)) := by
    refine S_congr fun i _ => ?_
    rw [S_comm]
    refine S_congr fun a _ => ?_
    rw [S_comm]
  rw [e3, S_comm]
  refine S_congr fun a _ => ?_
  rw [S_comm]
  refine S_congr fun b _ => ?_
  have e4 : ∀ i, i < d → (S d fun k => (w a / w b) * ((v i * pw n T i a b) * (v k * pw n T k a b))) = ((w a / w b) * S d fun k => v k * pw n T k a b) * (v i * pw n T i a b) := fun i _ => by
    rw [S_mul, S_mul]; grind
  rw [S_congr e4, S_mul]; grind
/-! ### the table with three diagonals -/
def tri (a b : Nat → Rat) : Mt := fun i j => if j = i then a i else if j = i + 1 then 1 else if i = j + 1 then b i else 0
def wt (b : Nat → Rat) : Nat → Rat
  | 0 => 1
  | i + 1 => wt b i / b (i + 1)
theorem div_pos {x y : Rat} (hx : 0 < x) (hy : 0 < y) : 0 < x / y := by
  rw [Rat.div_def]
  exact Rat.mul_pos hx (Rat.inv_pos.mpr hy)
theorem wt_pos {b : Nat → Rat} (hb : ∀ i, 0 < b i) : ∀ i, 0 < wt b i
  | 0 => by show (0 : Rat) < 1; decide
  | i + 1 => div_pos (wt_pos hb i) (hb _)
theorem tri_up (a b : Nat → Rat) (i : Nat) : tri a b i (i + 1) = 1 := by
  unfold tri; rw [if_neg (by omega), if_pos rfl]
theorem tri_dn (a b : Nat → Rat) (i : Nat) : tri a b (i + 1) i = b (i + 1) := by
  unfold tri; rw [if_neg (by omega), if_neg (by omega), if_pos rfl]
theorem tri_no {a b : Nat → Rat} {i j : Nat} (h : i ≠ j) (h1 : j ≠ i + 1) (h2 : i ≠ j + 1) : tri a b i j = 0 := by
  unfold tri; rw [if_neg (by omega), if_neg (by omega), if_neg (by omega)]
theorem tri_symm {a b : Nat → Rat} (hb : ∀ i, 0 < b i) (i j : Nat) : wt b i * tri a b i j = wt b j * tri a b j i := by
  by_cases e : j = i
  · subst e; rfl
  · by_cases e1 : j = i + 1
    · subst e1
      rw [tri_up, tri_dn]
      show wt b i * 1 = wt b i / b (i + 1) * b (i + 1)
      have := hb (i + 1)
      grind
    · by_cases e2 : i = j + 1
      · subst e2
        rw [tri_up, tri_dn]
        show wt b j / b (j + 1) * b (j + 1) = wt b j * 1
        have := hb (j + 1)
        grind
      · rw [tri_no (by omega) e1 e2, tri_no (by omega) e2 e1]; grind
theorem tri_first {n : Nat} {a b : Nat → Rat} : ∀ (k j : Nat), 0 < n → j < n → k ≤ j → pw n (tri a b) k 0 j = if k = j then 1 else 0
  | 0, j, _, _, _ => by
    show (if 0 = j then (1 : Rat) else 0) = _
    rfl
  | k + 1, j, h0, hj, hk => by
    rw [pw_right h0 hj]
    show (S n fun c => pw n (tri a b) k 0 c * tri a b c j) = _
    have h1 : ∀ c, c < n → c ≠ k → pw n (tri a b) k 0 c * tri a b c j = 0 := fun c hc ne => by
      by_cases hkc : k ≤ c
      · rw [tri_first k c h0 hc hkc, if_neg (fun z => ne z.symm)]; grind
      · have : tri a b c j = 0 := by
          unfold tri
          rw [if_neg (by omega), if_neg (by omega), if_neg (by omega)]
        rw [this]; grind
    rw [S_only (j := k) (by omega) h1, tri_first k k h0 (by omega) (by omega), if_pos rfl]
    unfold tri
    rw [if_neg (by omega)]
    by_cases e : k + 1 = j
    · rw [if_pos e.symm, if_pos e]; grind
    · rw [if_neg (fun z => e z.symm), if_neg (by omega), if_neg e]; grind
/-- the traces' form is above 0 -/
theorem form_pos {n t : Nat} {a b : Nat → Rat} (hb : ∀ i, 0 < b i) (ht : t < n) (v : Nat → Rat) (hv : v t ≠ 0) :
    0 < S (t + 1) fun i => S (t + 1) fun k => v i * (v k * tr n (pw n (tri a b) (i + k))) := by
  have hw := wt_pos hb
  rw [form_sq hw (tri_symm hb) v]
  have nn : ∀ a' b' : Nat, 0 ≤ (wt b a' / wt b b') * ((S (t + 1) fun i => v i * pw n (tri a b) i a' b') * (S (t + 1) fun i => v i * pw n (tri a b) i a' b')) := fun a' b' =>
    Rat.mul_nonneg (by have := div_pos (hw a') (hw b'); grind) (sq_nonneg _)
  refine S_pos (j := 0) (by omega) (fun i _ => S_nonneg fun j _ => nn i j) (S_pos (j := t) ht (fun j _ => nn 0 j) ?_)
  have e : (S (t + 1) fun i => v i * pw n (tri a b) i 0 t) = v t := by
    rw [S_only (j := t) (by omega) fun i hi ne => by rw [tri_first i t (by omega) ht (by omega), if_neg ne]; grind]
    rw [tri_first t t (by omega) ht (by omega), if_pos rfl]; grind
  rw [e]
  exact Rat.mul_pos (div_pos (hw 0) (hw t)) (sq_pos hv)
end BD
set_option linter.all false
namespace BD
/-- a factor, which may lie behind the list's end -/
def cf (p : List Rat) (k : Nat) : Rat := p.getD k 0
/-- the factor of the power 1 times p -/
def cx (p : List Rat) : Nat → Rat
  | 0 => 0
  | k + 1 => cf p k
/-- a chain of polynomials, each one power below the one ahead, each the next one times a rising line, less the one behind -/
inductive RegC : List (List Rat) → Prop where
  | one {P : List Rat} : P.length = 1 → cf P 0 ≠ 0 → RegC [P]
  | cons {P Q : List Rat} {L : List (List Rat)} (al be : Rat) : 0 < al → P.length = Q.length + 1 → Q.length = (L.headD []).length + 1 → cf Q (Q.length - 1) ≠ 0 →
      (∀ k, cf P k = al * cx Q k + be * cf Q k - cf (L.headD []) k) → RegC (Q :: L) → RegC (P :: Q :: L)
def toL (m : Nat) (f : Nat → Rat) : List Rat := (List.range m).map f
theorem toL_len (m : Nat) (f : Nat → Rat) : (toL m f).length = m := by unfold toL; rw [List.length_map, List.length_range]
theorem cf_toL {m : Nat} {f : Nat → Rat} (h : ∀ k, m ≤ k → f k = 0) (k : Nat) : cf (toL m f) k = f k := by
  unfold cf toL
  rw [List.getD_eq_getElem?_getD, List.getElem?_map]
  by_cases hk : k < m
  · rw [List.getElem?_range hk]; rfl
  · rw [List.getElem?_eq_none (by rw [List.length_range]; omega), h k (by omega)]; rfl
def sh (f : Nat → Rat) : Nat → Rat
  | 0 => 0
  | k + 1 => f k
theorem cx_toL {m : Nat} {f : Nat → Rat} (h : ∀ k, m ≤ k → f k = 0) (k : Nat) : cx (toL m f) k = sh f k := by
  cases k with
  | zero => rfl
  | succ k => exact cf_toL h k
/-- how it stands behind t steps -/
structure Stand (n : Nat) (q s : Nat → Rat) (t : Nat) (Pp Pc vp vc gp gc : Nat → Rat) : Prop where
  gce : ∀ m, gc m = S (t + 1) fun i => vc i * s (i + m)
  gpe : ∀ m, gp m = S (t + 1) fun i => vp i * s (i + m)
  vp0 : ∀ i, t ≤ i → vp i = 0
  vc0 : ∀ i, t < i → vc i = 0
  vcp : 0 < vc t
  gc0 : ∀ m, m < t → gc m = 0
  gp0 : ∀ m, m + 1 < t → gp m = 0
  gpp : 0 < t → 0 < gp (t - 1)
  Pce : ∀ k, Pc k = S n fun i => q (i + k + 1) * gc i
  Ppe : ∀ k, Pp k = (if t = 0 then q k else 0) + S n fun i => q (i + k + 1) * gp i
  Rc : ∀ m, (S (n + 1) fun i => q i * gc (i + m)) = 0
  Rp : ∀ m, (S (n + 1) fun i => q i * gp (i + m)) = 0
section
variable {n : Nat} {q s : Nat → Rat} {t : Nat} {Pp Pc vp vc gp gc : Nat → Rat}
/-- the next one -/
def nx (al be : Rat) (c p : Nat → Rat) (k : Nat) : Rat := al * sh c k + be * c k - p k
def gx (al be : Rat) (c p : Nat → Rat) (m : Nat) : Rat := al * c (m + 1) + be * c m - p m
theorem Stand.top (I : Stand n q s t Pp Pc vp vc gp gc) (hpos : ∀ (t : Nat) (v : Nat → Rat), t < n → v t ≠ 0 → 0 < S (t + 1) fun i => S (t + 1) fun k => v i * (v k * s (i + k))) (ht : t < n) : 0 < gc t := by
  have h := hpos t vc ht (by have := I.vcp; grind)
  have e : (S (t + 1) fun i => S (t + 1) fun k => vc i * (vc k * s (i + k))) = S (t + 1) fun i => vc i * gc i := S_congr fun i _ => by
    rw [S_mul, I.gce]
    congr 1
    exact S_congr fun k _ => by rw [Nat.add_comm]
  rw [e, S_only (j := t) (by omega) fun i hi ne => by rw [I.gc0 i (by omega)]; grind] at h
  have := I.vcp
  by_cases c : 0 < gc t
  · exact c
  · exfalso
    have : 0 ≤ -gc t := by grind
    have := Rat.mul_nonneg (by grind : 0 ≤ vc t) this
    grind
theorem Stand.Pc_low (I : Stand n q s t Pp Pc vp vc gp gc) (hq : ∀ i, n < i → q i = 0) (k : Nat) (hk : n ≤ k + t) : Pc k = 0 := by
  rw [I.Pce]
  refine S_zero fun i hi => ?_
  by_cases c : i < t
  · rw [I.gc0 i c]; grind
  · rw [hq _ (by omega)]; grind
theorem Stand.Pc_top (I : Stand n q s t Pp Pc vp vc gp gc) (hq : ∀ i, n < i → q i = 0) (ht : t < n) : Pc (n - 1 - t) = q n * gc t := by
  rw [I.Pce, S_only (j := t) ht fun i hi ne => ?_]
  · rw [show t + (n - 1 - t) + 1 = n by omega]
  · by_cases c : i < t
    · rw [I.gc0 i c]; grind
    · rw [hq _ (by omega)]; grind
theorem Stand.Pp_low (I : Stand n q s t Pp Pc vp vc gp gc) (hq : ∀ i, n < i → q i = 0) (k : Nat) (hk : n + 1 ≤ k + t) : Pp k = 0 := by
  rw [I.Ppe]
  have e : (S n fun i => q (i + k + 1) * gp i) = 0 := S_zero fun i hi => by
    by_cases c : i + 1 < t
    · rw [I.gp0 i c]; grind
    · rw [hq _ (by omega)]; grind
  rw [e]
  by_cases c : t = 0
  · rw [if_pos c, hq k (by omega)]; grind
  · rw [if_neg c]; grind
/-- one step -/
theorem Stand.step (I : Stand n q s t Pp Pc vp vc gp gc) (hq : ∀ i, n < i → q i = 0) (ht : t < n) (hg : 0 < gc t) :
    ∃ al be, 0 < al ∧ Stand n q s (t + 1) Pc (nx al be Pc Pp) vc (nx al be vc vp) gc (gx al be gc gp) := by
  let al : Rat := (if t = 0 then 1 else gp (t - 1)) / gc t
  let be : Rat := (gp t - al * gc (t + 1)) / gc t
  have hal : 0 < al := by
    refine div_pos ?_ hg
    by_cases c : t = 0
    · rw [if_pos c]; decide
    · rw [if_neg c]; exact I.gpp (by omega)
  have ea : al * gc t = if t = 0 then 1 else gp (t - 1) := by
    show (if t = 0 then 1 else gp (t - 1)) / gc t * gc t = _
    grind
  have eb : be * gc t = gp t - al * gc (t + 1) := by
    show (gp t - al * gc (t + 1)) / gc t * gc t = _
    grind
  generalize al = A at hal ea eb
  generalize be = B at eb
  refine ⟨A, B, hal, ?_⟩
  have g0 : t = 0 → ∀ m, gp m = 0 := fun e m => by
    rw [I.gpe]
    exact S_zero fun i hi => by rw [I.vp0 i (by omega)]; grind
  refine ⟨fun m => ?_, fun m => ?_, fun i hi => I.vc0 i hi, fun i hi => ?_, ?_, fun m hm => ?_, fun m hm => I.gc0 m (by omega), fun _ => hg, fun k => ?_, fun k => ?_, fun m => ?_, I.Rc⟩
  · -- the new tail by the new factors
    show A * gc (m + 1) + B * gc m - gp m = S (t + 1 + 1) fun i => (A * sh vc i + B * vc i - vp i) * s (i + m)
    have e1 : (S (t + 1 + 1) fun i => (A * sh vc i + B * vc i - vp i) * s (i + m)) = A * (S (t + 1 + 1) fun i => sh vc i * s (i + m)) + B * (S (t + 1 + 1) fun i => vc i * s (i + m)) - S (t + 1 + 1) fun i => vp i * s (i + m) := by
      have : (S (t + 1 + 1) fun i => (A * sh vc i + B * vc i - vp i) * s (i + m)) = S (t + 1 + 1) fun i => (A * (sh vc i * s (i + m)) + B * (vc i * s (i + m))) + (-1) * (vp i * s (i + m)) := S_congr fun i _ => by grind
      rw [this, S_add, S_add, S_mul, S_mul, S_mul]; grind
    have e2 : (S (t + 1 + 1) fun i => sh vc i * s (i + m)) = gc (m + 1) := by
      rw [S_head, I.gce]
      show (0 : Rat) * _ + _ = _
      rw [show (S (t + 1) fun i => sh vc (i + 1) * s (i + 1 + m)) = S (t + 1) fun i => vc i * s (i + (m + 1)) from S_congr fun i _ => by
        show vc i * s (i + 1 + m) = _
        rw [show i + 1 + m = i + (m + 1) by omega]]
      grind
    have e3 : (S (t + 1 + 1) fun i => vc i * s (i + m)) = gc m := by
      show S (t + 1) _ + vc (t + 1) * _ = _
      rw [I.gce, I.vc0 (t + 1) (by omega)]; grind
    have e4 : (S (t + 1 + 1) fun i => vp i * s (i + m)) = gp m := by
      show S (t + 1) _ + vp (t + 1) * _ = _
      rw [I.gpe, I.vp0 (t + 1) (by omega)]; grind
    rw [e1, e2, e3, e4]
  · show gc m = S (t + 1) _ + vc (t + 1) * _
    rw [I.gce, I.vc0 (t + 1) (by omega)]; grind
  · -- new factors behind the end
    show A * sh vc i + B * vc i - vp i = 0
    cases i with
    | zero => omega
    | succ i =>
      show A * vc i + B * vc (i + 1) - vp (i + 1) = 0
      rw [I.vc0 i (by omega), I.vc0 (i + 1) (by omega), I.vp0 (i + 1) (by omega)]; grind
  · show 0 < A * vc t + B * vc (t + 1) - vp (t + 1)
    rw [I.vc0 (t + 1) (by omega), I.vp0 (t + 1) (by omega)]
    have := Rat.mul_pos hal I.vcp
    grind
  · show A * gc (m + 1) + B * gc m - gp m = 0
    by_cases c : m = t
    · subst c; grind
    · rw [I.gc0 m (by omega)]
      by_cases c2 : m + 1 = t
      · rw [c2, ea, if_neg (by omega), show t - 1 = m by omega]; grind
      · rw [I.gc0 (m + 1) (by omega), I.gp0 m (by omega)]; grind
  · -- the new polynomial by the new tail
    show A * sh Pc k + B * Pc k - Pp k = S n fun i => q (i + k + 1) * (A * gc (i + 1) + B * gc i - gp i)
    have e1 : (S n fun i => q (i + k + 1) * (A * gc (i + 1) + B * gc i - gp i)) = A * (S n fun i => q (i + k + 1) * gc (i + 1)) + B * Pc k - S n fun i => q (i + k + 1) * gp i := by
      have : (S n fun i => q (i + k + 1) * (A * gc (i + 1) + B * gc i - gp i)) = S n fun i => (A * (q (i + k + 1) * gc (i + 1)) + B * (q (i + k + 1) * gc i)) + (-1) * (q (i + k + 1) * gp i) := S_congr fun i _ => by grind
      rw [this, S_add, S_add, S_mul, S_mul, S_mul, I.Pce]; grind
    have e2 : (S n fun i => q (i + k + 1) * gc (i + 1)) = sh Pc k - q k * gc 0 := by
      have h1 : (S (n + 1) fun i => q (i + k) * gc i) = q k * gc 0 + S n fun i => q (i + k + 1) * gc (i + 1) := by
        rw [S_head, Nat.zero_add]
        congr 1
        exact S_congr fun i _ => by rw [show i + 1 + k = i + k + 1 by omega]
      have h2 : (S (n + 1) fun i => q (i + k) * gc i) = sh Pc k := by
        cases k with
        | zero => exact I.Rc 0
        | succ k =>
          show S n (fun i => q (i + (k + 1)) * gc i) + q (n + (k + 1)) * gc n = Pc k
          rw [hq (n + (k + 1)) (by omega), I.Pce]
          grind
      grind
    have e3 : A * (q k * gc 0) = if t = 0 then q k else 0 := by
      by_cases c : t = 0
      · subst c
        rw [if_pos rfl] at ea
        rw [if_pos rfl]; grind
      · rw [if_neg c, I.gc0 0 (by omega)]; grind
    rw [e1, e2, I.Ppe]; grind
  · rw [if_neg (by omega), I.Pce]; grind
  · have e1 : (S (n + 1) fun i => q i * gx A B gc gp (i + m)) = A * (S (n + 1) fun i => q i * gc (i + (m + 1))) + B * (S (n + 1) fun i => q i * gc (i + m)) - S (n + 1) fun i => q i * gp (i + m) := by
      have : (S (n + 1) fun i => q i * gx A B gc gp (i + m)) = S (n + 1) fun i => (A * (q i * gc (i + (m + 1))) + B * (q i * gc (i + m))) + (-1) * (q i * gp (i + m)) := S_congr fun i _ => by
        show q i * (A * gc (i + m + 1) + B * gc (i + m) - gp (i + m)) = _
        rw [show i + (m + 1) = i + m + 1 by omega]; grind
      rw [this, S_add, S_add, S_mul, S_mul, S_mul]; grind
    rw [e1, I.Rc, I.Rc, I.Rp]; grind
/-- from any step on the chain is regular to its end -/
theorem Stand.reg (hq : ∀ i, n < i → q i = 0) (hn : q n ≠ 0) (hpos : ∀ (t : Nat) (v : Nat → Rat), t < n → v t ≠ 0 → 0 < S (t + 1) fun i => S (t + 1) fun k => v i * (v k * s (i + k))) :
    ∀ (r t : Nat) {Pp Pc vp vc gp gc : Nat → Rat}, Stand n q s t Pp Pc vp vc gp gc → t + r + 1 = n → ∃ L, RegC (toL (n - t + 1) Pp :: toL (n - t) Pc :: L)
  | r, t, Pp, Pc, vp, vc, gp, gc, I, e => by
    have ht : t < n := by omega
    have hg := I.top hpos ht
    obtain ⟨A, B, hA, J⟩ := I.step hq ht hg
    have rel : ∀ k, Pp k = A * sh Pc k + B * Pc k - nx A B Pc Pp k := fun k => by
      show _ = A * sh Pc k + B * Pc k - (A * sh Pc k + B * Pc k - Pp k)
      grind
    have c1 : ∀ k, n - t + 1 ≤ k → Pp k = 0 := fun k hk => I.Pp_low hq k (by omega)
    have c2 : ∀ k, n - t ≤ k → Pc k = 0 := fun k hk => I.Pc_low hq k (by omega)
    have c3 : ∀ k, n - (t + 1) ≤ k → nx A B Pc Pp k = 0 := fun k hk => J.Pc_low hq k (by omega)
    have top : cf (toL (n - t) Pc) ((toL (n - t) Pc).length - 1) ≠ 0 := by
      rw [toL_len, cf_toL c2, show n - t - 1 = n - 1 - t by omega, I.Pc_top hq ht]
      grind
    cases r with
    | zero =>
      refine ⟨[], RegC.cons A B hA ?_ ?_ top (fun k => ?_) (.one ?_ ?_)⟩
      · rw [toL_len, toL_len]
      · rw [toL_len]; show n - t = 0 + 1; omega
      · show cf _ k = A * cx _ k + B * cf _ k - cf [] k
        rw [cf_toL c1, cf_toL c2, cx_toL c2, rel k, c3 k (by omega)]
        rfl
      · rw [toL_len]; omega
      · have : (toL (n - t) Pc).length - 1 = 0 := by rw [toL_len]; omega
        rw [this] at top; exact top
    | succ r =>
      obtain ⟨L, hL⟩ := Stand.reg hq hn hpos r (t + 1) J (by omega)
      rw [show n - (t + 1) + 1 = n - t by omega] at hL
      refine ⟨toL (n - (t + 1)) (nx A B Pc Pp) :: L, RegC.cons A B hA ?_ ?_ top (fun k => ?_) hL⟩
      · rw [toL_len, toL_len]
      · rw [toL_len]; show n - t = (toL _ _).length + 1; rw [toL_len]; omega
      · show cf _ k = A * cx _ k + B * cf _ k - cf (toL _ _) k
        rw [cf_toL c1, cf_toL c2, cx_toL c2, cf_toL c3, rel k]
end
/-- **a polynomial whose zeros' powers have a form above 0 has a regular chain** -/
theorem reg_of {n : Nat} {q s : Nat → Rat} (h0 : 0 < n) (hq : ∀ i, n < i → q i = 0) (hn : q n ≠ 0)
    (hN : ∀ k, k < n → (S n fun i => q (i + k + 1) * s i) = ((k + 1 : Nat) : Rat) * q (k + 1)) (hR : ∀ m, (S (n + 1) fun i => q i * s (i + m)) = 0)
    (hpos : ∀ (t : Nat) (v : Nat → Rat), t < n → v t ≠ 0 → 0 < S (t + 1) fun i => S (t + 1) fun k => v i * (v k * s (i + k))) :
    ∃ L, RegC (toL (n + 1) q :: toL n (fun k => ((k + 1 : Nat) : Rat) * q (k + 1)) :: L) := by
  have I : Stand n q s 0 q (fun k => S n fun i => q (i + k + 1) * s i) (fun _ => 0) (fun i => if i = 0 then 1 else 0) (fun _ => 0) s := by
    refine ⟨fun m => ?_, fun m => ?_, fun _ _ => rfl, fun i hi => if_neg (by omega), ?_, fun m hm => absurd hm (by omega), fun m hm => absurd hm (by omega), fun h => absurd h (by omega), fun _ => rfl, fun k => ?_, hR, fun m => S_zero fun i _ => by grind⟩
    · show s m = 0 + (if 0 = 0 then (1 : Rat) else 0) * s (0 + m)
      rw [Nat.zero_add, if_pos rfl]; grind
    · show (0 : Rat) = 0 + 0 * s (0 + m)
      grind
    · show (0 : Rat) < if 0 = 0 then 1 else 0
      rw [if_pos rfl]; decide
    · rw [if_pos rfl, S_zero fun i _ => by grind]; grind
  obtain ⟨L, hL⟩ := Stand.reg hq hn hpos (n - 1) 0 I (by omega)
  refine ⟨L, ?_⟩
  rw [Nat.sub_zero] at hL
  have e : toL n (fun k => S n fun i => q (i + k + 1) * s i) = toL n (fun k => ((k + 1 : Nat) : Rat) * q (k + 1)) := by
    unfold toL
    refine List.map_congr_left fun k hk => hN k (List.mem_range.mp hk)
  rw [e] at hL
  exact hL
end BD
set_option linter.all false
namespace BD
def ev (x : Rat) : List Rat → Rat
  | [] => 0
  | c :: p => ev x p * x + c
theorem cf_cons (c : Rat) (p : List Rat) (k : Nat) : cf (c :: p) (k + 1) = cf p k := rfl
theorem ev_S (x : Rat) : ∀ (p : List Rat) (m : Nat), p.length ≤ m → ev x p = S m fun k => cf p k * x ^ k
  | [], m, _ => (S_zero fun i _ => by show (0 : Rat) * _ = 0; grind).symm
  | c :: p, 0, h => by simp at h
  | c :: p, m + 1, h => by
    rw [S_head]
    show ev x p * x + c = c * x ^ 0 + S m fun i => cf p i * x ^ (i + 1)
    rw [ev_S x p m (by simpa using h)]
    have e : (S m fun i => cf p i * x ^ (i + 1)) = x * S m fun i => cf p i * x ^ i := by
      rw [← S_mul]
      exact S_congr fun i _ => by grind
    rw [e]; grind
theorem ev_rel {P Q R : List Rat} {al be : Rat} (x : Rat) (h : ∀ k, cf P k = al * cx Q k + be * cf Q k - cf R k) : ev x P = (al * x + be) * ev x Q - ev x R := by
  let m := P.length + Q.length + R.length
  rw [ev_S x P (m + 1) (by omega), ev_S x R (m + 1) (by omega)]
  have e1 : (S (m + 1) fun k => cf P k * x ^ k) = S (m + 1) fun k => (al * (cx Q k * x ^ k) + be * (cf Q k * x ^ k)) + (-1) * (cf R k * x ^ k) := S_congr fun k _ => by rw [h]; grind
  rw [e1, S_add, S_add, S_mul, S_mul, S_mul]
  have e2 : (S (m + 1) fun k => cx Q k * x ^ k) = x * ev x Q := by
    rw [S_head, ev_S x Q m (by omega), ← S_mul]
    show (0 : Rat) * _ + _ = _
    rw [show (S m fun i => cx Q (i + 1) * x ^ (i + 1)) = S m fun i => x * (cf Q i * x ^ i) from S_congr fun i _ => by
      show cf Q i * x ^ (i + 1) = _
      grind]
    grind
  rw [e2, ← ev_S x Q (m + 1) (by omega)]; grind
/-! ### turns of signs -/
/-- the first that isn't 0 -/
def fz : List Rat → Rat
  | [] => 0
  | x :: l => if x = 0 then fz l else x
def vv : List Rat → Nat
  | [] => 0
  | x :: l => (if x * fz l < 0 then 1 else 0) + vv l
/-- how the first two stand: below all where the second is 0, else their quotient -/
def Lt (ya za yb zb : Rat) : Prop := (za = 0 ∧ zb ≠ 0) ∨ (za ≠ 0 ∧ zb ≠ 0 ∧ ya / za < yb / zb)
/-- below 0 -/
def Ng (y z : Rat) : Prop := z = 0 ∨ y / z < 0
theorem neg_of_div {y z : Rat} (hz : z ≠ 0) : y / z < 0 ↔ y * z < 0 := by
  have hz2 := sq_pos hz
  constructor
  · intro h
    by_cases c : y * z < 0
    · exact c
    · exfalso
      have h1 : 0 < -(y / z) := by grind
      have h2 := Rat.mul_pos h1 hz2
      have e : -(y / z) * (z * z) = -(y * z) := by grind
      rw [e] at h2
      grind
  · intro h
    by_cases c : y / z < 0
    · exact c
    · exfalso
      have h1 : 0 ≤ y / z := by grind
      have h2 := Rat.mul_nonneg h1 (by grind : 0 ≤ z * z)
      have e : y / z * (z * z) = y * z := by grind
      rw [e] at h2
      grind
theorem vv_one (y : Rat) : vv [y] = 0 := by
  show (if y * (0 : Rat) < 0 then 1 else 0) + 0 = 0
  rw [if_neg (by grind)]
theorem inv_lt_pos {p q : Rat} (hp : 0 < p) (h : p < q) : 1 / q < 1 / p := by
  have hq : 0 < q := by grind
  have h1 := Rat.mul_pos hp hq
  have h2 : 0 < (q - p) / (p * q) := div_pos (by grind) h1
  have h3 : (q - p) / (p * q) = 1 / p - 1 / q := by grind
  grind
theorem inv_pos' {p : Rat} (hp : 0 < p) : 0 < 1 / p := div_pos (by decide) hp
/-- the values of a regular chain at a place -/
def vals (x : Rat) (L : List (List Rat)) : List Rat := L.map (ev x)
/-- no two neighbours are 0; what the first adds to the turns -/
theorem reg_first {x : Rat} : ∀ {P Q : List Rat} {L : List (List Rat)}, RegC (P :: Q :: L) → (ev x Q = 0 → ev x P ≠ 0 ∧ ev x P * fz (vals x L) < 0) ∧ (ev x P ≠ 0 ∨ ev x Q ≠ 0)
  | P, Q, L, h => by
    cases h with
    | cons al be ha h1 h2 h3 hr hc =>
      have e := ev_rel x hr
      cases hc with
      | one hl hz =>
        have eq : ev x Q ≠ 0 := by
          match Q, hl, hz with
          | [c], _, hz =>
            show ev x [] * x + c ≠ 0
            have : c ≠ 0 := hz
            show (0 : Rat) * x + c ≠ 0
            grind
        exact ⟨fun z => absurd z eq, .inr eq⟩
      | @cons _ R L' al' be' ha' h1' h2' h3' hr' hc' =>
        have ih := reg_first (x := x) (RegC.cons al' be' ha' h1' h2' h3' hr' hc')
        have key : ev x Q = 0 → ev x P ≠ 0 ∧ ev x P * fz (vals x (R :: L')) < 0 := fun z => by
          have hR : ev x R ≠ 0 := by
            rcases ih.2 with q | q
            · exact absurd z q
            · exact q
          have e' : ev x P = -ev x R := by
            have : ev x P = (al * x + be) * ev x Q - ev x R := e
            grind
          have f : fz (vals x (R :: L')) = ev x R := by
            show (if ev x R = 0 then _ else ev x R) = _
            rw [if_neg hR]
          rw [f, e']
          have := sq_pos hR
          exact ⟨by grind, by grind⟩
        refine ⟨key, ?_⟩
        by_cases z : ev x Q = 0
        · exact .inl (key z).1
        · exact .inr z
theorem vv_first {x : Rat} {P Q : List Rat} {L : List (List Rat)} (h : RegC (P :: Q :: L)) :
    (Ng (ev x P) (ev x Q) → vv (vals x (P :: Q :: L)) = 1 + vv (vals x (Q :: L))) ∧ (¬ Ng (ev x P) (ev x Q) → vv (vals x (P :: Q :: L)) = vv (vals x (Q :: L))) := by
  have hf := (reg_first (x := x) h).1
  have e : vv (vals x (P :: Q :: L)) = (if ev x P * fz (vals x (Q :: L)) < 0 then 1 else 0) + vv (vals x (Q :: L)) := rfl
  have e2 : fz (vals x (Q :: L)) = if ev x Q = 0 then fz (vals x L) else ev x Q := rfl
  rw [e, e2]
  by_cases z : ev x Q = 0
  · rw [if_pos z, if_pos (hf z).2]
    exact ⟨fun _ => rfl, fun n => absurd (.inl z) n⟩
  · rw [if_neg z]
    constructor
    · intro n
      rcases n with n | n
      · exact absurd n z
      · rw [if_pos ((neg_of_div z).mp n)]
    · intro n
      rw [if_neg fun c => n (.inr ((neg_of_div z).mpr c)), Nat.zero_add]
theorem reg_lt {a b : Rat} (hab : a < b) : ∀ {P Q : List Rat} {L : List (List Rat)}, RegC (P :: Q :: L) →
    vv (vals b (Q :: L)) < vv (vals a (Q :: L)) ∨ (vv (vals a (Q :: L)) = vv (vals b (Q :: L)) ∧ Lt (ev a P) (ev a Q) (ev b P) (ev b Q))
  | P, Q, L, h => by
    cases h with
    | cons al be ha h1 h2 h3 hr hc =>
      have ea := ev_rel a hr
      have eb := ev_rel b hr
      have hm := Rat.mul_pos ha (by grind : 0 < b - a)
      cases hc with
      | one hl hz =>
        match Q, hl, hz with
        | [c], _, hz =>
          have hc0 : c ≠ 0 := hz
          refine .inr ⟨(vv_one _).trans (vv_one _).symm, .inr ?_⟩
          have qa : ev a [c] = c := by show (0 : Rat) * a + c = c; grind
          have qb : ev b [c] = c := by show (0 : Rat) * b + c = c; grind
          have ra : ev a ([] : List Rat) = 0 := rfl
          have rb : ev b ([] : List Rat) = 0 := rfl
          rw [qa] at ea
          rw [qb] at eb
          have ea' : ev a P = (al * a + be) * c - 0 := ea
          have eb' : ev b P = (al * b + be) * c - 0 := eb
          rw [qa, qb, ea', eb']
          refine ⟨hc0, hc0, ?_⟩
          have x1 : ((al * a + be) * c - 0) / c = al * a + be := by grind
          have x2 : ((al * b + be) * c - 0) / c = al * b + be := by grind
          rw [x1, x2]; grind
      | @cons _ R L' al' be' ha' h1' h2' h3' hr' hc' =>
        have hQ : RegC (Q :: R :: L') := RegC.cons al' be' ha' h1' h2' h3' hr' hc'
        have ih := reg_lt hab hQ
        have va := vv_first (x := a) hQ
        have vb := vv_first (x := b) hQ
        have ea' : ev a P = (al * a + be) * ev a Q - ev a R := ea
        have eb' : ev b P = (al * b + be) * ev b Q - ev b R := eb
        have ra : ev a Q ≠ 0 → ev a P / ev a Q = al * a + be - ev a R / ev a Q := fun z => by rw [ea']; grind
        have rb : ev b Q ≠ 0 → ev b P / ev b Q = al * b + be - ev b R / ev b Q := fun z => by rw [eb']; grind
        have na := (reg_first (x := a) hQ).2
        have nb := (reg_first (x := b) hQ).2
        generalize vv (vals a (Q :: R :: L')) = Va at va ih ⊢
        generalize vv (vals b (Q :: R :: L')) = Vb at vb ih ⊢
        generalize vv (vals a (R :: L')) = Wa at va ih ⊢
        generalize vv (vals b (R :: L')) = Wb at vb ih ⊢
        generalize ev a P = ya at ra ⊢
        generalize ev b P = yb at rb ⊢
        generalize ev a Q = za at *
        generalize ev b Q = zb at *
        generalize ev a R = ua at *
        generalize ev b R = ub at *
        -- the quotient's part behind, by the quotient of the next two
        have inv : ∀ z u : Rat, z ≠ 0 → u ≠ 0 → u / z = 1 / (z / u) := fun z u h1 h2 => by grind
        have posA : ¬ Ng za ua → za ≠ 0 → 0 < za / ua := fun n z => by
          have : ua ≠ 0 := fun e => n (.inl e)
          have h1 : ¬ za / ua < 0 := fun e => n (.inr e)
          have h2 : za / ua ≠ 0 := by grind
          grind
        have posB : ¬ Ng zb ub → zb ≠ 0 → 0 < zb / ub := fun n z => by
          have : ub ≠ 0 := fun e => n (.inl e)
          have h1 : ¬ zb / ub < 0 := fun e => n (.inr e)
          have h2 : zb / ub ≠ 0 := by grind
          grind
        have nzB : Ng zb ub → zb ≠ 0 := fun n z => by
          rcases n with n | n
          · rcases nb with q | q
            · exact q z
            · exact q n
          · rw [z] at n; grind
        have nzA : Ng za ua → za ≠ 0 := fun n z => by
          rcases n with n | n
          · rcases na with q | q
            · exact q z
            · exact q n
          · rw [z] at n; grind
        have ltB : Ng zb ub → 0 ≤ -(ub / zb) := fun n => by
          have z := nzB n
          rcases n with n | n
          · rw [n]; grind
          · have hu : ub ≠ 0 := by intro e; rw [e] at n; grind
            have h1 : 0 < -(zb / ub) := by grind
            have h2 := inv_pos' h1
            grind
        have gtA : ¬ Ng za ua → za ≠ 0 → 0 < ua / za := fun n z => by
          have hu : ua ≠ 0 := fun e => n (.inl e)
          rw [inv za ua z hu]
          exact inv_pos' (posA n z)
        rcases ih with lt | ⟨eq, lt⟩
        · -- more turns behind at a
          by_cases cA : Ng za ua
          · have := va.1 cA
            by_cases cB : Ng zb ub
            · have := vb.1 cB; omega
            · have := vb.2 cB; omega
          · have h1 := va.2 cA
            by_cases cB : Ng zb ub
            · have h2 := vb.1 cB
              by_cases c : Vb < Va
              · exact .inl c
              · refine .inr ⟨by omega, ?_⟩
                have zB := nzB cB
                by_cases zA : za = 0
                · exact .inl ⟨zA, zB⟩
                · refine .inr ⟨zA, zB, ?_⟩
                  rw [ra zA, rb zB]
                  have := ltB cB
                  have := gtA cA zA
                  grind
            · have := vb.2 cB; omega
        · by_cases cA : Ng za ua
          · have h1 := va.1 cA
            by_cases cB : Ng zb ub
            · have h2 := vb.1 cB
              refine .inr ⟨by omega, .inr ⟨nzA cA, nzB cB, ?_⟩⟩
              rw [ra (nzA cA), rb (nzB cB)]
              rcases lt with ⟨e, _⟩ | ⟨z1, z2, l⟩
              · rw [e]
                have := ltB cB
                grind
              · have g1 : za / ua < 0 := by
                  rcases cA with q | q
                  · exact absurd q z1
                  · exact q
                have g2 : zb / ub < 0 := by
                  rcases cB with q | q
                  · exact absurd q z2
                  · exact q
                rw [inv za ua (nzA cA) z1, inv zb ub (nzB cB) z2]
                have h3 := inv_lt_pos (p := -(zb / ub)) (q := -(za / ua)) (by grind) (by grind)
                have e3 : 1 / -(za / ua) = -(1 / (za / ua)) := by grind
                have e4 : 1 / -(zb / ub) = -(1 / (zb / ub)) := by grind
                rw [e3, e4] at h3
                grind
            · have := vb.2 cB; exact .inl (by omega)
          · have h1 := va.2 cA
            have z1 : ua ≠ 0 := fun e => cA (.inl e)
            rcases lt with ⟨e, _⟩ | ⟨_, z2, l⟩
            · exact absurd e z1
            · have g1 : 0 ≤ za / ua := by
                have : ¬ za / ua < 0 := fun e => cA (.inr e)
                grind
              have g2 : 0 < zb / ub := by grind
              have cB : ¬ Ng zb ub := fun c => by
                rcases c with q | q
                · exact z2 q
                · grind
              have h2 := vb.2 cB
              refine .inr ⟨by omega, ?_⟩
              have zB : zb ≠ 0 := by intro e; rw [e] at g2; grind
              by_cases zA : za = 0
              · exact .inl ⟨zA, zB⟩
              · refine .inr ⟨zA, zB, ?_⟩
                rw [ra zA, rb zB, inv za ua zA z1, inv zb ub zB z2]
                have h3 := inv_lt_pos (posA cA zA) l
                grind
/-- **further to the right there are no more turns** -/
theorem reg_mono {a b : Rat} (hab : a < b) {L : List (List Rat)} (h : RegC L) : vv (vals b L) ≤ vv (vals a L) := by
  cases h with
  | @one P hl hz =>
    show (if _ * (0 : Rat) < 0 then 1 else 0) + 0 ≤ _
    rw [if_neg (by grind)]
    exact Nat.zero_le _
  | @cons P Q L' al be ha h1 h2 h3 hr hc =>
    have h : RegC (P :: Q :: L') := RegC.cons al be ha h1 h2 h3 hr hc
    have k := reg_lt hab h
    have va := vv_first (x := a) h
    have vb := vv_first (x := b) h
    by_cases cA : Ng (ev a P) (ev a Q)
    · have e1 := va.1 cA
      by_cases cB : Ng (ev b P) (ev b Q)
      · have e2 := vb.1 cB
        rcases k with k | ⟨k, _⟩ <;> omega
      · have e2 := vb.2 cB
        rcases k with k | ⟨k, _⟩ <;> omega
    · have e1 := va.2 cA
      by_cases cB : Ng (ev b P) (ev b Q)
      · have e2 := vb.1 cB
        rcases k with k | ⟨k, l⟩
        · omega
        · exfalso
          have z1 : ev a Q ≠ 0 := fun e => cA (.inl e)
          have n1 : ¬ ev a P / ev a Q < 0 := fun e => cA (.inr e)
          rcases l with ⟨e, _⟩ | ⟨_, z2, l⟩
          · exact z1 e
          · rcases cB with q | q
            · exact z2 q
            · grind
      · have e2 := vb.2 cB
        rcases k with k | ⟨k, _⟩ <;> omega
end BD
set_option linter.all false
namespace BD
/-- the polynomial of the table with three diagonals, its rows i, .., i + r - 1 -/
def ch (a b : Nat → Rat) : Nat → Nat → Nat → Rat
  | 0, _ => fun k => if k = 0 then 1 else 0
  | 1, i => fun k => sh (fun k => if k = 0 then 1 else 0) k - a i * (if k = 0 then 1 else 0)
  | r + 2, i => fun k => sh (ch a b (r + 1) (i + 1)) k - a i * ch a b (r + 1) (i + 1) k - b (i + 1) * ch a b r (i + 2) k
theorem ch_low (a b : Nat → Rat) : ∀ (r i k : Nat), r < k → ch a b r i k = 0
  | 0, i, k, h => by show (if k = 0 then (1 : Rat) else 0) = 0; rw [if_neg (by omega)]
  | 1, i, k, h => by
    match k, h with
    | k + 2, _ =>
      show (if k + 1 = 0 then (1 : Rat) else 0) - a i * (if k + 2 = 0 then 1 else 0) = 0
      rw [if_neg (by omega), if_neg (by omega)]; grind
  | r + 2, i, k, h => by
    match k, h with
    | k + 1, h =>
      show ch a b (r + 1) (i + 1) k - a i * ch a b (r + 1) (i + 1) (k + 1) - b (i + 1) * ch a b r (i + 2) (k + 1) = 0
      rw [ch_low a b (r + 1) (i + 1) k (by omega), ch_low a b (r + 1) (i + 1) (k + 1) (by omega), ch_low a b r (i + 2) (k + 1) (by omega)]; grind
theorem ch_top (a b : Nat → Rat) : ∀ (r i : Nat), ch a b r i r = 1
  | 0, i => rfl
  | 1, i => by show (if 0 = 0 then (1 : Rat) else 0) - a i * (if 1 = 0 then 1 else 0) = 1; rw [if_pos rfl, if_neg (by omega)]; grind
  | r + 2, i => by
    show ch a b (r + 1) (i + 1) (r + 1) - a i * ch a b (r + 1) (i + 1) (r + 2) - b (i + 1) * ch a b r (i + 2) (r + 2) = 1
    rw [ch_top a b (r + 1) (i + 1), ch_low a b (r + 1) (i + 1) (r + 2) (by omega), ch_low a b r (i + 2) (r + 2) (by omega)]; grind
/-- a polynomial that undoes the table undoes its traces -/
theorem tr_zero {n d : Nat} {T : Mt} {q : Nat → Rat} (h : ∀ i j, i < n → j < n → (S d fun k => q k * pw n T k i j) = 0) (m : Nat) : (S d fun k => q k * tr n (pw n T (k + m))) = 0 := by
  have e : (S d fun k => q k * tr n (pw n T (k + m))) = S n fun i => S n fun j => (S d fun k => q k * pw n T k i j) * pw n T m j i := by
    have e1 : ∀ k, k < d → q k * tr n (pw n T (k + m)) = S n fun i => S n fun j => (q k * pw n T k i j) * pw n T m j i := fun k _ => by
      rw [tr_pw, ← S_mul]
      refine S_congr fun i _ => ?_
      rw [← S_mul]
      exact S_congr fun j _ => by grind
    rw [S_congr e1, S_comm]
    refine S_congr fun i _ => ?_
    rw [S_comm]
    refine S_congr fun j _ => ?_
    rw [show (S d fun k => q k * pw n T k i j) * pw n T m j i = pw n T m j i * S d fun k => q k * pw n T k i j by grind, ← S_mul]
    exact S_congr fun k _ => by grind
  rw [e]
  exact S_zero fun i hi => S_zero fun j hj => by rw [h i j hi hj]; grind
/-! ### the powers, row by row -/
section
variable (a b : Nat → Rat) (k j : Nat)
theorem p4_0 : pw 4 (tri a b) (k + 1) 0 j = a 0 * pw 4 (tri a b) k 0 j + pw 4 (tri a b) k 1 j := by
  show 0 + tri a b 0 0 * _ + tri a b 0 1 * _ + tri a b 0 2 * _ + tri a b 0 3 * _ = _
  simp only [tri]; simp; grind
theorem p4_1 : pw 4 (tri a b) (k + 1) 1 j = b 1 * pw 4 (tri a b) k 0 j + a 1 * pw 4 (tri a b) k 1 j + pw 4 (tri a b) k 2 j := by
  show 0 + tri a b 1 0 * _ + tri a b 1 1 * _ + tri a b 1 2 * _ + tri a b 1 3 * _ = _
  simp only [tri]; simp; grind
theorem p4_2 : pw 4 (tri a b) (k + 1) 2 j = b 2 * pw 4 (tri a b) k 1 j + a 2 * pw 4 (tri a b) k 2 j + pw 4 (tri a b) k 3 j := by
  show 0 + tri a b 2 0 * _ + tri a b 2 1 * _ + tri a b 2 2 * _ + tri a b 2 3 * _ = _
  simp only [tri]; simp; grind
theorem p4_3 : pw 4 (tri a b) (k + 1) 3 j = b 3 * pw 4 (tri a b) k 2 j + a 3 * pw 4 (tri a b) k 3 j := by
  show 0 + tri a b 3 0 * _ + tri a b 3 1 * _ + tri a b 3 2 * _ + tri a b 3 3 * _ = _
  simp only [tri]; simp; grind
theorem p3_0 : pw 3 (tri a b) (k + 1) 0 j = a 0 * pw 3 (tri a b) k 0 j + pw 3 (tri a b) k 1 j := by
  show 0 + tri a b 0 0 * _ + tri a b 0 1 * _ + tri a b 0 2 * _ = _
  simp only [tri]; simp; grind
theorem p3_1 : pw 3 (tri a b) (k + 1) 1 j = b 1 * pw 3 (tri a b) k 0 j + a 1 * pw 3 (tri a b) k 1 j + pw 3 (tri a b) k 2 j := by
  show 0 + tri a b 1 0 * _ + tri a b 1 1 * _ + tri a b 1 2 * _ = _
  simp only [tri]; simp; grind
theorem p3_2 : pw 3 (tri a b) (k + 1) 2 j = b 2 * pw 3 (tri a b) k 1 j + a 2 * pw 3 (tri a b) k 2 j := by
  show 0 + tri a b 2 0 * _ + tri a b 2 1 * _ + tri a b 2 2 * _ = _
  simp only [tri]; simp; grind
theorem p2_0 : pw 2 (tri a b) (k + 1) 0 j = a 0 * pw 2 (tri a b) k 0 j + pw 2 (tri a b) k 1 j := by
  show 0 + tri a b 0 0 * _ + tri a b 0 1 * _ = _
  simp only [tri]; simp; grind
theorem p2_1 : pw 2 (tri a b) (k + 1) 1 j = b 1 * pw 2 (tri a b) k 0 j + a 1 * pw 2 (tri a b) k 1 j := by
  show 0 + tri a b 1 0 * _ + tri a b 1 1 * _ = _
  simp only [tri]; simp; grind
theorem p1_0 : pw 1 (tri a b) (k + 1) 0 j = a 0 * pw 1 (tri a b) k 0 j := by
  show 0 + tri a b 0 0 * _ = _
  simp only [tri]; simp; grind
end
theorem pw_0 (n : Nat) (T : Mt) (i j : Nat) : pw n T 0 i j = if i = j then 1 else 0 := rfl
theorem S0 (f : Nat → Rat) : S 0 f = 0 := rfl
theorem S1 (f : Nat → Rat) : S 1 f = f 0 := by show (0 : Rat) + _ = _; grind
theorem S2 (f : Nat → Rat) : S 2 f = f 0 + f 1 := by show (0 : Rat) + _ + _ = _; grind
theorem S3 (f : Nat → Rat) : S 3 f = f 0 + f 1 + f 2 := by show (0 : Rat) + _ + _ + _ = _; grind
theorem S4 (f : Nat → Rat) : S 4 f = f 0 + f 1 + f 2 + f 3 := by show (0 : Rat) + _ + _ + _ + _ = _; grind
theorem S5 (f : Nat → Rat) : S 5 f = f 0 + f 1 + f 2 + f 3 + f 4 := by show (0 : Rat) + _ + _ + _ + _ + _ = _; grind
/-- what is asked of a table's polynomial -/
def Good (n : Nat) (a b : Nat → Rat) : Prop :=
  (∀ i j, i < n → j < n → (S (n + 1) fun k => ch a b n 0 k * pw n (tri a b) k i j) = 0) ∧
  ∀ k, k < n → (S n fun i => ch a b n 0 (i + k + 1) * tr n (pw n (tri a b) i)) = ((k + 1 : Nat) : Rat) * ch a b n 0 (k + 1)
theorem r1_1_0 (a b : Nat → Rat) (j : Nat) : pw 1 (tri a b) 1 0 j = a 0 * pw 1 (tri a b) 0 0 j := p1_0 a b 0 j
theorem r2_1_0 (a b : Nat → Rat) (j : Nat) : pw 2 (tri a b) 1 0 j = a 0 * pw 2 (tri a b) 0 0 j + pw 2 (tri a b) 0 1 j := p2_0 a b 0 j
theorem r2_1_1 (a b : Nat → Rat) (j : Nat) : pw 2 (tri a b) 1 1 j = b 1 * pw 2 (tri a b) 0 0 j + a 1 * pw 2 (tri a b) 0 1 j := p2_1 a b 0 j
theorem r2_2_0 (a b : Nat → Rat) (j : Nat) : pw 2 (tri a b) 2 0 j = a 0 * pw 2 (tri a b) 1 0 j + pw 2 (tri a b) 1 1 j := p2_0 a b 1 j
theorem r2_2_1 (a b : Nat → Rat) (j : Nat) : pw 2 (tri a b) 2 1 j = b 1 * pw 2 (tri a b) 1 0 j + a 1 * pw 2 (tri a b) 1 1 j := p2_1 a b 1 j
theorem r3_1_0 (a b : Nat → Rat) (j : Nat) : pw 3 (tri a b) 1 0 j = a 0 * pw 3 (tri a b) 0 0 j + pw 3 (tri a b) 0 1 j := p3_0 a b 0 j
theorem r3_1_1 (a b : Nat → Rat) (j : Nat) : pw 3 (tri a b) 1 1 j = b 1 * pw 3 (tri a b) 0 0 j + a 1 * pw 3 (tri a b) 0 1 j + pw 3 (tri a b) 0 2 j := p3_1 a b 0 j
theorem r3_1_2 (a b : Nat → Rat) (j : Nat) : pw 3 (tri a b) 1 2 j = b 2 * pw 3 (tri a b) 0 1 j + a 2 * pw 3 (tri a b) 0 2 j := p3_2 a b 0 j
theorem r3_2_0 (a b : Nat → Rat) (j : Nat) : pw 3 (tri a b) 2 0 j = a 0 * pw 3 (tri a b) 1 0 j + pw 3 (tri a b) 1 1 j := p3_0 a b 1 j
theorem r3_2_1 (a b : Nat → Rat) (j : Nat) : pw 3 (tri a b) 2 1 j = b 1 * pw 3 (tri a b) 1 0 j + a 1 * pw 3 (tri a b) 1 1 j + pw 3 (tri a b) 1 2 j := p3_1 a b 1 j
theorem r3_2_2 (a b : Nat → Rat) (j : Nat) : pw 3 (tri a b) 2 2 j = b 2 * pw 3 (tri a b) 1 1 j + a 2 * pw 3 (tri a b) 1 2 j := p3_2 a b 1 j
theorem r3_3_0 (a b : Nat → Rat) (j : Nat) : pw 3 (tri a b) 3 0 j = a 0 * pw 3 (tri a b) 2 0 j + pw 3 (tri a b) 2 1 j := p3_0 a b 2 j
theorem r3_3_1 (a b : Nat → Rat) (j : Nat) : pw 3 (tri a b) 3 1 j = b 1 * pw 3 (tri a b) 2 0 j + a 1 * pw 3 (tri a b) 2 1 j + pw 3 (tri a b) 2 2 j := p3_1 a b 2 j
theorem r3_3_2 (a b : Nat → Rat) (j : Nat) : pw 3 (tri a b) 3 2 j = b 2 * pw 3 (tri a b) 2 1 j + a 2 * pw 3 (tri a b) 2 2 j := p3_2 a b 2 j
theorem r4_1_0 (a b : Nat → Rat) (j : Nat) : pw 4 (tri a b) 1 0 j = a 0 * pw 4 (tri a b) 0 0 j + pw 4 (tri a b) 0 1 j := p4_0 a b 0 j
theorem r4_1_1 (a b : Nat → Rat) (j : Nat) : pw 4 (tri a b) 1 1 j = b 1 * pw 4 (tri a b) 0 0 j + a 1 * pw 4 (tri a b) 0 1 j + pw 4 (tri a b) 0 2 j := p4_1 a b 0 j
theorem r4_1_2 (a b : Nat → Rat) (j : Nat) : pw 4 (tri a b) 1 2 j = b 2 * pw 4 (tri a b) 0 1 j + a 2 * pw 4 (tri a b) 0 2 j + pw 4 (tri a b) 0 3 j := p4_2 a b 0 j
theorem r4_1_3 (a b : Nat → Rat) (j : Nat) : pw 4 (tri a b) 1 3 j = b 3 * pw 4 (tri a b) 0 2 j + a 3 * pw 4 (tri a b) 0 3 j := p4_3 a b 0 j
theorem r4_2_0 (a b : Nat → Rat) (j : Nat) : pw 4 (tri a b) 2 0 j = a 0 * pw 4 (tri a b) 1 0 j + pw 4 (tri a b) 1 1 j := p4_0 a b 1 j
theorem r4_2_1 (a b : Nat → Rat) (j : Nat) : pw 4 (tri a b) 2 1 j = b 1 * pw 4 (tri a b) 1 0 j + a 1 * pw 4 (tri a b) 1 1 j + pw 4 (tri a b) 1 2 j := p4_1 a b 1 j
theorem r4_2_2 (a b : Nat → Rat) (j : Nat) : pw 4 (tri a b) 2 2 j = b 2 * pw 4 (tri a b) 1 1 j + a 2 * pw 4 (tri a b) 1 2 j + pw 4 (tri a b) 1 3 j := p4_2 a b 1 j
theorem r4_2_3 (a b : Nat → Rat) (j : Nat) : pw 4 (tri a b) 2 3 j = b 3 * pw 4 (tri a b) 1 2 j + a 3 * pw 4 (tri a b) 1 3 j := p4_3 a b 1 j
theorem r4_3_0 (a b : Nat → Rat) (j : Nat) : pw 4 (tri a b) 3 0 j = a 0 * pw 4 (tri a b) 2 0 j + pw 4 (tri a b) 2 1 j := p4_0 a b 2 j
theorem r4_3_1 (a b : Nat → Rat) (j : Nat) : pw 4 (tri a b) 3 1 j = b 1 * pw 4 (tri a b) 2 0 j + a 1 * pw 4 (tri a b) 2 1 j + pw 4 (tri a b) 2 2 j := p4_1 a b 2 j
theorem r4_3_2 (a b : Nat → Rat) (j : Nat) : pw 4 (tri a b) 3 2 j = b 2 * pw 4 (tri a b) 2 1 j + a 2 * pw 4 (tri a b) 2 2 j + pw 4 (tri a b) 2 3 j := p4_2 a b 2 j
theorem r4_3_3 (a b : Nat → Rat) (j : Nat) : pw 4 (tri a b) 3 3 j = b 3 * pw 4 (tri a b) 2 2 j + a 3 * pw 4 (tri a b) 2 3 j := p4_3 a b 2 j
theorem r4_4_0 (a b : Nat → Rat) (j : Nat) : pw 4 (tri a b) 4 0 j = a 0 * pw 4 (tri a b) 3 0 j + pw 4 (tri a b) 3 1 j := p4_0 a b 3 j
theorem r4_4_1 (a b : Nat → Rat) (j : Nat) : pw 4 (tri a b) 4 1 j = b 1 * pw 4 (tri a b) 3 0 j + a 1 * pw 4 (tri a b) 3 1 j + pw 4 (tri a b) 3 2 j := p4_1 a b 3 j
theorem r4_4_2 (a b : Nat → Rat) (j : Nat) : pw 4 (tri a b) 4 2 j = b 2 * pw 4 (tri a b) 3 1 j + a 2 * pw 4 (tri a b) 3 2 j + pw 4 (tri a b) 3 3 j := p4_2 a b 3 j
theorem r4_4_3 (a b : Nat → Rat) (j : Nat) : pw 4 (tri a b) 4 3 j = b 3 * pw 4 (tri a b) 3 2 j + a 3 * pw 4 (tri a b) 3 3 j := p4_3 a b 3 j
theorem c1_0 (a b : Nat → Rat) : ch a b 1 0 0 = -(a 0) := by simp [ch, sh] <;> grind
theorem c1_1 (a b : Nat → Rat) : ch a b 1 0 1 = 1 := by simp [ch, sh] <;> grind
theorem c1_2 (a b : Nat → Rat) : ch a b 1 0 2 = 0 := ch_low a b 1 0 2 (by omega)
theorem c2_0 (a b : Nat → Rat) : ch a b 2 0 0 = a 0 * a 1 - b 1 := by simp [ch, sh] <;> grind
theorem c2_1 (a b : Nat → Rat) : ch a b 2 0 1 = -(a 0) - a 1 := by simp [ch, sh] <;> grind
theorem c2_2 (a b : Nat → Rat) : ch a b 2 0 2 = 1 := by simp [ch, sh] <;> grind
theorem c2_3 (a b : Nat → Rat) : ch a b 2 0 3 = 0 := ch_low a b 2 0 3 (by omega)
theorem c2_4 (a b : Nat → Rat) : ch a b 2 0 4 = 0 := ch_low a b 2 0 4 (by omega)
theorem c3_0 (a b : Nat → Rat) : ch a b 3 0 0 = -(a 0 * a 1 * a 2) + a 0 * b 2 + a 2 * b 1 := by simp [ch, sh] <;> grind
theorem c3_1 (a b : Nat → Rat) : ch a b 3 0 1 = a 0 * a 1 + a 0 * a 2 + a 1 * a 2 - b 1 - b 2 := by simp [ch, sh] <;> grind
theorem c3_2 (a b : Nat → Rat) : ch a b 3 0 2 = -(a 0) - a 1 - a 2 := by simp [ch, sh] <;> grind
theorem c3_3 (a b : Nat → Rat) : ch a b 3 0 3 = 1 := by simp [ch, sh] <;> grind
theorem c3_4 (a b : Nat → Rat) : ch a b 3 0 4 = 0 := ch_low a b 3 0 4 (by omega)
theorem c3_5 (a b : Nat → Rat) : ch a b 3 0 5 = 0 := ch_low a b 3 0 5 (by omega)
theorem c3_6 (a b : Nat → Rat) : ch a b 3 0 6 = 0 := ch_low a b 3 0 6 (by omega)
theorem c4_0 (a b : Nat → Rat) : ch a b 4 0 0 = a 0 * a 1 * a 2 * a 3 - a 0 * a 1 * b 3 - a 0 * a 3 * b 2 - a 2 * a 3 * b 1 + b 1 * b 3 := by simp [ch, sh] <;> grind
theorem c4_1 (a b : Nat → Rat) : ch a b 4 0 1 = -(a 0 * a 1 * a 2) - a 0 * a 1 * a 3 - a 0 * a 2 * a 3 + a 0 * b 2 + a 0 * b 3 - a 1 * a 2 * a 3 + a 1 * b 3 + a 2 * b 1 + a 3 * b 1 + a 3 * b 2 := by simp [ch, sh] <;> grind
theorem c4_2 (a b : Nat → Rat) : ch a b 4 0 2 = a 0 * a 1 + a 0 * a 2 + a 0 * a 3 + a 1 * a 2 + a 1 * a 3 + a 2 * a 3 - b 1 - b 2 - b 3 := by simp [ch, sh] <;> grind
theorem c4_3 (a b : Nat → Rat) : ch a b 4 0 3 = -(a 0) - a 1 - a 2 - a 3 := by simp [ch, sh] <;> grind
theorem c4_4 (a b : Nat → Rat) : ch a b 4 0 4 = 1 := by simp [ch, sh] <;> grind
theorem c4_5 (a b : Nat → Rat) : ch a b 4 0 5 = 0 := ch_low a b 4 0 5 (by omega)
theorem c4_6 (a b : Nat → Rat) : ch a b 4 0 6 = 0 := ch_low a b 4 0 6 (by omega)
theorem c4_7 (a b : Nat → Rat) : ch a b 4 0 7 = 0 := ch_low a b 4 0 7 (by omega)
theorem c4_8 (a b : Nat → Rat) : ch a b 4 0 8 = 0 := ch_low a b 4 0 8 (by omega)
theorem good1 (a b : Nat → Rat) : Good 1 a b := by
  refine ⟨fun i j hi hj => ?_, fun k hk => ?_⟩
  · match i, j, hi, hj with
    | 0, 0, _, _ =>
      show (S 2 fun k => ch a b 1 0 k * pw 1 (tri a b) k 0 0) = 0
      rw [S2]
      simp only [r1_1_0, pw_0, c1_0, c1_1, c1_2]
      simp <;> grind
  · match k, hk with
    | 0, _ =>
      show (S 1 fun i => ch a b 1 0 (i + 0 + 1) * tr 1 (pw 1 (tri a b) i)) = ((0 + 1 : Nat) : Rat) * ch a b 1 0 1
      rw [S1]
      simp only [tr, S1]
      show ch a b 1 0 1 * (pw 1 (tri a b) 0 0 0) = ((0 + 1 : Nat) : Rat) * ch a b 1 0 1
      simp only [r1_1_0, pw_0, c1_0, c1_1, c1_2]
      simp <;> grind
theorem good2 (a b : Nat → Rat) : Good 2 a b := by
  refine ⟨fun i j hi hj => ?_, fun k hk => ?_⟩
  · match i, j, hi, hj with
    | 0, 0, _, _ =>
      show (S 3 fun k => ch a b 2 0 k * pw 2 (tri a b) k 0 0) = 0
      rw [S3]
      simp only [r2_1_0, r2_1_1, r2_2_0, r2_2_1, pw_0, c2_0, c2_1, c2_2, c2_3, c2_4]
      simp <;> grind
    | 0, 1, _, _ =>
      show (S 3 fun k => ch a b 2 0 k * pw 2 (tri a b) k 0 1) = 0
      rw [S3]
      simp only [r2_1_0, r2_1_1, r2_2_0, r2_2_1, pw_0, c2_0, c2_1, c2_2, c2_3, c2_4]
      simp <;> grind
    | 1, 0, _, _ =>
      show (S 3 fun k => ch a b 2 0 k * pw 2 (tri a b) k 1 0) = 0
      rw [S3]
      simp only [r2_1_0, r2_1_1, r2_2_0, r2_2_1, pw_0, c2_0, c2_1, c2_2, c2_3, c2_4]
      simp <;> grind
    | 1, 1, _, _ =>
      show (S 3 fun k => ch a b 2 0 k * pw 2 (tri a b) k 1 1) = 0
      rw [S3]
      simp only [r2_1_0, r2_1_1, r2_2_0, r2_2_1, pw_0, c2_0, c2_1, c2_2, c2_3, c2_4]
      simp <;> grind
  · match k, hk with
    | 0, _ =>
      show (S 2 fun i => ch a b 2 0 (i + 0 + 1) * tr 2 (pw 2 (tri a b) i)) = ((0 + 1 : Nat) : Rat) * ch a b 2 0 1
      rw [S2]
      simp only [tr, S2]
      show ch a b 2 0 1 * (pw 2 (tri a b) 0 0 0 + pw 2 (tri a b) 0 1 1) + ch a b 2 0 2 * (pw 2 (tri a b) 1 0 0 + pw 2 (tri a b) 1 1 1) = ((0 + 1 : Nat) : Rat) * ch a b 2 0 1
      simp only [r2_1_0, r2_1_1, r2_2_0, r2_2_1, pw_0, c2_0, c2_1, c2_2, c2_3, c2_4]
      simp <;> grind
    | 1, _ =>
      show (S 2 fun i => ch a b 2 0 (i + 1 + 1) * tr 2 (pw 2 (tri a b) i)) = ((1 + 1 : Nat) : Rat) * ch a b 2 0 2
      rw [S2]
      simp only [tr, S2]
      show ch a b 2 0 2 * (pw 2 (tri a b) 0 0 0 + pw 2 (tri a b) 0 1 1) + ch a b 2 0 3 * (pw 2 (tri a b) 1 0 0 + pw 2 (tri a b) 1 1 1) = ((1 + 1 : Nat) : Rat) * ch a b 2 0 2
      simp only [r2_1_0, r2_1_1, r2_2_0, r2_2_1, pw_0, c2_0, c2_1, c2_2, c2_3, c2_4]
      simp <;> grind
theorem good3 (a b : Nat → Rat) : Good 3 a b := by
  refine ⟨fun i j hi hj => ?_, fun k hk => ?_⟩
  · match i, j, hi, hj with
    | 0, 0, _, _ =>
      show (S 4 fun k => ch a b 3 0 k * pw 3 (tri a b) k 0 0) = 0
      rw [S4]
      simp only [r3_1_0, r3_1_1, r3_1_2, r3_2_0, r3_2_1, r3_2_2, r3_3_0, r3_3_1, r3_3_2, pw_0, c3_0, c3_1, c3_2, c3_3, c3_4, c3_5, c3_6]
      simp <;> grind
    | 0, 1, _, _ =>
      show (S 4 fun k => ch a b 3 0 k * pw 3 (tri a b) k 0 1) = 0
      rw [S4]
      simp only [r3_1_0, r3_1_1, r3_1_2, r3_2_0, r3_2_1, r3_2_2, r3_3_0, r3_3_1, r3_3_2, pw_0, c3_0, c3_1, c3_2, c3_3, c3_4, c3_5, c3_6]
      simp <;> grind
    | 0, 2, _, _ =>
      show (S 4 fun k => ch a b 3 0 k * pw 3 (tri a b) k 0 2) = 0
      rw [S4]
      simp only [r3_1_0, r3_1_1, r3_1_2, r3_2_0, r3_2_1, r3_2_2, r3_3_0, r3_3_1, r3_3_2, pw_0, c3_0, c3_1, c3_2, c3_3, c3_4, c3_5, c3_6]
      simp <;> grind
    | 1, 0, _, _ =>
      show (S 4 fun k => ch a b 3 0 k * pw 3 (tri a b) k 1 0) = 0
      rw [S4]
      simp only [r3_1_0, r3_1_1, r3_1_2, r3_2_0, r3_2_1, r3_2_2, r3_3_0, r3_3_1, r3_3_2, pw_0, c3_0, c3_1, c3_2, c3_3, c3_4, c3_5, c3_6]
      simp <;> grind
    | 1, 1, _, _ =>
      show (S 4 fun k => ch a b 3 0 k * pw 3 (tri a b) k 1 1) = 0
      rw [S4]
      simp only [r3_1_0, r3_1_1, r3_1_2, r3_2_0, r3_2_1, r3_2_2, r3_3_0, r3_3_1, r3_3_2, pw_0, c3_0, c3_1, c3_2, c3_3, c3_4, c3_5, c3_6]
      simp <;> grind
    | 1, 2, _, _ =>
      show (S 4 fun k => ch a b 3 0 k * pw 3 (tri a b) k 1 2) = 0
      rw [S4]
      simp only [r3_1_0, r3_1_1, r3_1_2, r3_2_0, r3_2_1, r3_2_2, r3_3_0, r3_3_1, r3_3_2, pw_0, c3_0, c3_1, c3_2, c3_3, c3_4, c3_5, c3_6]
      simp <;> grind
    | 2, 0, _, _ =>
      show (S 4 fun k => ch a b 3 0 k * pw 3 (tri a b) k 2 0) = 0
      rw [S4]
      simp only [r3_1_0, r3_1_1, r3_1_2, r3_2_0, r3_2_1, r3_2_2, r3_3_0, r3_3_1, r3_3_2, pw_0, c3_0, c3_1, c3_2, c3_3, c3_4, c3_5, c3_6]
      simp <;> grind
    | 2, 1, _, _ =>
      show (S 4 fun k => ch a b 3 0 k * pw 3 (tri a b) k 2 1) = 0
      rw [S4]
      simp only [r3_1_0, r3_1_1, r3_1_2, r3_2_0, r3_2_1, r3_2_2, r3_3_0, r3_3_1, r3_3_2, pw_0, c3_0, c3_1, c3_2, c3_3, c3_4, c3_5, c3_6]
      simp <;> grind
    | 2, 2, _, _ =>
      show (S 4 fun k => ch a b 3 0 k * pw 3 (tri a b) k 2 2) = 0
      rw [S4]
      simp only [r3_1_0, r3_1_1, r3_1_2, r3_2_0, r3_2_1, r3_2_2, r3_3_0, r3_3_1, r3_3_2, pw_0, c3_0, c3_1, c3_2, c3_3, c3_4, c3_5, c3_6]
      simp <;> grind
  · match k, hk with
    | 0, _ =>
      show (S 3 fun i => ch a b 3 0 (i + 0 + 1) * tr 3 (pw 3 (tri a b) i)) = ((0 + 1 : Nat) : Rat) * ch a b 3 0 1
      rw [S3]
      simp only [tr, S3]
      show ch a b 3 0 1 * (pw 3 (tri a b) 0 0 0 + pw 3 (tri a b) 0 1 1 + pw 3 (tri a b) 0 2 2) + ch a b 3 0 2 * (pw 3 (tri a b) 1 0 0 + pw 3 (tri a b) 1 1 1 + pw 3 (tri a b) 1 2 2) + ch a b 3 0 3 * (pw 3 (tri a b) 2 0 0 + pw 3 (tri a b) 2 1 1 + pw 3 (tri a b) 2 2 2) = ((0 + 1 : Nat) : Rat) * ch a b 3 0 1
      simp only [r3_1_0, r3_1_1, r3_1_2, r3_2_0, r3_2_1, r3_2_2, r3_3_0, r3_3_1, r3_3_2, pw_0, c3_0, c3_1, c3_2, c3_3, c3_4, c3_5, c3_6]
      simp <;> grind
    | 1, _ =>
      show (S 3 fun i => ch a b 3 0 (i + 1 + 1) * tr 3 (pw 3 (tri a b) i)) = ((1 + 1 : Nat) : Rat) * ch a b 3 0 2
      rw [S3]
      simp only [tr, S3]
      show ch a b 3 0 2 * (pw 3 (tri a b) 0 0 0 + pw 3 (tri a b) 0 1 1 + pw 3 (tri a b) 0 2 2) + ch a b 3 0 3 * (pw 3 (tri a b) 1 0 0 + pw 3 (tri a b) 1 1 1 + pw 3 (tri a b) 1 2 2) + ch a b 3 0 4 * (pw 3 (tri a b) 2 0 0 + pw 3 (tri a b) 2 1 1 + pw 3 (tri a b) 2 2 2) = ((1 + 1 : Nat) : Rat) * ch a b 3 0 2
      simp only [r3_1_0, r3_1_1, r3_1_2, r3_2_0, r3_2_1, r3_2_2, r3_3_0, r3_3_1, r3_3_2, pw_0, c3_0, c3_1, c3_2, c3_3, c3_4, c3_5, c3_6]
      simp <;> grind
    | 2, _ =>
      show (S 3 fun i => ch a b 3 0 (i + 2 + 1) * tr 3 (pw 3 (tri a b) i)) = ((2 + 1 : Nat) : Rat) * ch a b 3 0 3
      rw [S3]
      simp only [tr, S3]
      show ch a b 3 0 3 * (pw 3 (tri a b) 0 0 0 + pw 3 (tri a b) 0 1 1 + pw 3 (tri a b) 0 2 2) + ch a b 3 0 4 * (pw 3 (tri a b) 1 0 0 + pw 3 (tri a b) 1 1 1 + pw 3 (tri a b) 1 2 2) + ch a b 3 0 5 * (pw 3 (tri a b) 2 0 0 + pw 3 (tri a b) 2 1 1 + pw 3 (tri a b) 2 2 2) = ((2 + 1 : Nat) : Rat) * ch a b 3 0 3
      simp only [r3_1_0, r3_1_1, r3_1_2, r3_2_0, r3_2_1, r3_2_2, r3_3_0, r3_3_1, r3_3_2, pw_0, c3_0, c3_1, c3_2, c3_3, c3_4, c3_5, c3_6]
      simp <;> grind
theorem good4 (a b : Nat → Rat) : Good 4 a b := by
  refine ⟨fun i j hi hj => ?_, fun k hk => ?_⟩
  · match i, j, hi, hj with
    | 0, 0, _, _ =>
      show (S 5 fun k => ch a b 4 0 k * pw 4 (tri a b) k 0 0) = 0
      rw [S5]
      simp only [r4_1_0, r4_1_1, r4_1_2, r4_1_3, r4_2_0, r4_2_1, r4_2_2, r4_2_3, r4_3_0, r4_3_1, r4_3_2, r4_3_3, r4_4_0, r4_4_1, r4_4_2, r4_4_3, pw_0, c4_0, c4_1, c4_2, c4_3, c4_4, c4_5, c4_6, c4_7, c4_8]
      simp <;> grind
    | 0, 1, _, _ =>
      show (S 5 fun k => ch a b 4 0 k * pw 4 (tri a b) k 0 1) = 0
      rw [S5]
      simp only [r4_1_0, r4_1_1, r4_1_2, r4_1_3, r4_2_0, r4_2_1, r4_2_2, r4_2_3, r4_3_0, r4_3_1, r4_3_2, r4_3_3, r4_4_0, r4_4_1, r4_4_2, r4_4_3, pw_0, c4_0, c4_1, c4_2, c4_3, c4_4, c4_5, c4_6, c4_7, c4_8]
      simp <;> grind
    | 0, 2, _, _ =>
      show (S 5 fun k => ch a b 4 0 k * pw 4 (tri a b) k 0 2) = 0
      rw [S5]
      simp only [r4_1_0, r4_1_1, r4_1_2, r4_1_3, r4_2_0, r4_2_1, r4_2_2, r4_2_3, r4_3_0, r4_3_1, r4_3_2, r4_3_3, r4_4_0, r4_4_1, r4_4_2, r4_4_3, pw_0, c4_0, c4_1, c4_2, c4_3, c4_4, c4_5, c4_6, c4_7, c4_8]
      simp <;> grind
    | 0, 3, _, _ =>
      show (S 5 fun k => ch a b 4 0 k * pw 4 (tri a b) k 0 3) = 0
      rw [S5]
      simp only [r4_1_0, r4_1_1, r4_1_2, r4_1_3, r4_2_0, r4_2_1, r4_2_2, r4_2_3, r4_3_0, r4_3_1, r4_3_2, r4_3_3, r4_4_0, r4_4_1, r4_4_2, r4_4_3, pw_0, c4_0, c4_1, c4_2, c4_3, c4_4, c4_5, c4_6, c4_7, c4_8]
      simp <;> grind
    | 1, 0, _, _ =>
      show (S 5 fun k => ch a b 4 0 k * pw 4 (tri a b) k 1 0) = 0
      rw [S5]
      simp only [r4_1_0, r4_1_1, r4_1_2, r4_1_3, r4_2_0, r4_2_1, r4_2_2, r4_2_3, r4_3_0, r4_3_1, r4_3_2, r4_3_3, r4_4_0, r4_4_1, r4_4_2, r4_4_3, pw_0, c4_0, c4_1, c4_2, c4_3, c4_4, c4_5, c4_6, c4_7, c4_8]
      simp <;> grind
    | 1, 1, _, _ =>
      show (S 5 fun k => ch a b 4 0 k * pw 4 (tri a b) k 1 1) = 0
      rw [S5]
      simp only [r4_1_0, r4_1_1, r4_1_2, r4_1_3, r4_2_0, r4_2_1, r4_2_2, r4_2_3, r4_3_0, r4_3_1, r4_3_2, r4_3_3, r4_4_0, r4_4_1, r4_4_2, r4_4_3, pw_0, c4_0, c4_1, c4_2, c4_3, c4_4, c4_5, c4_6, c4_7, c4_8]
      simp <;> grind
    | 1, 2, _, _ =>
      show (S 5 fun k => ch a b 4 0 k * pw 4 (tri a b) k 1 2) = 0
      rw [S5]
      simp only [r4_1_0, r4_1_1, r4_1_2, r4_1_3, r4_2_0, r4_2_1, r4_2_2, r4_2_3, r4_3_0, r4_3_1, r4_3_2, r4_3_3, r4_4_0, r4_4_1, r4_4_2, r4_4_3, pw_0, c4_0, c4_1, c4_2, c4_3, c4_4, c4_5, c4_6, c4_7, c4_8]
      simp <;> grind
    | 1, 3, _, _ =>
      show (S 5 fun k => ch a b 4 0 k * pw 4 (tri a b) k 1 3) = 0
      rw [S5]
      simp only [r4_1_0, r4_1_1, r4_1_2, r4_1_3, r4_2_0, r4_2_1, r4_2_2, r4_2_3, r4_3_0, r4_3_1, r4_3_2, r4_3_3, r4_4_0, r4_4_1, r4_4_2, r4_4_3, pw_0, c4_0, c4_1, c4_2, c4_3, c4_4, c4_5, c4_6, c4_7, c4_8]
      simp <;> grind
    | 2, 0, _, _ =>
      show (S 5 fun k => ch a b 4 0 k * pw 4 (tri a b) k 2 0) = 0
      rw [S5]
      simp only [r4_1_0, r4_1_1, r4_1_2, r4_1_3, r4_2_0, r4_2_1, r4_2_2, r4_2_3, r4_3_0, r4_3_1, r4_3_2, r4_3_3, r4_4_0, r4_4_1, r4_4_2, r4_4_3, pw_0, c4_0, c4_1, c4_2, c4_3, c4_4, c4_5, c4_6, c4_7, c4_8]
      simp <;> grind
    | 2, 1, _, _ =>
      show (S 5 fun k => ch a b 4 0 k * pw 4 (tri a b) k 2 1) = 0
      rw [S5]
      simp only [r4_1_0, r4_1_1, r4_1_2, r4_1_3, r4_2_0, r4_2_1, r4_2_2, r4_2_3, r4_3_0, r4_3_1, r4_3_2, r4_3_3, r4_4_0, r4_4_1, r4_4_2, r4_4_3, pw_0, c4_0, c4_1, c4_2, c4_3, c4_4, c4_5, c4_6, c4_7, c4_8]
      simp <;> grind
    | 2, 2, _, _ =>
      show (S 5 fun k => ch a b 4 0 k * pw 4 (tri a b) k 2 2) = 0
      rw [S5]
      simp only [r4_1_0, r4_1_1, r4_1_2, r4_1_3, r4_2_0, r4_2_1, r4_2_2, r4_2_3, r4_3_0, r4_3_1, r4_3_2, r4_3_3, r4_4_0, r4_4_1, r4_4_2, r4_4_3, pw_0, c4_0, c4_1, c4_2, c4_3, c4_4, c4_5, c4_6, c4_7, c4_8]
      simp <;> grind
    | 2, 3, _, _ =>
      show (S 5 fun k => ch a b 4 0 k * pw 4 (tri a b) k 2 3) = 0
      rw [S5]
      simp only [r4_1_0, r4_1_1, r4_1_2, r4_1_3, r4_2_0, r4_2_1, r4_2_2, r4_2_3, r4_3_0, r4_3_1, r4_3_2, r4_3_3, r4_4_0, r4_4_1, r4_4_2, r4_4_3, pw_0, c4_0, c4_1, c4_2, c4_3, c4_4, c4_5, c4_6, c4_7, c4_8]
      simp <;> grind
    | 3, 0, _, _ =>
      show (S 5 fun k => ch a b 4 0 k * pw 4 (tri a b) k 3 0) = 0
      rw [S5]
      simp only [r4_1_0, r4_1_1, r4_1_2, r4_1_3, r4_2_0, r4_2_1, r4_2_2, r4_2_3, r4_3_0, r4_3_1, r4_3_2, r4_3_3, r4_4_0, r4_4_1, r4_4_2, r4_4_3, pw_0, c4_0, c4_1, c4_2, c4_3, c4_4, c4_5, c4_6, c4_7, c4_8]
      simp <;> grind
    | 3, 1, _, _ =>
      show (S 5 fun k => ch a b 4 0 k * pw 4 (tri a b) k 3 1) = 0
      rw [S5]
      simp only [r4_1_0, r4_1_1, r4_1_2, r4_1_3, r4_2_0, r4_2_1, r4_2_2, r4_2_3, r4_3_0, r4_3_1, r4_3_2, r4_3_3, r4_4_0, r4_4_1, r4_4_2, r4_4_3, pw_0, c4_0, c4_1, c4_2, c4_3, c4_4, c4_5, c4_6, c4_7, c4_8]
      simp <;> grind
    | 3, 2, _, _ =>
      show (S 5 fun k => ch a b 4 0 k * pw 4 (tri a b) k 3 2) = 0
      rw [S5]
      simp only [r4_1_0, r4_1_1, r4_1_2, r4_1_3, r4_2_0, r4_2_1, r4_2_2, r4_2_3, r4_3_0, r4_3_1, r4_3_2, r4_3_3, r4_4_0, r4_4_1, r4_4_2, r4_4_3, pw_0, c4_0, c4_1, c4_2, c4_3, c4_4, c4_5, c4_6, c4_7, c4_8]
      simp <;> grind
    | 3, 3, _, _ =>
      show (S 5 fun k => ch a b 4 0 k * pw 4 (tri a b) k 3 3) = 0
      rw [S5]
      simp only [r4_1_0, r4_1_1, r4_1_2, r4_1_3, r4_2_0, r4_2_1, r4_2_2, r4_2_3, r4_3_0, r4_3_1, r4_3_2, r4_3_3, r4_4_0, r4_4_1, r4_4_2, r4_4_3, pw_0, c4_0, c4_1, c4_2, c4_3, c4_4, c4_5, c4_6, c4_7, c4_8]
      simp <;> grind
  · match k, hk with
    | 0, _ =>
      show (S 4 fun i => ch a b 4 0 (i + 0 + 1) * tr 4 (pw 4 (tri a b) i)) = ((0 + 1 : Nat) : Rat) * ch a b 4 0 1
      rw [S4]
      simp only [tr, S4]
      show ch a b 4 0 1 * (pw 4 (tri a b) 0 0 0 + pw 4 (tri a b) 0 1 1 + pw 4 (tri a b) 0 2 2 + pw 4 (tri a b) 0 3 3) + ch a b 4 0 2 * (pw 4 (tri a b) 1 0 0 + pw 4 (tri a b) 1 1 1 + pw 4 (tri a b) 1 2 2 + pw 4 (tri a b) 1 3 3) + ch a b 4 0 3 * (pw 4 (tri a b) 2 0 0 + pw 4 (tri a b) 2 1 1 + pw 4 (tri a b) 2 2 2 + pw 4 (tri a b) 2 3 3) + ch a b 4 0 4 * (pw 4 (tri a b) 3 0 0 + pw 4 (tri a b) 3 1 1 + pw 4 (tri a b) 3 2 2 + pw 4 (tri a b) 3 3 3) = ((0 + 1 : Nat) : Rat) * ch a b 4 0 1
      simp only [r4_1_0, r4_1_1, r4_1_2, r4_1_3, r4_2_0, r4_2_1, r4_2_2, r4_2_3, r4_3_0, r4_3_1, r4_3_2, r4_3_3, r4_4_0, r4_4_1, r4_4_2, r4_4_3, pw_0, c4_0, c4_1, c4_2, c4_3, c4_4, c4_5, c4_6, c4_7, c4_8]
      simp <;> grind
    | 1, _ =>
      show (S 4 fun i => ch a b 4 0 (i + 1 + 1) * tr 4 (pw 4 (tri a b) i)) = ((1 + 1 : Nat) : Rat) * ch a b 4 0 2
      rw [S4]
      simp only [tr, S4]
      show ch a b 4 0 2 * (pw 4 (tri a b) 0 0 0 + pw 4 (tri a b) 0 1 1 + pw 4 (tri a b) 0 2 2 + pw 4 (tri a b) 0 3 3) + ch a b 4 0 3 * (pw 4 (tri a b) 1 0 0 + pw 4 (tri a b) 1 1 1 + pw 4 (tri a b) 1 2 2 + pw 4 (tri a b) 1 3 3) + ch a b 4 0 4 * (pw 4 (tri a b) 2 0 0 + pw 4 (tri a b) 2 1 1 + pw 4 (tri a b) 2 2 2 + pw 4 (tri a b) 2 3 3) + ch a b 4 0 5 * (pw 4 (tri a b) 3 0 0 + pw 4 (tri a b) 3 1 1 + pw 4 (tri a b) 3 2 2 + pw 4 (tri a b) 3 3 3) = ((1 + 1 : Nat) : Rat) * ch a b 4 0 2
      simp only [r4_1_0, r4_1_1, r4_1_2, r4_1_3, r4_2_0, r4_2_1, r4_2_2, r4_2_3, r4_3_0, r4_3_1, r4_3_2, r4_3_3, r4_4_0, r4_4_1, r4_4_2, r4_4_3, pw_0, c4_0, c4_1, c4_2, c4_3, c4_4, c4_5, c4_6, c4_7, c4_8]
      simp <;> grind
    | 2, _ =>
      show (S 4 fun i => ch a b 4 0 (i + 2 + 1) * tr 4 (pw 4 (tri a b) i)) = ((2 + 1 : Nat) : Rat) * ch a b 4 0 3
      rw [S4]
      simp only [tr, S4]
      show ch a b 4 0 3 * (pw 4 (tri a b) 0 0 0 + pw 4 (tri a b) 0 1 1 + pw 4 (tri a b) 0 2 2 + pw 4 (tri a b) 0 3 3) + ch a b 4 0 4 * (pw 4 (tri a b) 1 0 0 + pw 4 (tri a b) 1 1 1 + pw 4 (tri a b) 1 2 2 + pw 4 (tri a b) 1 3 3) + ch a b 4 0 5 * (pw 4 (tri a b) 2 0 0 + pw 4 (tri a b) 2 1 1 + pw 4 (tri a b) 2 2 2 + pw 4 (tri a b) 2 3 3) + ch a b 4 0 6 * (pw 4 (tri a b) 3 0 0 + pw 4 (tri a b) 3 1 1 + pw 4 (tri a b) 3 2 2 + pw 4 (tri a b) 3 3 3) = ((2 + 1 : Nat) : Rat) * ch a b 4 0 3
      simp only [r4_1_0, r4_1_1, r4_1_2, r4_1_3, r4_2_0, r4_2_1, r4_2_2, r4_2_3, r4_3_0, r4_3_1, r4_3_2, r4_3_3, r4_4_0, r4_4_1, r4_4_2, r4_4_3, pw_0, c4_0, c4_1, c4_2, c4_3, c4_4, c4_5, c4_6, c4_7, c4_8]
      simp <;> grind
    | 3, _ =>
      show (S 4 fun i => ch a b 4 0 (i + 3 + 1) * tr 4 (pw 4 (tri a b) i)) = ((3 + 1 : Nat) : Rat) * ch a b 4 0 4
      rw [S4]
      simp only [tr, S4]
      show ch a b 4 0 4 * (pw 4 (tri a b) 0 0 0 + pw 4 (tri a b) 0 1 1 + pw 4 (tri a b) 0 2 2 + pw 4 (tri a b) 0 3 3) + ch a b 4 0 5 * (pw 4 (tri a b) 1 0 0 + pw 4 (tri a b) 1 1 1 + pw 4 (tri a b) 1 2 2 + pw 4 (tri a b) 1 3 3) + ch a b 4 0 6 * (pw 4 (tri a b) 2 0 0 + pw 4 (tri a b) 2 1 1 + pw 4 (tri a b) 2 2 2 + pw 4 (tri a b) 2 3 3) + ch a b 4 0 7 * (pw 4 (tri a b) 3 0 0 + pw 4 (tri a b) 3 1 1 + pw 4 (tri a b) 3 2 2 + pw 4 (tri a b) 3 3 3) = ((3 + 1 : Nat) : Rat) * ch a b 4 0 4
      simp only [r4_1_0, r4_1_1, r4_1_2, r4_1_3, r4_2_0, r4_2_1, r4_2_2, r4_2_3, r4_3_0, r4_3_1, r4_3_2, r4_3_3, r4_4_0, r4_4_1, r4_4_2, r4_4_3, pw_0, c4_0, c4_1, c4_2, c4_3, c4_4, c4_5, c4_6, c4_7, c4_8]
      simp <;> grind
end BD
set_option linter.all false
namespace BD
open Sr58 (Frac frac plus times less whole total)
open Sr66 (minus over zero neg)
open Sr71 (Poly trim)
/-- a fraction's two numbers -/
def ofR (r : Rat) : Frac := ⟨r.num, r.den⟩
def toR (f : Frac) : Rat := mkRat f.n f.d
/-- nothing in common, the lower one 1 or more -/
def Okf (f : Frac) : Prop := f = ofR (toR f)
theorem toR_ofR (r : Rat) : toR (ofR r) = r := Rat.mkRat_self r
theorem okf_ofR (r : Rat) : Okf (ofR r) := by unfold Okf; rw [toR_ofR]
theorem ofR_inj {a b : Rat} (h : ofR a = ofR b) : a = b := by
  have := congrArg toR h
  rwa [toR_ofR, toR_ofR] at this
theorem frac_eq (n : Int) (d : Nat) : frac n d = ofR (mkRat n d) := by
  unfold frac
  by_cases hd : d = 0
  · subst hd
    rw [Rat.mkRat_def, dif_pos rfl]
    simp only [Nat.gcd_zero_right, Nat.zero_div]
    by_cases h : n.natAbs = 0
    · rw [if_pos h]; rfl
    · rw [if_neg h, if_pos trivial]; rfl
  · have hg : Nat.gcd n.natAbs d ≠ 0 := fun h => hd (Nat.gcd_eq_zero_iff.mp h).2
    have hdg : d / Nat.gcd n.natAbs d ≠ 0 := by
      have h1 := Nat.gcd_le_right n.natAbs (Nat.pos_of_ne_zero hd)
      have := Nat.div_pos h1 (Nat.pos_of_ne_zero hg)
      omega
    simp only []
    rw [if_neg hg, if_neg hdg, Rat.mkRat_def, dif_neg hd, Rat.normalize_eq]
    rfl
theorem plus_R (a b : Rat) : plus (ofR a) (ofR b) = ofR (a + b) := by
  unfold plus; rw [frac_eq, Rat.add_def']; rfl
theorem times_R (a b : Rat) : times (ofR a) (ofR b) = ofR (a * b) := by
  unfold times; rw [frac_eq, Rat.mul_def']; rfl
theorem neg_R (a : Rat) : neg (ofR a) = ofR (-a) := rfl
theorem minus_R (a b : Rat) : minus (ofR a) (ofR b) = ofR (a - b) := by
  unfold minus; rw [neg_R, plus_R]; congr 1; grind
theorem whole_R (n : Int) : whole n = ofR (n : Rat) := rfl
theorem zero_R : zero = ofR 0 := rfl
theorem one_R : whole 1 = ofR 1 := rfl
theorem self_div (a : Rat) : a = (a.num : Rat) / ((a.den : Nat) : Rat) := by
  have := Rat.mkRat_self a
  rw [Rat.mkRat_eq_div] at this
  exact this.symm
theorem over_R (a b : Rat) : over (ofR a) (ofR b) = ofR (a / b) := by
  unfold over
  have ea := self_div a
  have eb := self_div b
  have da : ((a.den : Nat) : Rat) ≠ 0 := by
    intro h
    exact a.den_nz (by exact_mod_cast h)
  have db : ((b.den : Nat) : Rat) ≠ 0 := by
    intro h
    exact b.den_nz (by exact_mod_cast h)
  show (if b.num < 0 then frac (-(a.num * ((b.den : Nat) : Int))) (a.den * b.num.natAbs) else frac (a.num * ((b.den : Nat) : Int)) (a.den * b.num.natAbs)) = _
  by_cases h : b.num < 0
  · rw [if_pos h, frac_eq]
    congr 1
    rw [Rat.mkRat_eq_div]
    have e1 : ((b.num.natAbs : Nat) : Rat) = -(b.num : Rat) := by
      have : ((b.num.natAbs : Nat) : Int) = -b.num := by omega
      have h2 : (((b.num.natAbs : Nat) : Int) : Rat) = ((-b.num : Int) : Rat) := by rw [this]
      rw [Rat.intCast_neg] at h2
      exact h2
    have hb : (b.num : Rat) ≠ 0 := by
      intro z
      have : b.num = 0 := by exact_mod_cast z
      omega
    rw [Rat.natCast_mul, e1, Rat.intCast_neg, Rat.intCast_mul]
    have e2 : (((b.den : Nat) : Int) : Rat) = ((b.den : Nat) : Rat) := rfl
    rw [e2]
    generalize (a.num : Rat) = an at *
    generalize (b.num : Rat) = bn at *
    generalize ((a.den : Nat) : Rat) = ad at *
    generalize ((b.den : Nat) : Rat) = bd at *
    rw [ea, eb]; grind
  · rw [if_neg h, frac_eq]
    congr 1
    rw [Rat.mkRat_eq_div]
    have e1 : ((b.num.natAbs : Nat) : Rat) = (b.num : Rat) := by
      have : ((b.num.natAbs : Nat) : Int) = b.num := by omega
      have h2 : (((b.num.natAbs : Nat) : Int) : Rat) = ((b.num : Int) : Rat) := by rw [this]
      exact h2
    rw [Rat.natCast_mul, e1, Rat.intCast_mul]
    have e2 : (((b.den : Nat) : Int) : Rat) = ((b.den : Nat) : Rat) := rfl
    rw [e2]
    generalize (a.num : Rat) = an at *
    generalize (b.num : Rat) = bn at *
    generalize ((a.den : Nat) : Rat) = ad at *
    generalize ((b.den : Nat) : Rat) = bd at *
    rw [ea, eb]
    by_cases hb : bn = 0
    · subst hb; grind
    · grind
theorem num_pos {r : Rat} : 0 < r.num ↔ 0 < r := by
  have h := Rat.num_nonneg (q := r)
  have h0 := Rat.num_eq_zero (q := r)
  constructor
  · intro p
    have a : 0 ≤ r := h.mp (by omega)
    have b : r ≠ 0 := fun z => by have := h0.mpr z; omega
    grind
  · intro p
    have a : 0 ≤ r.num := h.mpr (by grind)
    have b : r.num ≠ 0 := fun z => by have := h0.mp z; grind
    omega
theorem num_neg {r : Rat} : r.num < 0 ↔ r < 0 := by
  have h := Rat.num_nonneg (q := r)
  constructor
  · intro p
    by_cases c : 0 ≤ r
    · have := h.mpr c; omega
    · grind
  · intro p
    by_cases c : 0 ≤ r.num
    · have := h.mp c; grind
    · omega
theorem n_ofR (r : Rat) : (ofR r).n = r.num := rfl
/-- polynomials -/
def fl (p : List Rat) : Poly := p.map ofR
theorem fl_len (p : List Rat) : (fl p).length = p.length := List.length_map ..
theorem fl_getD (p : List Rat) (k : Nat) : (fl p).getD k zero = ofR (cf p k) := by
  unfold fl cf
  rw [List.getD_eq_getElem?_getD, List.getElem?_map, List.getD_eq_getElem?_getD]
  cases p[k]? <;> rfl
theorem fl_last (p : List Rat) (d : Rat) : (fl p).getLastD (ofR d) = ofR (p.getLastD d) := by
  unfold fl
  rw [List.getLastD_eq_getLast?, List.getLastD_eq_getLast?, List.getLast?_map]
  cases p.getLast? <;> rfl
theorem fl_nil {p : List Rat} : fl p = [] ↔ p = [] := List.map_eq_nil_iff
theorem fl_inj {p q : List Rat} (h : fl p = fl q) : p = q := by
  have := congrArg (List.map toR) h
  unfold fl at this
  rw [List.map_map, List.map_map] at this
  have e : ∀ l : List Rat, l.map (toR ∘ ofR) = l := fun l => by
    rw [show (toR ∘ ofR) = id from funext toR_ofR, List.map_id]
  rwa [e, e] at this
/-- a polynomial of fractions -/
def Okp (p : Poly) : Prop := ∀ x ∈ p, Okf x
theorem okp_fl (p : List Rat) : Okp (fl p) := fun x hx => by
  obtain ⟨r, _, rfl⟩ := List.mem_map.mp hx
  exact okf_ofR r
theorem fl_of {p : Poly} (h : Okp p) : ∃ r, p = fl r := by
  refine ⟨p.map toR, ?_⟩
  unfold fl
  rw [List.map_map]
  conv => lhs; rw [← List.map_id p]
  exact List.map_congr_left fun x hx => h x hx
/-! ### operations -/
def rtrim (p : List Rat) : List Rat := (p.reverse.dropWhile fun x => decide (x = 0)).reverse
theorem trim_R (p : List Rat) : trim (fl p) = fl (rtrim p) := by
  unfold trim rtrim fl
  rw [← List.map_reverse, List.dropWhile_map, ← List.map_reverse]
  congr 3
  funext x
  show ((ofR x).n == 0) = decide (x = 0)
  rw [n_ofR]
  by_cases h : x = 0
  · subst h; rfl
  · rw [decide_eq_false h]
    exact beq_eq_false_iff_ne.mpr fun z => h (Rat.num_eq_zero.mp z)
def radd (p q : List Rat) : List Rat := toL (max p.length q.length) fun i => cf p i + cf q i
theorem add_R (p q : List Rat) : Sr73.add (fl p) (fl q) = fl (radd p q) := by
  unfold Sr73.add radd toL
  rw [fl_len, fl_len]
  unfold fl
  rw [List.map_map]
  refine List.map_congr_left fun i _ => ?_
  show plus ((fl p).getD i zero) ((fl q).getD i zero) = ofR _
  rw [fl_getD, fl_getD, plus_R]
def rscale (c : Rat) (p : List Rat) : List Rat := p.map fun x => c * x
theorem scale_R (c : Rat) (p : List Rat) : Sr73.scale (ofR c) (fl p) = fl (rscale c p) := by
  unfold Sr73.scale rscale fl
  rw [List.map_map, List.map_map]
  exact List.map_congr_left fun x _ => times_R c x
theorem total_R (l : List Rat) : total (l.map ofR) = ofR (l.foldl (· + ·) 0) := by
  unfold total
  have h : ∀ (l : List Rat) (x : Rat), (l.map ofR).foldl plus (ofR x) = ofR (l.foldl (· + ·) x) := by
    intro l
    induction l with
    | nil => intro x; rfl
    | cons y l ih => intro x; rw [List.map_cons, List.foldl_cons, List.foldl_cons, plus_R, ih]
  exact h l 0
theorem foldl_zeros : ∀ (l : List Rat) (x : Rat), (∀ y ∈ l, y = 0) → l.foldl (· + ·) x = x
  | [], x, _ => rfl
  | y :: l, x, h => by
    rw [List.foldl_cons, h y (List.mem_cons_self ..), foldl_zeros l _ fun z hz => h z (List.mem_cons_of_mem _ hz)]; grind
/-- the power 1 times p -/
theorem mulx_R {p : List Rat} (h : p ≠ []) : Sr73.mul (Sr73.pow 1) (fl p) = fl (0 :: p) := by
  unfold Sr73.mul
  rw [if_neg (fun z => by
    rcases z with z | z
    · exact absurd z (by decide)
    · exact h (fl_nil.mp z))]
  have hl : (Sr73.pow 1).length + (fl p).length - 1 = p.length + 1 := by rw [fl_len]; show 2 + p.length - 1 = _; omega
  rw [hl]
  have e : ∀ i, total ((List.range (i + 1)).map fun j => times ((Sr73.pow 1).getD j zero) ((fl p).getD (i - j) zero)) = ofR (cf (0 :: p) i) := fun i => by
    have e1 : ((List.range (i + 1)).map fun j => times ((Sr73.pow 1).getD j zero) ((fl p).getD (i - j) zero)) = ((List.range (i + 1)).map fun j => cf [0, 1] j * cf p (i - j)).map ofR := by
      rw [List.map_map]
      refine List.map_congr_left fun j _ => ?_
      rw [fl_getD]
      show times ((fl [0, 1]).getD j zero) _ = _
      rw [fl_getD, times_R]; rfl
    rw [e1, total_R]
    congr 1
    match i with
    | 0 => show (0 : Rat) + 0 * _ = 0; grind
    | i + 1 =>
      rw [List.range_succ_eq_map, List.range_succ_eq_map, List.map_cons, List.map_map, List.map_cons, List.foldl_cons, List.foldl_cons, foldl_zeros]
      · show (0 : Rat) + 0 * _ + 1 * cf p (i + 1 - 1) = cf p i
        rw [Nat.add_sub_cancel]; grind
      · intro y hy
        obtain ⟨j, hj, rfl⟩ := List.mem_map.mp hy
        obtain ⟨j2, _, rfl⟩ := List.mem_map.mp hj
        show (0 : Rat) * _ = 0
        grind
  rw [List.map_congr_left fun i _ => e i]
  unfold fl
  apply List.ext_getElem?
  intro k
  rw [List.getElem?_map, List.getElem?_map]
  by_cases hk : k < p.length + 1
  · rw [List.getElem?_range hk]
    show some (ofR (cf (0 :: p) k)) = _
    unfold cf
    rw [List.getD_eq_getElem?_getD, List.getElem?_eq_getElem (by rw [List.length_cons]; exact hk)]; rfl
  · rw [List.getElem?_eq_none (by rw [List.length_range]; omega), List.getElem?_eq_none (by rw [List.length_cons]; omega)]; rfl
theorem mulx_nil : Sr73.mul (Sr73.pow 1) (fl []) = fl [] := by
  unfold Sr73.mul
  rw [if_pos (show Sr73.pow 1 = [] ∨ fl [] = [] from Or.inr rfl)]; rfl
theorem value_R (p : List Rat) (x : Rat) : Sr71.valueAt (fl p) (ofR x) = ofR (ev x p) := by
  unfold Sr71.valueAt
  rw [List.foldl_reverse]
  induction p with
  | nil => rfl
  | cons c p ih =>
    show plus (times ((fl p).foldr _ zero) (ofR x)) (ofR c) = _
    rw [ih, times_R, plus_R]; rfl
/-! ### signs -/
def sg (x : Rat) : Int := if x < 0 then -1 else if 0 < x then 1 else 0
theorem signOf_R (x : Rat) : Sr71.signOf (ofR x) = sg x := by
  unfold Sr71.signOf sg
  rw [n_ofR]
  by_cases h : x < 0
  · rw [if_pos h, if_pos (num_neg.mpr h)]
  · rw [if_neg h, if_neg fun z => h (num_neg.mp z)]
    by_cases h2 : 0 < x
    · rw [if_pos h2, if_pos (num_pos.mpr h2)]
    · rw [if_neg h2, if_neg fun z => h2 (num_pos.mp z)]
theorem sg_zero {x : Rat} : sg x = 0 ↔ x = 0 := by
  unfold sg
  by_cases h : x < 0
  · rw [if_pos h]; constructor
    · intro z; exact absurd z (by decide)
    · intro z; grind
  · rw [if_neg h]
    by_cases h2 : 0 < x
    · rw [if_pos h2]; constructor
      · intro z; exact absurd z (by decide)
      · intro z; grind
    · rw [if_neg h2]; exact ⟨fun _ => by grind, fun _ => rfl⟩
theorem sg_mul {x y : Rat} : sg x * sg y < 0 ↔ x * y < 0 := by
  have key : ∀ {x y : Rat}, 0 < x → 0 < y → ¬ x * y < 0 := fun hx hy => by have := Rat.mul_pos hx hy; grind
  have key2 : ∀ {x y : Rat}, x < 0 → 0 < y → x * y < 0 := fun {x y} hx hy => by
    have := Rat.mul_pos (by grind : 0 < -x) hy
    grind
  unfold sg
  by_cases hx : x < 0
  · by_cases hy : y < 0
    · rw [if_pos hx, if_pos hy]
      have := Rat.mul_pos (by grind : 0 < -x) (by grind : 0 < -y)
      exact ⟨fun z => absurd z (by decide), fun z => by grind⟩
    · by_cases hy2 : 0 < y
      · rw [if_pos hx, if_neg hy, if_pos hy2]
        exact ⟨fun _ => key2 hx hy2, fun _ => by decide⟩
      · have : y = 0 := by grind
        subst this
        rw [if_pos hx, if_neg hy, if_neg hy2]
        exact ⟨fun z => absurd z (by decide), fun z => by grind⟩
  · by_cases hx2 : 0 < x
    · by_cases hy : y < 0
      · rw [if_neg hx, if_pos hx2, if_pos hy]
        exact ⟨fun _ => by have := key2 hy hx2; grind, fun _ => by decide⟩
      · by_cases hy2 : 0 < y
        · rw [if_neg hx, if_pos hx2, if_neg hy, if_pos hy2]
          exact ⟨fun z => absurd z (by decide), fun z => absurd z (key hx2 hy2)⟩
        · have : y = 0 := by grind
          subst this
          rw [if_neg hx, if_pos hx2, if_neg hy, if_neg hy2]
          exact ⟨fun z => absurd z (by decide), fun z => by grind⟩
    · have : x = 0 := by grind
      subst this
      rw [if_neg hx, if_neg hx2]
      exact ⟨fun z => by omega, fun z => by grind⟩
/-- turns of the signs of numbers -/
theorem turnsBy_vv : ∀ l : List Rat, Sr71.turnsBy (l.map sg) = vv l
  | [] => rfl
  | x :: l => by
    have ih := turnsBy_vv l
    have key : ∀ l : List Rat, (∃ r, (l.map sg).filter (fun s => decide (s ≠ 0)) = sg (fz l) :: r ∧ fz l ≠ 0) ∨ ((l.map sg).filter (fun s => decide (s ≠ 0)) = [] ∧ fz l = 0) := by
      intro l
      induction l with
      | nil => exact .inr ⟨rfl, rfl⟩
      | cons y l ih =>
        by_cases hy : y = 0
        · subst hy
          have : fz ((0 : Rat) :: l) = fz l := if_pos rfl
          rw [this]
          exact ih
        · have e : fz (y :: l) = y := if_neg hy
          rw [e]
          left
          refine ⟨(l.map sg).filter (fun s => decide (s ≠ 0)), ?_, hy⟩
          rw [List.map_cons, List.filter_cons, if_pos (decide_eq_true (show sg y ≠ 0 from fun z => hy (sg_zero.mp z)))]
    show Sr71.turns (((x :: l).map sg).filter fun s => decide (s ≠ 0)) = (if x * fz l < 0 then 1 else 0) + vv l
    have ih' : Sr71.turns ((l.map sg).filter fun s => decide (s ≠ 0)) = vv l := ih
    rw [List.map_cons, List.filter_cons]
    by_cases hx : x = 0
    · subst hx
      rw [if_neg (by decide), if_neg (by grind), ih']; omega
    · rw [if_pos (decide_eq_true (show sg x ≠ 0 from fun z => hx (sg_zero.mp z)))]
      rcases key l with ⟨r, e, hz⟩ | ⟨e, hz⟩
      · rw [e] at ih' ⊢
        show (if sg x * sg (fz l) < 0 then 1 else 0) + Sr71.turns (sg (fz l) :: r) = _
        rw [ih']
        by_cases h : x * fz l < 0
        · rw [if_pos h, if_pos (sg_mul.mpr h)]
        · rw [if_neg h, if_neg fun z => h (sg_mul.mp z)]
      · rw [e] at ih' ⊢
        rw [hz, if_neg (by grind), ← ih']; rfl
end BD
set_option linter.all false
namespace BD
open Sr58 (Frac frac plus times less whole total)
open Sr66 (minus over zero neg)
open Sr71 (Poly trim)
theorem cf_radd (p q : List Rat) (k : Nat) : cf (radd p q) k = cf p k + cf q k := by
  unfold radd
  refine cf_toL (fun k hk => ?_) k
  have h1 : cf p k = 0 := by
    unfold cf
    rw [List.getD_eq_getElem?_getD, List.getElem?_eq_none (by omega)]; rfl
  have h2 : cf q k = 0 := by
    unfold cf
    rw [List.getD_eq_getElem?_getD, List.getElem?_eq_none (by omega)]; rfl
  rw [h1, h2]; grind
theorem cf_rscale (c : Rat) (p : List Rat) (k : Nat) : cf (rscale c p) k = c * cf p k := by
  unfold cf rscale
  rw [List.getD_eq_getElem?_getD, List.getElem?_map, List.getD_eq_getElem?_getD]
  cases p[k]? with
  | none => show (0 : Rat) = c * 0; grind
  | some x => rfl
theorem cf_0 (p : List Rat) (k : Nat) : cf (0 :: p) k = sh (cf p) k := by
  cases k <;> rfl
theorem cf_low {p : List Rat} {k : Nat} (h : p.length ≤ k) : cf p k = 0 := by
  unfold cf
  rw [List.getD_eq_getElem?_getD, List.getElem?_eq_none h]; rfl
theorem radd_len (p q : List Rat) : (radd p q).length = max p.length q.length := toL_len _ _
theorem rscale_len (c : Rat) (p : List Rat) : (rscale c p).length = p.length := List.length_map ..
theorem ext_cf {p q : List Rat} (hl : p.length = q.length) (h : ∀ k, k < p.length → cf p k = cf q k) : p = q := by
  apply List.ext_getElem?
  intro k
  by_cases hk : k < p.length
  · have := h k hk
    unfold cf at this
    rw [List.getD_eq_getElem?_getD, List.getD_eq_getElem?_getD, List.getElem?_eq_getElem hk, List.getElem?_eq_getElem (by omega)] at this
    rw [List.getElem?_eq_getElem hk, List.getElem?_eq_getElem (by omega)]
    exact congrArg some this
  · rw [List.getElem?_eq_none (by omega), List.getElem?_eq_none (by omega)]
theorem eq_toL {p : List Rat} {m : Nat} {f : Nat → Rat} (hl : p.length = m) (h : ∀ k, k < m → cf p k = f k) : p = toL m f := by
  apply List.ext_getElem?
  intro k
  unfold toL
  rw [List.getElem?_map]
  by_cases hk : k < m
  · have := h k hk
    unfold cf at this
    rw [List.getD_eq_getElem?_getD, List.getElem?_eq_getElem (by omega)] at this
    rw [List.getElem?_range hk, List.getElem?_eq_getElem (by omega)]
    exact congrArg some this
  · rw [List.getElem?_eq_none (by omega), List.getElem?_eq_none (by rw [List.length_range]; omega)]; rfl
/-- the answer -/
def rans : List Rat → List Rat → List Rat × List Rat
  | [], _ => ([], [1])
  | [l], _ => ([l], [1])
  | l :: m :: ls, b :: bs => (radd (rscale l (radd (rans (m :: ls) bs).2 (rscale (-b) (0 :: (rans (m :: ls) bs).1)))) (rans (m :: ls) bs).1, radd (rans (m :: ls) bs).2 (rscale (-b) (0 :: (rans (m :: ls) bs).1)))
  | l :: _ :: _, [] => ([l], [1])
theorem rans_len : ∀ (bs ls : List Rat), ls.length = bs.length + 1 → (rans ls bs).1.length = bs.length + 1 ∧ (rans ls bs).2.length = bs.length + 1
  | [], [l], _ => ⟨rfl, rfl⟩
  | b :: bs, l :: m :: ls, h => by
    obtain ⟨h1, h2⟩ := rans_len bs (m :: ls) (by simpa using h)
    have q : (radd (rans (m :: ls) bs).2 (rscale (-b) (0 :: (rans (m :: ls) bs).1))).length = bs.length + 1 + 1 := by
      rw [radd_len, rscale_len, List.length_cons, h1, h2]; omega
    constructor
    · show (radd (rscale l _) _).length = _
      rw [radd_len, rscale_len, q, h1]
      show max (bs.length + 1 + 1) (bs.length + 1) = bs.length + 1 + 1
      omega
    · exact q
theorem answer_R : ∀ (ls bs : List Rat), Sr74.answerOn (fl ls) (fl bs) = (fl (rans ls bs).1, fl (rans ls bs).2)
  | [], bs => by cases bs <;> rfl
  | [l], bs => by cases bs <;> rfl
  | l :: m :: ls, [] => rfl
  | l :: m :: ls, b :: bs => by
    have ih := answer_R (m :: ls) bs
    have ne : (rans (m :: ls) bs).1 ≠ [] := by
      intro h
      have : ∀ (ls : List Rat) (m : Rat) (bs : List Rat), (rans (m :: ls) bs).1 ≠ [] := by
        intro ls
        induction ls with
        | nil => intro m bs; cases bs <;> (intro h; cases h)
        | cons m2 ls ih =>
          intro m bs
          cases bs with
          | nil => intro h; cases h
          | cons b bs =>
            intro h
            have h2 := congrArg List.length h
            have h3 : (radd (rscale m (radd (rans (m2 :: ls) bs).2 (rscale (-b) (0 :: (rans (m2 :: ls) bs).1)))) (rans (m2 :: ls) bs).1).length = 0 := h2
            rw [radd_len, rscale_len, radd_len, rscale_len, List.length_cons] at h3
            omega
      exact this ls m bs h
    show (let r := Sr74.answerOn (fl (m :: ls)) (fl bs)
      let q := Sr73.add r.2 (Sr73.scale (neg (ofR b)) (Sr73.mul (Sr73.pow 1) r.1))
      (Sr73.add (Sr73.scale (ofR l) q) r.1, q)) = _
    rw [ih]
    show (Sr73.add (Sr73.scale (ofR l) (Sr73.add (fl (rans (m :: ls) bs).2) (Sr73.scale (neg (ofR b)) (Sr73.mul (Sr73.pow 1) (fl (rans (m :: ls) bs).1))))) (fl (rans (m :: ls) bs).1), Sr73.add (fl (rans (m :: ls) bs).2) (Sr73.scale (neg (ofR b)) (Sr73.mul (Sr73.pow 1) (fl (rans (m :: ls) bs).1)))) = _
    rw [mulx_R ne, neg_R, scale_R, add_R, scale_R, add_R]
    rfl
/-! ### as the polynomial of a table -/
theorem ch_shift {a b a' b' : Nat → Rat} (ha : ∀ j, a' j = a (j + 1)) (hb : ∀ j, b' (j + 1) = b (j + 2)) : ∀ (r i k : Nat), ch a b r (i + 1) k = ch a' b' r i k
  | 0, i, k => rfl
  | 1, i, k => by show sh _ k - a (i + 1) * _ = sh _ k - a' i * _; rw [ha]
  | r + 2, i, k => by
    have h1 : ∀ k, ch a b (r + 1) (i + 1 + 1) k = ch a' b' (r + 1) (i + 1) k := fun k => ch_shift ha hb (r + 1) (i + 1) k
    have h2 : ∀ k, ch a b r (i + 1 + 2) k = ch a' b' r (i + 2) k := fun k => ch_shift ha hb r (i + 2) k
    show sh (ch a b (r + 1) (i + 1 + 1)) k - a (i + 1) * ch a b (r + 1) (i + 1 + 1) k - b (i + 1 + 1) * ch a b r (i + 1 + 2) k = sh (ch a' b' (r + 1) (i + 1)) k - a' i * ch a' b' (r + 1) (i + 1) k - b' (i + 1) * ch a' b' r (i + 2) k
    rw [show ch a b (r + 1) (i + 1 + 1) = ch a' b' (r + 1) (i + 1) from funext h1, show ch a b r (i + 1 + 2) = ch a' b' r (i + 2) from funext h2, ha, hb]
/-- the item at a place; 1 behind the end -/
def it (l : List Rat) (i : Nat) : Rat := l.getD i 1
def Aa (ls bs : List Rat) (i : Nat) : Rat := (1 / it bs i) * (1 / it ls i + 1 / it ls (i + 1))
def Ba (ls bs : List Rat) (i : Nat) : Rat := 1 / ((it bs (i - 1) * it bs i) * (it ls i * it ls i))
/-- the same for a left end that isn't held -/
def Al (ls bs : List Rat) (i : Nat) : Rat := if i = 0 then (1 / it bs 0) * (1 / it ls 1) else Aa ls bs i
def Ka : List Rat → List Rat → Rat
  | l :: ls, b :: bs => -(l * b) * Ka ls bs
  | l :: _, [] => l
  | [], _ => 1
def Kl : List Rat → List Rat → Rat
  | _ :: ls, b :: bs => -b * Ka ls bs
  | _, _ => 1
theorem Aa_tail (l b : Rat) (ls bs : List Rat) (j : Nat) : Aa ls bs j = Aa (l :: ls) (b :: bs) (j + 1) := rfl
theorem Ba_tail (l b : Rat) (ls bs : List Rat) (j : Nat) : Ba ls bs (j + 1) = Ba (l :: ls) (b :: bs) (j + 2) := rfl
theorem sh_add (f g : Nat → Rat) (c d : Rat) (k : Nat) : sh (fun i => c * f i + d * g i) k = c * sh f k + d * sh g k := by
  cases k with
  | zero => show (0 : Rat) = c * 0 + d * 0; grind
  | succ k => rfl
theorem sh_mul (f : Nat → Rat) (c : Rat) (k : Nat) : sh (fun i => c * f i) k = c * sh f k := by
  cases k with
  | zero => show (0 : Rat) = c * 0; grind
  | succ k => rfl
theorem rans1 (l m b : Rat) (ls bs : List Rat) (k : Nat) : cf (rans (l :: m :: ls) (b :: bs)).1 k = l * cf (rans (l :: m :: ls) (b :: bs)).2 k + cf (rans (m :: ls) bs).1 k := by
  show cf (radd (rscale l _) _) k = _
  rw [cf_radd, cf_rscale]; rfl
theorem rans2 (l m b : Rat) (ls bs : List Rat) (k : Nat) : cf (rans (l :: m :: ls) (b :: bs)).2 k = cf (rans (m :: ls) bs).2 k - b * sh (cf (rans (m :: ls) bs).1) k := by
  show cf (radd _ (rscale (-b) _)) k = _
  rw [cf_radd, cf_rscale, cf_0]; grind
/-- the lower one, by the upper ones behind -/
theorem lower_by {l0 l1 b0 b1 : Rat} {ls bs : List Rat} (h1 : l1 ≠ 0) (k : Nat) :
    cf (rans (l1 :: ls) (b1 :: bs)).2 k = (cf (rans (l1 :: ls) (b1 :: bs)).1 k - cf (rans ls bs).1 k) / l1 ∨ ls = [] := by
  cases ls with
  | nil => exact .inr rfl
  | cons m ls =>
    left
    rw [rans1]; grind
theorem alg_up0 {l0 l1 b0 b1 u0 u1 v0 v1 : Rat} (p0 : l0 * u0 = 1) (p1 : l1 * u1 = 1) (q0 : b0 * v0 = 1) (q1 : b1 * v1 = 1) (C X Y Z : Rat) :
    l0 * ((-(l1 * b1) * C * X - C * Z) * u1 - b0 * (-(l1 * b1) * C * Y)) + -(l1 * b1) * C * X = -(l0 * b0) * (-(l1 * b1) * C) * (Y - v0 * (u0 + u1) * X - (v0 * v1 * (u1 * u1)) * Z) := by
  grind
theorem alg_lo0 {l1 b0 b1 u1 v0 v1 : Rat} (p1 : l1 * u1 = 1) (q0 : b0 * v0 = 1) (q1 : b1 * v1 = 1) (C X Y Z : Rat) :
    (-(l1 * b1) * C * X - C * Z) * u1 - b0 * (-(l1 * b1) * C * Y) = -b0 * (-(l1 * b1) * C) * (Y - v0 * u1 * X - (v0 * v1 * (u1 * u1)) * Z) := by
  grind
theorem one_inv {x : Rat} (h : 0 < x) : x * (1 / x) = 1 := by grind
theorem div_as (x y : Rat) : x / y = x * (1 / y) := by grind
theorem inv4 {b0 b1 l1 : Rat} (q0 : 0 < b0) (q1 : 0 < b1) (p1 : 0 < l1) : 1 / ((b0 * b1) * (l1 * l1)) = (1 / b0) * (1 / b1) * ((1 / l1) * (1 / l1)) := by grind
theorem alg_up {l0 l1 b0 b1 : Rat} (p0 : 0 < l0) (p1 : 0 < l1) (q0 : 0 < b0) (q1 : 0 < b1) (C X Y Z : Rat) :
    l0 * ((-(l1 * b1) * C * X - C * Z) / l1 - b0 * (-(l1 * b1) * C * Y)) + -(l1 * b1) * C * X = -(l0 * b0) * (-(l1 * b1) * C) * (Y - (1 / b0) * (1 / l0 + 1 / l1) * X - (1 / ((b0 * b1) * (l1 * l1))) * Z) := by
  rw [inv4 q0 q1 p1, div_as _ l1]
  exact alg_up0 (one_inv p0) (one_inv p1) (one_inv q0) (one_inv q1) C X Y Z
theorem alg_lo {l0 l1 b0 b1 : Rat} (p0 : 0 < l0) (p1 : 0 < l1) (q0 : 0 < b0) (q1 : 0 < b1) (C X Y Z : Rat) :
    (-(l1 * b1) * C * X - C * Z) / l1 - b0 * (-(l1 * b1) * C * Y) = -b0 * (-(l1 * b1) * C) * (Y - (1 / b0) * (1 / l1) * X - (1 / ((b0 * b1) * (l1 * l1))) * Z) := by
  rw [inv4 q0 q1 p1, div_as _ l1]
  exact alg_lo0 (one_inv p1) (one_inv q0) (one_inv q1) C X Y Z
theorem up_ch : ∀ (bs ls : List Rat), ls.length = bs.length + 1 → (∀ x ∈ ls, 0 < x) → (∀ x ∈ bs, 0 < x) → ∀ k, cf (rans ls bs).1 k = Ka ls bs * ch (Aa ls bs) (Ba ls bs) bs.length 0 k
  | [], [l], _, _, _, k => by
    show cf [l] k = l * (if k = 0 then 1 else 0)
    cases k with
    | zero => show l = l * (if 0 = 0 then 1 else 0); rw [if_pos rfl]; grind
    | succ k => show (0 : Rat) = l * (if k + 1 = 0 then 1 else 0); rw [if_neg (by omega)]; grind
  | [b], [l, m], _, hl, hb, k => by
    have p1 := hl l (by simp)
    have p2 := hl m (by simp)
    have p3 := hb b (by simp)
    rw [rans1, rans2]
    show l * (cf [1] k - b * sh (cf [m]) k) + cf [m] k = -(l * b) * m * (sh (fun k => if k = 0 then 1 else 0) k - (1 / b) * (1 / l + 1 / m) * (if k = 0 then 1 else 0))
    match k with
    | 0 => show l * (1 - b * 0) + m = -(l * b) * m * (0 - (1 / b) * (1 / l + 1 / m) * (if 0 = 0 then 1 else 0)); rw [if_pos rfl]; grind
    | 1 => show l * (0 - b * m) + 0 = -(l * b) * m * ((if 0 = 0 then 1 else 0) - (1 / b) * (1 / l + 1 / m) * (if 1 = 0 then 1 else 0)); rw [if_pos rfl, if_neg (by omega)]; grind
    | k + 2 => show l * (0 - b * 0) + 0 = -(l * b) * m * ((if k + 1 = 0 then 1 else 0) - (1 / b) * (1 / l + 1 / m) * (if k + 2 = 0 then 1 else 0)); rw [if_neg (by omega), if_neg (by omega)]; grind
  | b0 :: b1 :: bs, l0 :: l1 :: l2 :: ls, h, hl, hb, k => by
    have i1 := up_ch (b1 :: bs) (l1 :: l2 :: ls) (by simpa using h) (fun x hx => hl x (List.mem_cons_of_mem _ hx)) (fun x hx => hb x (List.mem_cons_of_mem _ hx))
    have i2 := up_ch bs (l2 :: ls) (by simpa using h) (fun x hx => hl x (List.mem_cons_of_mem _ (List.mem_cons_of_mem _ hx))) (fun x hx => hb x (List.mem_cons_of_mem _ (List.mem_cons_of_mem _ hx)))
    have p0 := hl l0 (by simp)
    have p1 := hl l1 (by simp)
    have q0 := hb b0 (by simp)
    have q1 := hb b1 (by simp)
    have s1 : ch (Aa (l0 :: l1 :: l2 :: ls) (b0 :: b1 :: bs)) (Ba (l0 :: l1 :: l2 :: ls) (b0 :: b1 :: bs)) (bs.length + 1) 1 = ch (Aa (l1 :: l2 :: ls) (b1 :: bs)) (Ba (l1 :: l2 :: ls) (b1 :: bs)) (bs.length + 1) 0 := funext fun k => ch_shift (fun _ => rfl) (fun _ => rfl) _ _ k
    have s2 : ch (Aa (l0 :: l1 :: l2 :: ls) (b0 :: b1 :: bs)) (Ba (l0 :: l1 :: l2 :: ls) (b0 :: b1 :: bs)) bs.length 2 = ch (Aa (l2 :: ls) bs) (Ba (l2 :: ls) bs) bs.length 0 := funext fun k =>
      (ch_shift (a' := Aa (l1 :: l2 :: ls) (b1 :: bs)) (b' := Ba (l1 :: l2 :: ls) (b1 :: bs)) (fun _ => rfl) (fun _ => rfl) bs.length 1 k).trans (ch_shift (fun _ => rfl) (fun _ => rfl) bs.length 0 k)
    rw [rans1, rans2]
    have lw : cf (rans (l1 :: l2 :: ls) (b1 :: bs)).2 k = (cf (rans (l1 :: l2 :: ls) (b1 :: bs)).1 k - cf (rans (l2 :: ls) bs).1 k) / l1 := by
      have := rans1 l1 l2 b1 ls bs k
      grind
    rw [lw]
    show _ = -(l0 * b0) * (-(l1 * b1) * Ka (l2 :: ls) bs) * (sh (ch _ _ (bs.length + 1) 1) k - (1 / b0) * (1 / l0 + 1 / l1) * ch _ _ (bs.length + 1) 1 k - (1 / ((b0 * b1) * (l1 * l1))) * ch _ _ bs.length 2 k)
    rw [s1, s2]
    have f1 : cf (rans (l1 :: l2 :: ls) (b1 :: bs)).1 = fun k => (-(l1 * b1) * Ka (l2 :: ls) bs) * ch (Aa (l1 :: l2 :: ls) (b1 :: bs)) (Ba (l1 :: l2 :: ls) (b1 :: bs)) (bs.length + 1) 0 k := funext i1
    have e1 : cf (rans (l1 :: l2 :: ls) (b1 :: bs)).1 k = (-(l1 * b1) * Ka (l2 :: ls) bs) * ch (Aa (l1 :: l2 :: ls) (b1 :: bs)) (Ba (l1 :: l2 :: ls) (b1 :: bs)) (bs.length + 1) 0 k := i1 k
    have e2 : sh (cf (rans (l1 :: l2 :: ls) (b1 :: bs)).1) k = (-(l1 * b1) * Ka (l2 :: ls) bs) * sh (ch (Aa (l1 :: l2 :: ls) (b1 :: bs)) (Ba (l1 :: l2 :: ls) (b1 :: bs)) (bs.length + 1) 0) k := by rw [f1, sh_mul]
    rw [e2, e1, i2 k]
    exact alg_up p0 p1 q0 q1 _ _ _ _
theorem lo_ch : ∀ (bs ls : List Rat), ls.length = bs.length + 1 → (∀ x ∈ ls, 0 < x) → (∀ x ∈ bs, 0 < x) → ∀ k, cf (rans ls bs).2 k = Kl ls bs * ch (Al ls bs) (Ba ls bs) bs.length 0 k
  | [], [l], _, _, _, k => by
    show cf [1] k = 1 * (if k = 0 then 1 else 0)
    cases k with
    | zero => show (1 : Rat) = 1 * (if 0 = 0 then 1 else 0); rw [if_pos rfl]; grind
    | succ k => show (0 : Rat) = 1 * (if k + 1 = 0 then 1 else 0); rw [if_neg (by omega)]; grind
  | [b], [l, m], _, hl, hb, k => by
    have p1 := hl l (by simp)
    have p2 := hl m (by simp)
    have p3 := hb b (by simp)
    rw [rans2]
    show cf [1] k - b * sh (cf [m]) k = -b * m * (sh (fun k => if k = 0 then 1 else 0) k - (1 / b) * (1 / m) * (if k = 0 then 1 else 0))
    match k with
    | 0 => show 1 - b * 0 = -b * m * (0 - (1 / b) * (1 / m) * (if 0 = 0 then 1 else 0)); rw [if_pos rfl]; grind
    | 1 => show 0 - b * m = -b * m * ((if 0 = 0 then 1 else 0) - (1 / b) * (1 / m) * (if 1 = 0 then 1 else 0)); rw [if_pos rfl, if_neg (by omega)]; grind
    | k + 2 => show 0 - b * 0 = -b * m * ((if k + 1 = 0 then 1 else 0) - (1 / b) * (1 / m) * (if k + 2 = 0 then 1 else 0)); rw [if_neg (by omega), if_neg (by omega)]; grind
  | b0 :: b1 :: bs, l0 :: l1 :: l2 :: ls, h, hl, hb, k => by
    have i1 := up_ch (b1 :: bs) (l1 :: l2 :: ls) (by simpa using h) (fun x hx => hl x (List.mem_cons_of_mem _ hx)) (fun x hx => hb x (List.mem_cons_of_mem _ hx))
    have i2 := up_ch bs (l2 :: ls) (by simpa using h) (fun x hx => hl x (List.mem_cons_of_mem _ (List.mem_cons_of_mem _ hx))) (fun x hx => hb x (List.mem_cons_of_mem _ (List.mem_cons_of_mem _ hx)))
    have p0 := hl l0 (by simp)
    have p1 := hl l1 (by simp)
    have q0 := hb b0 (by simp)
    have q1 := hb b1 (by simp)
    have s1 : ch (Al (l0 :: l1 :: l2 :: ls) (b0 :: b1 :: bs)) (Ba (l0 :: l1 :: l2 :: ls) (b0 :: b1 :: bs)) (bs.length + 1) 1 = ch (Aa (l1 :: l2 :: ls) (b1 :: bs)) (Ba (l1 :: l2 :: ls) (b1 :: bs)) (bs.length + 1) 0 := funext fun k => ch_shift (fun _ => rfl) (fun _ => rfl) _ _ k
    have s2 : ch (Al (l0 :: l1 :: l2 :: ls) (b0 :: b1 :: bs)) (Ba (l0 :: l1 :: l2 :: ls) (b0 :: b1 :: bs)) bs.length 2 = ch (Aa (l2 :: ls) bs) (Ba (l2 :: ls) bs) bs.length 0 := funext fun k =>
      (ch_shift (a' := Aa (l1 :: l2 :: ls) (b1 :: bs)) (b' := Ba (l1 :: l2 :: ls) (b1 :: bs)) (fun _ => rfl) (fun _ => rfl) bs.length 1 k).trans (ch_shift (fun _ => rfl) (fun _ => rfl) bs.length 0 k)
    rw [rans2]
    have lw : cf (rans (l1 :: l2 :: ls) (b1 :: bs)).2 k = (cf (rans (l1 :: l2 :: ls) (b1 :: bs)).1 k - cf (rans (l2 :: ls) bs).1 k) / l1 := by
      have := rans1 l1 l2 b1 ls bs k
      grind
    rw [lw]
    show _ = -b0 * (-(l1 * b1) * Ka (l2 :: ls) bs) * (sh (ch _ _ (bs.length + 1) 1) k - (1 / b0) * (1 / l1) * ch _ _ (bs.length + 1) 1 k - (1 / ((b0 * b1) * (l1 * l1))) * ch _ _ bs.length 2 k)
    rw [s1, s2]
    have f1 : cf (rans (l1 :: l2 :: ls) (b1 :: bs)).1 = fun k => (-(l1 * b1) * Ka (l2 :: ls) bs) * ch (Aa (l1 :: l2 :: ls) (b1 :: bs)) (Ba (l1 :: l2 :: ls) (b1 :: bs)) (bs.length + 1) 0 k := funext i1
    have e1 : cf (rans (l1 :: l2 :: ls) (b1 :: bs)).1 k = (-(l1 * b1) * Ka (l2 :: ls) bs) * ch (Aa (l1 :: l2 :: ls) (b1 :: bs)) (Ba (l1 :: l2 :: ls) (b1 :: bs)) (bs.length + 1) 0 k := i1 k
    have e2 : sh (cf (rans (l1 :: l2 :: ls) (b1 :: bs)).1) k = (-(l1 * b1) * Ka (l2 :: ls) bs) * sh (ch (Aa (l1 :: l2 :: ls) (b1 :: bs)) (Ba (l1 :: l2 :: ls) (b1 :: bs)) (bs.length + 1) 0) k := by rw [f1, sh_mul]
    rw [e2, e1, i2 k]
    exact alg_lo p0 p1 q0 q1 _ _ _ _
theorem mul_ne {x y : Rat} (hx : x ≠ 0) (hy : y ≠ 0) : x * y ≠ 0 := fun h => by
  rcases Rat.mul_eq_zero.mp h with z | z
  · exact hx z
  · exact hy z
theorem Ka_ne : ∀ (bs ls : List Rat), (∀ x ∈ ls, 0 < x) → (∀ x ∈ bs, 0 < x) → Ka ls bs ≠ 0
  | _, [], _, _ => by cases ‹List Rat› <;> (show (1 : Rat) ≠ 0; decide)
  | [], l :: ls, hl, _ => by
    show l ≠ 0
    have := hl l (by simp)
    grind
  | b :: bs, l :: ls, hl, hb => by
    show -(l * b) * Ka ls bs ≠ 0
    have h := Ka_ne bs ls (fun x hx => hl x (List.mem_cons_of_mem _ hx)) (fun x hx => hb x (List.mem_cons_of_mem _ hx))
    have h1 := hl l (by simp)
    have h2 := hb b (by simp)
    clear hl hb
    have h3 := Rat.mul_pos h1 h2
    exact mul_ne (by grind) h
theorem Kl_ne (bs ls : List Rat) (hl : ∀ x ∈ ls, 0 < x) (hb : ∀ x ∈ bs, 0 < x) : Kl ls bs ≠ 0 := by
  unfold Kl
  split
  · rename_i l ls b bs
    have h := Ka_ne bs ls (fun x hx => hl x (List.mem_cons_of_mem _ hx)) (fun x hx => hb x (List.mem_cons_of_mem _ hx))
    have h2 := hb b (by simp)
    clear hl hb
    exact mul_ne (by grind) h
  · decide
theorem it_pos {l : List Rat} (h : ∀ x ∈ l, 0 < x) (i : Nat) : 0 < it l i := by
  unfold it
  rw [List.getD_eq_getElem?_getD]
  cases e : l[i]? with
  | none => show (0 : Rat) < 1; decide
  | some x => exact h x (List.mem_of_getElem? e)
theorem Ba_pos {ls bs : List Rat} (hl : ∀ x ∈ ls, 0 < x) (hb : ∀ x ∈ bs, 0 < x) (i : Nat) : 0 < Ba ls bs i :=
  inv_pos' (Rat.mul_pos (Rat.mul_pos (it_pos hb _) (it_pos hb _)) (Rat.mul_pos (it_pos hl _) (it_pos hl _)))
def rslope (p : List Rat) : List Rat := toL (p.length - 1) fun k => ((k + 1 : Nat) : Rat) * cf p (k + 1)
/-- a chain from a polynomial on: itself alone, or with its slope -/
def Regular (p : List Rat) : Prop := (p.length = 1 ∧ cf p 0 ≠ 0) ∨ (2 ≤ p.length ∧ ∃ L, RegC (p :: rslope p :: L))
theorem good_of {n : Nat} (h : 1 ≤ n) (h4 : n ≤ 4) (a b : Nat → Rat) : Good n a b := by
  match n, h, h4 with
  | 1, _, _ => exact good1 a b
  | 2, _, _ => exact good2 a b
  | 3, _, _ => exact good3 a b
  | 4, _, _ => exact good4 a b
theorem reg_ch {n : Nat} (h : 1 ≤ n) (h4 : n ≤ 4) {a b : Nat → Rat} (hb : ∀ i, 0 < b i) {C : Rat} (hC : C ≠ 0) {p : List Rat} (hl : p.length = n + 1) (hp : ∀ k, cf p k = C * ch a b n 0 k) : Regular p := by
  right
  refine ⟨by omega, ?_⟩
  obtain ⟨g1, g2⟩ := good_of h h4 a b
  have r := reg_of (n := n) (q := fun k => C * ch a b n 0 k) (s := fun k => tr n (pw n (tri a b) k)) (by omega) (fun i hi => by show C * _ = 0; rw [ch_low a b n 0 i hi]; grind)
    (by show C * _ ≠ 0; rw [ch_top]; grind)
    (fun k hk => by
      have := g2 k hk
      have e : (S n fun i => C * ch a b n 0 (i + k + 1) * tr n (pw n (tri a b) i)) = C * S n fun i => ch a b n 0 (i + k + 1) * tr n (pw n (tri a b) i) := by
        rw [← S_mul]
        exact S_congr fun i _ => by grind
      show (S n fun i => C * ch a b n 0 (i + k + 1) * tr n (pw n (tri a b) i)) = ((k + 1 : Nat) : Rat) * (C * ch a b n 0 (k + 1))
      rw [e, this]; grind)
    (fun m => by
      have e : (S (n + 1) fun i => C * ch a b n 0 i * tr n (pw n (tri a b) (i + m))) = C * S (n + 1) fun i => ch a b n 0 i * tr n (pw n (tri a b) (i + m)) := by
        rw [← S_mul]
        exact S_congr fun i _ => by grind
      show (S (n + 1) fun i => C * ch a b n 0 i * tr n (pw n (tri a b) (i + m))) = 0
      rw [e, tr_zero g1]; grind)
    (fun t v ht hv => form_pos hb ht v hv)
  obtain ⟨L, hL⟩ := r
  refine ⟨L, ?_⟩
  have e1 : p = toL (n + 1) (fun k => C * ch a b n 0 k) := eq_toL hl fun k _ => hp k
  have e2 : rslope p = toL n (fun k => ((k + 1 : Nat) : Rat) * (C * ch a b n 0 (k + 1))) := by
    unfold rslope
    rw [hl, Nat.add_sub_cancel]
    unfold toL
    exact List.map_congr_left fun k _ => by rw [hp]
  rw [e2, e1]
  exact hL
/-- **both polynomials of a string have a regular chain** -/
theorem reg_up {ls bs : List Rat} (h : ls.length = bs.length + 1) (h4 : bs.length ≤ 4) (hl : ∀ x ∈ ls, 0 < x) (hb : ∀ x ∈ bs, 0 < x) : Regular (rans ls bs).1 := by
  have hlen := (rans_len bs ls h).1
  by_cases c : bs.length = 0
  · left
    have e : bs = [] := List.length_eq_zero_iff.mp c
    subst e
    match ls, h with
    | [l], _ =>
      refine ⟨rfl, ?_⟩
      show l ≠ 0
      have := hl l (by simp)
      grind
  · exact reg_ch (by omega) h4 (Ba_pos hl hb) (Ka_ne bs ls hl hb) hlen (up_ch bs ls h hl hb)
theorem reg_lo {ls bs : List Rat} (h : ls.length = bs.length + 1) (h4 : bs.length ≤ 4) (hl : ∀ x ∈ ls, 0 < x) (hb : ∀ x ∈ bs, 0 < x) : Regular (rans ls bs).2 := by
  have hlen := (rans_len bs ls h).2
  by_cases c : bs.length = 0
  · left
    have e : bs = [] := List.length_eq_zero_iff.mp c
    subst e
    match ls, h with
    | [l], _ =>
      refine ⟨rfl, ?_⟩
      show (1 : Rat) ≠ 0
      decide
  · exact reg_ch (by omega) h4 (Ba_pos hl hb) (Kl_ne bs ls hl hb) hlen (lo_ch bs ls h hl hb)
end BD
set_option linter.all false
namespace BD
open Sr58 (Frac frac plus times less whole total)
open Sr66 (minus over zero neg)
open Sr71 (Poly trim)
/-! ### slope, trim -/
theorem zipIdx_get {α : Type} (p : List α) (k : Nat) : p.zipIdx[k]? = p[k]?.map fun x => (x, k) := by
  rw [List.getElem?_zipIdx, Nat.zero_add]
theorem slope_R (p : List Rat) : Sr71.slope (fl p) = fl (rslope p) := by
  unfold Sr71.slope rslope toL fl
  apply List.ext_getElem?
  intro k
  rw [List.getElem?_tail, List.getElem?_map, zipIdx_get, List.getElem?_map, List.getElem?_map, List.getElem?_map]
  by_cases hk : k + 1 < p.length
  · rw [List.getElem?_eq_getElem hk, List.getElem?_range (by omega)]
    show some (times (ofR p[k + 1]) (ofR ((k + 1 : Nat) : Rat))) = some (ofR _)
    rw [times_R]
    congr 2
    show p[k + 1] * _ = _ * cf p (k + 1)
    have e : cf p (k + 1) = p[k + 1] := by
      unfold cf
      rw [List.getD_eq_getElem?_getD, List.getElem?_eq_getElem hk]; rfl
    rw [e]
    grind
  · rw [List.getElem?_eq_none (show p.length ≤ k + 1 by omega), List.getElem?_eq_none (by rw [List.length_range]; omega)]; rfl
/-- nothing that is 0 at the end -/
def Tr (p : List Rat) : Prop := p = [] ∨ cf p (p.length - 1) ≠ 0
theorem last_cf (p : List Rat) (h : p ≠ []) : p.getLast h = cf p (p.length - 1) := by
  unfold cf
  rw [List.getLast_eq_getElem, List.getD_eq_getElem?_getD, List.getElem?_eq_getElem]; rfl
theorem lastD_cf (p : List Rat) (h : p ≠ []) (d : Rat) : p.getLastD d = cf p (p.length - 1) := by
  rw [List.getLastD_eq_getLast?, List.getLast?_eq_some_getLast h, last_cf p h]; rfl
theorem rtrim_nil : rtrim [] = [] := rfl
theorem rtrim_snoc (p : List Rat) (x : Rat) : rtrim (p ++ [x]) = if x = 0 then rtrim p else p ++ [x] := by
  unfold rtrim
  rw [List.reverse_append, List.reverse_singleton, List.singleton_append, List.dropWhile_cons]
  by_cases h : x = 0
  · rw [if_pos (decide_eq_true h), if_pos h]
  · rw [if_neg (by simpa using h), if_neg h, List.reverse_cons, List.reverse_reverse]
theorem toL_succ (m : Nat) (f : Nat → Rat) : toL (m + 1) f = toL m f ++ [f m] := by
  unfold toL; rw [List.range_succ, List.map_append]; rfl
theorem rtrim_id {p : List Rat} (h : Tr p) : rtrim p = p := by
  rcases h with h | h
  · subst h; rfl
  · have ne : p ≠ [] := fun z => by subst z; exact h rfl
    have e := List.dropLast_concat_getLast ne
    rw [last_cf p ne] at e
    rw [← e, rtrim_snoc, if_neg h]
/-- a polynomial with 0s behind it, trimmed -/
theorem rtrim_toL {r : List Rat} (hr : Tr r) {g : Nat → Rat} : ∀ {M : Nat}, r.length ≤ M → (∀ i, i < M → cf r i = g i) → rtrim (toL M g) = r
  | 0, h, _ => by
    have e : r = [] := List.length_eq_zero_iff.mp (by omega)
    subst e; rfl
  | M + 1, h, hg => by
    by_cases c : r.length = M + 1
    · rw [← eq_toL c hg]
      exact rtrim_id hr
    · rw [toL_succ, rtrim_snoc, if_pos, rtrim_toL hr (M := M) (by omega) fun i hi => hg i (by omega)]
      rw [← hg M (by omega)]
      exact cf_low (by omega)
/-! ### what's left -/
def rstep (p q : List Rat) : List Rat := rtrim (toL p.length fun i => if i < p.length - q.length then cf p i else cf p i - (p.getLastD 0 / q.getLastD 1) * cf q (i - (p.length - q.length)))
def rrest : Nat → List Rat → List Rat → List Rat
  | 0, p, _ => p
  | f + 1, p, q => if p.length < q.length ∨ q = [] then p else rrest f (rstep p q) q
theorem step_R (p q : List Rat) : trim ((fl p).zipIdx.map fun y => if y.2 < (fl p).length - (fl q).length then y.1 else minus y.1 (times (over ((fl p).getLastD zero) ((fl q).getLastD (whole 1))) ((fl q).getD (y.2 - ((fl p).length - (fl q).length)) zero))) = fl (rstep p q) := by
  unfold rstep
  rw [← trim_R]
  congr 1
  unfold toL
  rw [fl_len, fl_len, show zero = ofR 0 from rfl, show whole 1 = ofR 1 from rfl, fl_last, fl_last, over_R]
  apply List.ext_getElem?
  intro k
  rw [List.getElem?_map, zipIdx_get]
  unfold fl
  rw [List.getElem?_map, List.getElem?_map, List.getElem?_map]
  by_cases hk : k < p.length
  · rw [List.getElem?_eq_getElem hk, List.getElem?_range hk]
    have e : cf p k = p[k] := by
      unfold cf
      rw [List.getD_eq_getElem?_getD, List.getElem?_eq_getElem hk]; rfl
    show some (if k < p.length - q.length then ofR p[k] else minus (ofR p[k]) (times (ofR _) ((fl q).getD (k - (p.length - q.length)) zero))) = some (ofR (if k < p.length - q.length then cf p k else cf p k - (p.getLastD 0 / q.getLastD 1) * cf q (k - (p.length - q.length))))
    rw [fl_getD, times_R, minus_R, e]
    by_cases c : k < p.length - q.length
    · rw [if_pos c, if_pos c]
    · rw [if_neg c, if_neg c]
  · rw [List.getElem?_eq_none (show p.length ≤ k by omega), List.getElem?_eq_none (by rw [List.length_range]; omega)]; rfl
theorem rest_R : ∀ (f : Nat) (p q : List Rat), Sr71.restOn f (fl p) (fl q) = fl (rrest f p q)
  | 0, p, q => rfl
  | f + 1, p, q => by
    unfold Sr71.restOn rrest
    rw [fl_len, fl_len]
    by_cases c : p.length < q.length ∨ q = []
    · rw [if_pos c, if_pos (by rcases c with c | c; exact .inl c; exact .inr (fl_nil.mpr c))]
    · rw [if_neg c, if_neg (fun z => c (by rcases z with z | z; exact .inl z; exact .inr (fl_nil.mp z)))]
      have e := step_R p q
      rw [fl_len, fl_len] at e
      rw [← rest_R f (rstep p q) q, ← e]
theorem rneg_R (p : List Rat) : (fl p).map neg = fl (rscale (-1) p) := by
  unfold fl rscale
  rw [List.map_map, List.map_map]
  refine List.map_congr_left fun x _ => ?_
  show neg (ofR x) = ofR (-1 * x)
  rw [neg_R]; congr 1; grind
theorem cf_rel {P Q R : List Rat} {al be : Rat} (h1 : P.length = Q.length + 1) (h2 : Q.length = R.length + 1) (hr : ∀ k, cf P k = al * cx Q k + be * cf Q k - cf R k) : cf P (P.length - 1) = al * cf Q (Q.length - 1) := by
  have := hr (P.length - 1)
  rw [this, show P.length - 1 = (Q.length - 1) + 1 by omega]
  show al * cf Q (Q.length - 1) + be * cf Q (Q.length - 1 + 1) - cf R (Q.length - 1 + 1) = _
  rw [cf_low (p := Q) (k := Q.length - 1 + 1) (by omega), cf_low (p := R) (k := Q.length - 1 + 1) (by omega)]; grind
/-- one division in a regular chain -/
theorem rrest_reg {P Q R : List Rat} {al be : Rat} (h1 : P.length = Q.length + 1) (h2 : Q.length = R.length + 1) (hq : cf Q (Q.length - 1) ≠ 0) (hr : ∀ k, cf P k = al * cx Q k + be * cf Q k - cf R k) (tR : Tr R) (f : Nat) : rrest (f + 3) P Q = rscale (-1) R := by
  have hQ : Q ≠ [] := fun z => by subst z; exact hq rfl
  have hP : P ≠ [] := fun z => by subst z; simp at h1
  have eP := cf_rel h1 h2 hr
  have lead : P.getLastD 0 / Q.getLastD 1 = al := by rw [lastD_cf P hP, lastD_cf Q hQ, eP]; grind
  have tN : Tr (rscale (-1) R) := by
    rcases tR with z | z
    · left; subst z; rfl
    · right; rw [rscale_len, cf_rscale]; grind
  have cN : ∀ i, cf (rscale (-1) R) i = -cf R i := fun i => by rw [cf_rscale]; grind
  have nQ : ¬ (P.length < Q.length ∨ Q = []) := fun z => by
    rcases z with z | z
    · omega
    · exact hQ z
  have lN : (rscale (-1) R).length = R.length := rscale_len _ _
  have stop : ∀ f, rrest f (rscale (-1) R) Q = rscale (-1) R := fun f => by
    cases f with
    | zero => rfl
    | succ f => unfold rrest; rw [if_pos (.inl (by omega))]
  have fst : ∀ i, i < P.length → (if i < P.length - Q.length then cf P i else cf P i - (P.getLastD 0 / Q.getLastD 1) * cf Q (i - (P.length - Q.length))) = be * cf Q i - cf R i := fun i _ => by
    rw [lead, hr i, show P.length - Q.length = 1 by omega]
    cases i with
    | zero => rw [if_pos (by omega)]; show al * 0 + _ - _ = _; grind
    | succ i => rw [if_neg (by omega), Nat.add_sub_cancel]; show al * cf Q i + _ - _ - _ = _; grind
  show (if P.length < Q.length ∨ Q = [] then P else rrest (f + 2) (rstep P Q) Q) = _
  rw [if_neg nQ]
  by_cases b0 : be = 0
  · have e : rstep P Q = rscale (-1) R := rtrim_toL tN (by omega) fun i hi => by
      rw [fst i hi, b0, cN]; grind
    rw [e, stop]
  · let p1 := toL Q.length fun i => be * cf Q i - cf R i
    have l1 : p1.length = Q.length := toL_len _ _
    have c1 : ∀ i, cf p1 i = be * cf Q i - cf R i := fun i => cf_toL (fun k hk => by rw [cf_low (p := Q) hk, cf_low (p := R) (by omega)]; grind) i
    have t1 : cf p1 (p1.length - 1) = be * cf Q (Q.length - 1) := by rw [l1, c1, cf_low (p := R) (by omega)]; grind
    have n1 : cf p1 (p1.length - 1) ≠ 0 := by rw [t1]; exact mul_ne b0 hq
    have e : rstep P Q = p1 := rtrim_toL (.inr n1) (by omega) fun i hi => by rw [fst i hi, c1]
    rw [e]
    show (if p1.length < Q.length ∨ Q = [] then p1 else rrest (f + 1) (rstep p1 Q) Q) = _
    rw [if_neg (fun z => by
      rcases z with z | z
      · omega
      · exact hQ z)]
    have hp1 : p1 ≠ [] := fun z => by rw [z] at n1; exact n1 rfl
    have lead1 : p1.getLastD 0 / Q.getLastD 1 = be := by rw [lastD_cf p1 hp1, lastD_cf Q hQ, t1]; grind
    have e2 : rstep p1 Q = rscale (-1) R := rtrim_toL tN (by omega) fun i hi => by
      rw [lead1, if_neg (by omega), cN, c1, show i - (p1.length - Q.length) = i by omega]; grind
    rw [e2, stop]
/-! ### chains -/
theorem reg_head {P : List Rat} {L : List (List Rat)} (h : RegC (P :: L)) : cf P (P.length - 1) ≠ 0 ∧ P ≠ [] := by
  cases h with
  | one h1 h2 => exact ⟨by rw [h1]; exact h2, fun z => by subst z; simp at h1⟩
  | cons al be ha h1 h2 h3 hr hc =>
    refine ⟨?_, fun z => by subst z; simp at h1⟩
    rw [cf_rel h1 h2 hr]
    exact mul_ne (by grind) h3
theorem reg_tr {P : List Rat} {L : List (List Rat)} (h : RegC (P :: L)) : Tr P := .inr (reg_head h).1
theorem chainOn_R : ∀ {P Q : List Rat} {L : List (List Rat)}, RegC (P :: Q :: L) → ∀ f, P.length ≤ f → Sr71.chainOn f (fl P) (fl Q) = (P :: Q :: L).map fl
  | P, Q, L, h, f, hf => by
    have hP := (reg_head h).2
    cases h with
    | cons al be ha h1 h2 h3 hr hc =>
      have hQ : Q ≠ [] := (reg_head hc).2
      have tR : Tr (L.headD []) := by
        cases hc with
        | one _ _ => exact .inl rfl
        | cons al' be' ha' h1' h2' h3' hr' hc' => exact reg_tr hc'
      cases f with
      | zero => exact absurd (List.length_eq_zero_iff.mp (by omega)) hP
      | succ f =>
        have e1 : Sr71.chainOn (f + 1) (fl P) (fl Q) = fl P :: Sr71.chainOn f (fl Q) ((Sr71.restOn ((fl P).length + 1) (fl P) (fl Q)).map neg) := by
          show (if fl Q = [] then _ else _) = _
          rw [if_neg (fun z => hQ (fl_nil.mp z))]
        have e2 : (Sr71.restOn ((fl P).length + 1) (fl P) (fl Q)).map neg = fl (L.headD []) := by
          have hlen : P.length + 1 = (Q.length - 1) + 3 := by
            have : Q.length ≠ 0 := fun z => hQ (List.length_eq_zero_iff.mp z)
            omega
          rw [fl_len, rest_R, hlen, rrest_reg h1 h2 h3 hr tR, rneg_R]
          congr 1
          unfold rscale
          rw [List.map_map]
          conv => rhs; rw [← List.map_id (L.headD [])]
          refine List.map_congr_left fun x _ => ?_
          show -1 * (-1 * x) = x
          grind
        rw [e1, e2]
        cases hc with
        | one _ _ =>
          show fl P :: Sr71.chainOn f (fl Q) [] = [fl P, fl Q]
          cases f <;> rfl
        | @cons _ R L' al' be' ha' h1' h2' h3' hr' hc' =>
          show fl P :: Sr71.chainOn f (fl Q) (fl R) = fl P :: _
          rw [chainOn_R (RegC.cons al' be' ha' h1' h2' h3' hr' hc') f (by omega)]
/-- what a regular polynomial's chain is -/
def IsCh (p : List Rat) (L : List (List Rat)) : Prop := RegC L ∧ ((p.length = 1 ∧ L = [p]) ∨ (2 ≤ p.length ∧ ∃ L', L = p :: rslope p :: L'))
theorem ch_of {p : List Rat} (h : Regular p) : ∃ L, IsCh p L := by
  rcases h with ⟨h1, h2⟩ | ⟨h1, L, h2⟩
  · exact ⟨[p], .one h1 h2, .inl ⟨h1, rfl⟩⟩
  · exact ⟨_, h2, .inr ⟨h1, L, rfl⟩⟩
theorem isch_head {p : List Rat} {L : List (List Rat)} (h : IsCh p L) : ∃ L', L = p :: L' := by
  rcases h.2 with ⟨_, e⟩ | ⟨_, L', e⟩
  · exact ⟨_, e⟩
  · exact ⟨_, e⟩
theorem chainOf_R {p : List Rat} {L : List (List Rat)} (h : IsCh p L) : Sr71.chainOf (fl p) = L.map fl := by
  obtain ⟨hr, hc⟩ := h
  unfold Sr71.chainOf
  rw [trim_R, slope_R, trim_R, fl_len]
  rcases hc with ⟨h1, rfl⟩ | ⟨h1, L', rfl⟩
  · rw [rtrim_id (reg_tr hr)]
    have : rslope p = [] := by
      unfold rslope
      rw [h1]; rfl
    rw [this]
    show (if fl (rtrim []) = [] then [fl p] else _) = _
    rw [rtrim_nil, if_pos (fl_nil.mpr rfl)]; rfl
  · rw [rtrim_id (reg_tr hr)]
    have t2 : Tr (rslope p) := by
      cases hr with
      | cons al be ha h1 h2 h3 hr hc => exact reg_tr hc
    rw [rtrim_id t2]
    exact chainOn_R hr _ (by omega)
/-! ### each zero once -/
theorem fl_set (r : List Rat) (k : Nat) (x : Rat) : (fl r).set k (ofR x) = fl (r.set k x) := by
  unfold fl; rw [List.map_set]
theorem cf_set (r : List Rat) (k i : Nat) (x : Rat) (hk : k < r.length) : cf (r.set k x) i = if i = k then x else cf r i := by
  unfold cf
  rw [List.getD_eq_getElem?_getD, List.getElem?_set, List.getD_eq_getElem?_getD]
  by_cases c : i = k
  · subst c; rw [if_pos rfl, if_pos rfl, if_pos hk]; rfl
  · rw [if_neg (fun z => c z.symm), if_neg c]
theorem rtrim_len : ∀ (n : Nat) (p : List Rat), p.length = n → (rtrim p).length ≤ n ∧ ∀ i, cf (rtrim p) i = cf p i
  | 0, p, h => by
    have : p = [] := List.length_eq_zero_iff.mp h
    subst this; exact ⟨Nat.le_refl _, fun _ => rfl⟩
  | n + 1, p, h => by
    have ne : p ≠ [] := fun z => by subst z; simp at h
    have e := List.dropLast_concat_getLast ne
    have hl : p.dropLast.length = n := by rw [List.length_dropLast]; omega
    rw [← e, rtrim_snoc]
    by_cases c : p.getLast ne = 0
    · rw [if_pos c]
      obtain ⟨h1, h2⟩ := rtrim_len n p.dropLast hl
      refine ⟨by omega, fun i => ?_⟩
      rw [h2 i, c]
      unfold cf
      rw [List.getD_eq_getElem?_getD, List.getD_eq_getElem?_getD, List.getElem?_append]
      by_cases ci : i < p.dropLast.length
      · rw [if_pos ci]
      · rw [if_neg ci, List.getElem?_eq_none (by omega)]
        cases q : i - p.dropLast.length with
        | zero => rfl
        | succ j => rfl
    · rw [if_neg c]
      refine ⟨by rw [List.length_append, hl]; exact Nat.le_refl _, fun _ => rfl⟩
theorem quotOn_R {c : Rat} (hc : c ≠ 0) : ∀ (f : Nat) (p r : List Rat), p.length ≤ f → p.length ≤ r.length → (∀ i, i < p.length → cf r i = 0) →
    ∃ z, Sr71.quotOn f (fl p) (fl [c]) (fl r) = fl z ∧ z.length = r.length ∧ ∀ i, cf z i = if i < p.length then cf p i / c else cf r i
  | 0, p, r, h, h2, h3 => by
    have : p = [] := List.length_eq_zero_iff.mp (by omega)
    subst this
    exact ⟨r, rfl, rfl, fun i => (if_neg (by simp)).symm⟩
  | f + 1, p, r, h, h2, h3 => by
    unfold Sr71.quotOn
    rw [fl_len, fl_len]
    by_cases e : p = []
    · subst e
      rw [if_pos (.inl (show 0 < 1 by decide))]
      exact ⟨r, rfl, rfl, fun i => (if_neg (by simp)).symm⟩
    · have lp : 0 < p.length := List.length_pos_iff.mpr e
      rw [if_neg (fun z => by
        rcases z with z | z
        · have : p.length < 1 := z
          omega
        · exact absurd (fl_nil.mp z) (by simp))]
      have st := step_R p [c]
      rw [fl_len, fl_len] at st
      simp only []
      rw [st]
      have lead : p.getLastD 0 / [c].getLastD 1 = cf p (p.length - 1) / c := by rw [lastD_cf p e]; rfl
      have hs : ∀ i, cf (rstep p [c]) i = if i < p.length - 1 then cf p i else 0 := fun i => by
        unfold rstep
        rw [(rtrim_len p.length _ (toL_len _ _)).2 i]
        rw [cf_toL (f := fun i => if i < p.length - [c].length then cf p i else cf p i - p.getLastD 0 / [c].getLastD 1 * cf [c] (i - (p.length - [c].length)))]
        · show (if i < p.length - 1 then cf p i else cf p i - p.getLastD 0 / [c].getLastD 1 * cf [c] (i - (p.length - 1))) = _
          by_cases ci : i < p.length - 1
          · rw [if_pos ci, if_pos ci]
          · rw [if_neg ci, if_neg ci, lead]
            by_cases cj : i = p.length - 1
            · subst cj
              rw [Nat.sub_self]
              show cf p (p.length - 1) - cf p (p.length - 1) / c * c = 0
              grind
            · rw [cf_low (p := p) (by omega), cf_low (p := [c]) (by show 1 ≤ _; omega)]; grind
        · intro k hk
          show (if k < p.length - 1 then cf p k else cf p k - p.getLastD 0 / [c].getLastD 1 * cf [c] (k - (p.length - 1))) = 0
          rw [if_neg (by omega), cf_low (p := p) hk, cf_low (p := [c]) (by show 1 ≤ _; omega)]; grind
      have ls : (rstep p [c]).length ≤ p.length - 1 := by
        by_cases q : (rstep p [c]).length ≤ p.length - 1
        · exact q
        · exfalso
          have l2 : (rstep p [c]).length ≤ p.length := (rtrim_len p.length _ (toL_len _ _)).1
          have l3 : (rstep p [c]).length = p.length := by omega
          unfold rstep at l3
          have tz : toL p.length (fun i => if i < p.length - [c].length then cf p i else cf p i - p.getLastD 0 / [c].getLastD 1 * cf [c] (i - (p.length - [c].length))) = toL (p.length - 1) (fun i => if i < p.length - [c].length then cf p i else cf p i - p.getLastD 0 / [c].getLastD 1 * cf [c] (i - (p.length - [c].length))) ++ [0] := by
            conv => lhs; rw [show p.length = (p.length - 1) + 1 by omega]
            rw [toL_succ]
            rw [show p.length - 1 + 1 = p.length by omega]
            congr 2
            show (if p.length - 1 < p.length - 1 then cf p (p.length - 1) else cf p (p.length - 1) - p.getLastD 0 / [c].getLastD 1 * cf [c] (p.length - 1 - (p.length - 1))) = 0
            rw [if_neg (Nat.lt_irrefl _), lead, Nat.sub_self]
            show cf p (p.length - 1) - cf p (p.length - 1) / c * c = 0
            grind
          rw [tz, rtrim_snoc, if_pos rfl] at l3
          have := (rtrim_len (p.length - 1) _ (toL_len (p.length - 1) (fun i => if i < p.length - [c].length then cf p i else cf p i - p.getLastD 0 / [c].getLastD 1 * cf [c] (i - (p.length - [c].length))))).1
          omega
      have eset : (fl r).set (p.length - [c].length) (over ((fl p).getLastD zero) ((fl [c]).getLastD (whole 1))) = fl (r.set (p.length - 1) (cf p (p.length - 1) / c)) := by
        rw [show zero = ofR 0 from rfl, show whole 1 = ofR 1 from rfl, fl_last, fl_last, over_R, lead]
        exact fl_set r _ _
      rw [eset]
      obtain ⟨z, hz1, hz2, hz3⟩ := quotOn_R hc f (rstep p [c]) (r.set (p.length - 1) (cf p (p.length - 1) / c)) (by omega) (by rw [List.length_set]; omega) (fun i hi => by
        rw [cf_set _ _ _ _ (by omega), if_neg (by omega)]
        exact h3 i (by omega))
      refine ⟨z, hz1, by rw [hz2, List.length_set], fun i => ?_⟩
      rw [hz3 i, hs i, cf_set _ _ _ _ (by omega)]
      by_cases c1 : i < (rstep p [c]).length
      · rw [if_pos c1, if_pos (by omega), if_pos (by omega)]
      · rw [if_neg c1]
        by_cases c2 : i = p.length - 1
        · rw [if_pos c2, if_pos (by omega), c2]
        · rw [if_neg c2]
          by_cases c3 : i < p.length
          · rw [if_pos c3, h3 i c3]
            have q := hs i
            rw [if_pos (by omega), cf_low (p := rstep p [c]) (by omega)] at q
            rw [← q]; grind
          · rw [if_neg c3]
theorem quot_R {c : Rat} (hc : c ≠ 0) (p : List Rat) : Sr71.quot (fl p) (fl [c]) = fl (rscale (1 / c) p) := by
  unfold Sr71.quot
  rw [fl_len, fl_len]
  have e : List.replicate (p.length + 1 - [c].length) zero = fl (List.replicate p.length 0) := by
    unfold fl
    rw [List.map_replicate]; rfl
  rw [e]
  have c0 : ∀ i, cf (List.replicate p.length 0) i = 0 := fun i => by
    unfold cf
    rw [List.getD_eq_getElem?_getD, List.getElem?_replicate]
    by_cases h : i < p.length
    · rw [if_pos h]; rfl
    · rw [if_neg h]; rfl
  obtain ⟨z, h1, h2, h3⟩ := quotOn_R hc (p.length + 1) p (List.replicate p.length 0) (by omega) (by rw [List.length_replicate]; exact Nat.le_refl _) (fun i _ => c0 i)
  rw [h1]
  congr 1
  refine ext_cf (by rw [h2, List.length_replicate, rscale_len]) fun k hk => ?_
  rw [h2, List.length_replicate] at hk
  rw [h3, if_pos hk, cf_rscale]; grind
/-! ### a chain times a number -/
theorem reg_scale {d : Rat} (hd : d ≠ 0) : ∀ {L : List (List Rat)}, RegC L → RegC (L.map (rscale d))
  | _, .one h1 h2 => .one (by rw [rscale_len, h1]) (by rw [cf_rscale]; exact mul_ne hd h2)
  | _, @RegC.cons P Q L al be ha h1 h2 h3 hr hc => by
    have hh : (L.map (rscale d)).headD [] = rscale d (L.headD []) := by cases L <;> rfl
    refine RegC.cons al be ha (by rw [rscale_len, rscale_len, h1]) (by rw [hh, rscale_len, rscale_len, h2]) (by rw [rscale_len, cf_rscale]; exact mul_ne hd h3) (fun k => ?_) (reg_scale hd hc)
    rw [hh, cf_rscale, cf_rscale, cf_rscale, hr k]
    have : cx (rscale d Q) k = d * cx Q k := by
      cases k with
      | zero => show (0 : Rat) = d * 0; grind
      | succ k => exact cf_rscale d Q k
    rw [this]; grind
theorem slope_scale (d : Rat) (p : List Rat) : rslope (rscale d p) = rscale d (rslope p) := by
  refine ext_cf (by unfold rslope; rw [toL_len, rscale_len, rscale_len, toL_len]) fun k hk => ?_
  have z : ∀ (p : List Rat) (k : Nat), p.length - 1 ≤ k → ((k + 1 : Nat) : Rat) * cf p (k + 1) = 0 := fun p k hk => by rw [cf_low (p := p) (by omega)]; grind
  rw [cf_rscale]
  unfold rslope
  rw [cf_toL (z _), cf_toL (z _), cf_rscale]; grind
theorem isch_scale {d : Rat} (hd : d ≠ 0) {p : List Rat} {L : List (List Rat)} (h : IsCh p L) : IsCh (rscale d p) (L.map (rscale d)) := by
  refine ⟨reg_scale hd h.1, ?_⟩
  rcases h.2 with ⟨h1, e⟩ | ⟨h1, L', e⟩
  · left
    rw [e]
    exact ⟨by rw [rscale_len, h1], rfl⟩
  · right
    rw [e]
    exact ⟨by rw [rscale_len]; exact h1, L'.map (rscale d), by rw [slope_scale]; rfl⟩
theorem reg_last : ∀ {L : List (List Rat)}, RegC L → ∃ c : Rat, c ≠ 0 ∧ L.getLast? = some [c]
  | _, @RegC.one P h1 h2 => by
    match P, h1, h2 with
    | [c], _, h2 => exact ⟨c, h2, rfl⟩
  | _, @RegC.cons P Q L al be ha h1 h2 h3 hr hc => by
    obtain ⟨c, h0, e⟩ := reg_last hc
    exact ⟨c, h0, by rw [List.getLast?_cons_cons]; exact e⟩
/-- the chain of the polynomial that has each zero once is a multiple of the polynomial's own -/
theorem chain_R {p : List Rat} {L : List (List Rat)} (h : IsCh p L) : ∃ d : Rat, d ≠ 0 ∧ Sr71.chain (fl p) = (L.map (rscale d)).map fl := by
  obtain ⟨c, hc, e⟩ := reg_last h.1
  refine ⟨1 / c, by grind, ?_⟩
  have hd : 1 / c ≠ 0 := by grind
  obtain ⟨L', eL⟩ := isch_head h
  have tp : Tr p := by
    have := h.1
    rw [eL] at this
    exact reg_tr this
  have hs : Sr71.single (fl p) = fl (rscale (1 / c) p) := by
    unfold Sr71.single
    rw [chainOf_R h, trim_R, rtrim_id tp]
    have : (L.map fl).getLastD [whole 1] = fl [c] := by
      rw [List.getLastD_eq_getLast?, List.getLast?_map, e]; rfl
    rw [this, quot_R hc, trim_R, rtrim_id]
    rcases tp with z | z
    · left; subst z; rfl
    · right; rw [rscale_len, cf_rscale]; exact mul_ne hd z
  unfold Sr71.chain
  rw [hs]
  exact chainOf_R (isch_scale hd h)
/-! ### turns -/
theorem fz_scale {d : Rat} (hd : d ≠ 0) : ∀ l : List Rat, fz (l.map fun x => d * x) = d * fz l
  | [] => by show (0 : Rat) = d * 0; grind
  | x :: l => by
    show (if d * x = 0 then fz (l.map fun x => d * x) else d * x) = d * (if x = 0 then fz l else x)
    by_cases h : x = 0
    · rw [if_pos h, if_pos (by rw [h]; grind), fz_scale hd l]
    · rw [if_neg h, if_neg (mul_ne hd h)]
theorem vv_scale {d : Rat} (hd : d ≠ 0) : ∀ l : List Rat, vv (l.map fun x => d * x) = vv l
  | [] => rfl
  | x :: l => by
    show (if d * x * fz (l.map fun x => d * x) < 0 then 1 else 0) + vv (l.map fun x => d * x) = (if x * fz l < 0 then 1 else 0) + vv l
    rw [vv_scale hd l, fz_scale hd l]
    have p := sq_pos hd
    have e : d * x * (d * fz l) = (d * d) * (x * fz l) := by grind
    rw [e]
    by_cases h : x * fz l < 0
    · rw [if_pos h, if_pos]
      have := Rat.mul_pos p (by grind : 0 < -(x * fz l))
      grind
    · rw [if_neg h, if_neg]
      have := Rat.mul_nonneg (by grind : 0 ≤ d * d) (by grind : 0 ≤ x * fz l)
      grind
theorem ev_scale (d x : Rat) : ∀ p : List Rat, ev x (rscale d p) = d * ev x p
  | [] => by show (0 : Rat) = d * 0; grind
  | c :: p => by
    show ev x (rscale d p) * x + d * c = d * (ev x p * x + c)
    rw [ev_scale d x p]; grind
theorem turns_at (x : Rat) (L : List (List Rat)) : Sr71.turnsBy ((L.map fl).map fun q => Sr71.signOf (Sr71.valueAt q (ofR x))) = vv (vals x L) := by
  rw [← turnsBy_vv]
  unfold vals
  rw [List.map_map, List.map_map]
  congr 1
  refine List.map_congr_left fun q _ => ?_
  show Sr71.signOf (Sr71.valueAt (fl q) (ofR x)) = sg (ev x q)
  rw [value_R, signOf_R]
theorem vals_scale (x d : Rat) (L : List (List Rat)) : vals x (L.map (rscale d)) = (vals x L).map fun y => d * y := by
  unfold vals
  rw [List.map_map, List.map_map]
  exact List.map_congr_left fun q _ => ev_scale d x q
/-- **between**, by the polynomial's own chain -/
theorem between_R {p : List Rat} (h : Regular p) {x y : Rat} (hxy : x < y) :
    ((Sr71.between (fl p) (ofR x) (ofR y) : Nat) : Int) = (Sr71.turnsBy ((Sr71.chainOf (fl p)).map fun q => Sr71.signOf (Sr71.valueAt q (ofR x))) : Int) - (Sr71.turnsBy ((Sr71.chainOf (fl p)).map fun q => Sr71.signOf (Sr71.valueAt q (ofR y))) : Int) := by
  obtain ⟨L, hL⟩ := ch_of h
  obtain ⟨d, hd, e⟩ := chain_R hL
  unfold Sr71.between
  rw [e, chainOf_R hL, turns_at, turns_at, turns_at, turns_at, vals_scale, vals_scale, vv_scale hd, vv_scale hd]
  have := reg_mono hxy hL.1
  omega
/-- the last factor -/
def ld (q : List Rat) : Rat := q.getLastD 0
def le' (q : List Rat) : Rat := if q.length % 2 = 1 then ld q else -ld q
theorem ld_scale (d : Rat) (q : List Rat) : ld (rscale d q) = d * ld q := by
  unfold ld rscale
  rw [List.getLastD_eq_getLast?, List.getLast?_map, List.getLastD_eq_getLast?]
  cases q.getLast? with
  | none => show (0 : Rat) = d * 0; grind
  | some x => rfl
theorem top_R (q : List Rat) : Sr71.atTop (fl q) = sg (ld q) := by
  unfold Sr71.atTop ld
  rw [show zero = ofR 0 from rfl, fl_last, signOf_R]
theorem sg_neg (x : Rat) : sg (-x) = -sg x := by
  unfold sg
  by_cases h : x < 0
  · rw [if_pos h, if_neg (by grind), if_pos (by grind)]; rfl
  · rw [if_neg h]
    by_cases h2 : 0 < x
    · rw [if_pos h2, if_pos (by grind)]
    · rw [if_neg h2, if_neg (by grind), if_neg (by grind)]; rfl
theorem end_R (q : List Rat) : Sr71.atEnd (fl q) = sg (le' q) := by
  unfold Sr71.atEnd le'
  rw [fl_len, show zero = ofR 0 from rfl, fl_last, signOf_R]
  by_cases h : q.length % 2 = 1
  · rw [if_pos h, if_pos h]; rfl
  · rw [if_neg h, if_neg h, sg_neg]; rfl
theorem tops (L : List (List Rat)) : Sr71.turnsBy ((L.map fl).map Sr71.atTop) = vv (L.map ld) := by
  rw [← turnsBy_vv, List.map_map, List.map_map]
  congr 1
  exact List.map_congr_left fun q _ => top_R q
theorem ends (L : List (List Rat)) : Sr71.turnsBy ((L.map fl).map Sr71.atEnd) = vv (L.map le') := by
  rw [← turnsBy_vv, List.map_map, List.map_map]
  congr 1
  exact List.map_congr_left fun q _ => end_R q
theorem heads (L : List (List Rat)) : Sr71.turnsBy ((L.map fl).map Sr71.at0) = vv (vals 0 L) := by
  rw [← turnsBy_vv]
  unfold vals
  rw [List.map_map, List.map_map]
  congr 1
  refine List.map_congr_left fun q _ => ?_
  show Sr71.signOf ((fl q).headD zero) = sg (ev 0 q)
  cases q with
  | nil => exact signOf_R 0
  | cons c q =>
    show Sr71.signOf (ofR c) = sg (ev 0 q * 0 + c)
    rw [signOf_R]; congr 1; grind
/-- far above no sign turns -/
theorem reg_top : ∀ {L : List (List Rat)}, RegC L → vv (L.map ld) = 0 ∧ ∃ P L', L = P :: L' ∧ fz (L.map ld) = ld P ∧ ld P ≠ 0
  | _, @RegC.one P h1 h2 => by
    have e : ld P ≠ 0 := by
      unfold ld
      rw [lastD_cf P (fun z => by subst z; simp at h1), h1]; exact h2
    exact ⟨vv_one _, P, [], rfl, if_neg e, e⟩
  | _, @RegC.cons P Q L al be ha h1 h2 h3 hr hc => by
    obtain ⟨ih, P', L', e, hf, hn⟩ := reg_top hc
    cases e
    have hQ : Q ≠ [] := fun z => by subst z; exact h3 rfl
    have hP : P ≠ [] := fun z => by subst z; simp at h1
    have eP : ld P = al * ld Q := by
      unfold ld
      rw [lastD_cf P hP, lastD_cf Q hQ]
      exact cf_rel h1 h2 hr
    have hp : ld P ≠ 0 := by rw [eP]; exact mul_ne (by grind) hn
    refine ⟨?_, P, Q :: L, rfl, if_neg hp, hp⟩
    show (if ld P * fz ((Q :: L).map ld) < 0 then 1 else 0) + vv ((Q :: L).map ld) = 0
    rw [ih, hf, eP, if_neg]
    have := Rat.mul_nonneg (by grind : 0 ≤ al) (sq_nonneg (ld Q))
    grind
theorem rootsAbove_R {p : List Rat} (h : Regular p) :
    ((Sr71.rootsAbove (fl p) : Nat) : Int) = (Sr71.turnsBy ((Sr71.chainOf (fl p)).map fun q => Sr71.signOf (Sr71.valueAt q (ofR 0))) : Int) - (Sr71.turnsBy ((Sr71.chainOf (fl p)).map Sr71.atTop) : Int) := by
  obtain ⟨L, hL⟩ := ch_of h
  obtain ⟨d, hd, e⟩ := chain_R hL
  unfold Sr71.rootsAbove
  rw [e, chainOf_R hL, turns_at, heads, tops, tops, vals_scale, vv_scale hd, (reg_top hL.1).1, (reg_top (reg_scale hd hL.1)).1]
  omega
theorem roots_R {p : List Rat} (h : Regular p) :
    ((Sr71.roots (fl p) : Nat) : Int) = (Sr71.turnsBy ((Sr71.chainOf (fl p)).map Sr71.atEnd) : Int) - (Sr71.turnsBy ((Sr71.chainOf (fl p)).map Sr71.atTop) : Int) := by
  obtain ⟨L, hL⟩ := ch_of h
  obtain ⟨d, hd, e⟩ := chain_R hL
  unfold Sr71.roots
  have es : (L.map (rscale d)).map le' = (L.map le').map fun x => d * x := by
    rw [List.map_map, List.map_map]
    refine List.map_congr_left fun q _ => ?_
    show le' (rscale d q) = d * le' q
    unfold le'
    rw [rscale_len, ld_scale]
    by_cases c : q.length % 2 = 1
    · rw [if_pos c, if_pos c]
    · rw [if_neg c, if_neg c]; grind
  rw [e, chainOf_R hL, ends, ends, tops, tops, es, vv_scale hd, (reg_top hL.1).1, (reg_top (reg_scale hd hL.1)).1]
  omega
end BD
set_option linter.all false
namespace BD
open Sr58 (Frac frac plus times less whole total)
open Sr66 (minus over zero neg)
open Sr71 (Poly trim)
/-! ### told -/
def rtold : Nat → List Rat → List Rat → Option (List Rat × List Rat)
  | 0, p, q => if p.length = 1 ∧ q = [1] ∧ 0 < p.headD 0 then some ([p.headD 0], []) else none
  | f + 1, p, q => if p.length ≠ f + 2 ∨ q.length ≠ f + 2 then none else
    if p.getLastD 0 / q.getLastD 1 ≤ 0 ∨ (rtrim (radd p (rscale (-(p.getLastD 0 / q.getLastD 1)) q))).length ≠ f + 1 then none else
    if -(q.getLastD 0 / (rtrim (radd p (rscale (-(p.getLastD 0 / q.getLastD 1)) q))).getLastD 1) ≤ 0 then none else
    (rtold f (rtrim (radd p (rscale (-(p.getLastD 0 / q.getLastD 1)) q)))
      (rtrim (radd q (rscale (-(q.getLastD 0 / (rtrim (radd p (rscale (-(p.getLastD 0 / q.getLastD 1)) q))).getLastD 1)) (0 :: rtrim (radd p (rscale (-(p.getLastD 0 / q.getLastD 1)) q))))))).map
      fun s => (p.getLastD 0 / q.getLastD 1 :: s.1, -(q.getLastD 0 / (rtrim (radd p (rscale (-(p.getLastD 0 / q.getLastD 1)) q))).getLastD 1) :: s.2)
def strOf (s : List Rat × List Rat) : Sr74.Str := ⟨fl s.1, fl s.2⟩
theorem n_le {x : Rat} : (ofR x).n ≤ 0 ↔ x ≤ 0 := by
  rw [n_ofR]
  constructor
  · intro h
    by_cases c : 0 < x
    · have := num_pos.mpr c; omega
    · grind
  · intro h
    by_cases c : 0 < x.num
    · have := num_pos.mp c; grind
    · omega
theorem n_lt {x : Rat} : 0 < (ofR x).n ↔ 0 < x := num_pos
theorem told_step (f : Nat) (p q : Poly) : Sr74.toldOn (f + 1) p q = (if p.length ≠ f + 2 ∨ q.length ≠ f + 2 then none else
    if (over (p.getLastD zero) (q.getLastD (whole 1))).n ≤ 0 ∨ (trim (Sr73.add p (Sr73.scale (neg (over (p.getLastD zero) (q.getLastD (whole 1)))) q))).length ≠ f + 1 then none else
    if (neg (over (q.getLastD zero) ((trim (Sr73.add p (Sr73.scale (neg (over (p.getLastD zero) (q.getLastD (whole 1)))) q))).getLastD (whole 1)))).n ≤ 0 then none else
    (Sr74.toldOn f (trim (Sr73.add p (Sr73.scale (neg (over (p.getLastD zero) (q.getLastD (whole 1)))) q)))
      (trim (Sr73.add q (Sr73.scale (neg (over (q.getLastD zero) ((trim (Sr73.add p (Sr73.scale (neg (over (p.getLastD zero) (q.getLastD (whole 1)))) q))).getLastD (whole 1))))
        (Sr73.mul (Sr73.pow 1) (trim (Sr73.add p (Sr73.scale (neg (over (p.getLastD zero) (q.getLastD (whole 1)))) q)))))))).map
      fun s => ⟨over (p.getLastD zero) (q.getLastD (whole 1)) :: s.gaps, neg (over (q.getLastD zero) ((trim (Sr73.add p (Sr73.scale (neg (over (p.getLastD zero) (q.getLastD (whole 1)))) q))).getLastD (whole 1))) :: s.beads⟩) := rfl
theorem toldOn_R : ∀ (f : Nat) (p q : List Rat), Sr74.toldOn f (fl p) (fl q) = (rtold f p q).map strOf
  | 0, p, q => by
    have hh : (fl p).headD zero = ofR (p.headD 0) := by cases p <;> rfl
    show (if (fl p).length = 1 ∧ fl q = [whole 1] ∧ 0 < ((fl p).headD zero).n then some (Sr74.Str.mk [(fl p).headD zero] []) else none) = _
    have hq : fl q = [whole 1] ↔ q = [1] := ⟨fun h => fl_inj (h.trans rfl), fun h => by rw [h]; rfl⟩
    unfold rtold
    by_cases c : p.length = 1 ∧ q = [1] ∧ 0 < p.headD 0
    · rw [if_pos c, if_pos ⟨by rw [fl_len]; exact c.1, hq.mpr c.2.1, by rw [hh]; exact n_lt.mpr c.2.2⟩, hh]; rfl
    · rw [if_neg c, if_neg (fun y => c ⟨by rw [← fl_len]; exact y.1, hq.mp y.2.1, n_lt.mp (by rw [← hh]; exact y.2.2)⟩)]; rfl
  | f + 1, p, q => by
    rw [told_step]
    unfold rtold
    rw [fl_len, fl_len, show zero = ofR 0 from rfl, show whole 1 = ofR 1 from rfl, fl_last, fl_last, fl_last, over_R, neg_R, scale_R, add_R, trim_R, fl_len, fl_last, over_R, neg_R]
    generalize er : rtrim (radd p (rscale (-(p.getLastD 0 / q.getLastD 1)) q)) = r
    by_cases c1 : p.length ≠ f + 2 ∨ q.length ≠ f + 2
    · rw [if_pos c1, if_pos c1]; rfl
    · rw [if_neg c1, if_neg c1]
      by_cases c2 : p.getLastD 0 / q.getLastD 1 ≤ 0 ∨ r.length ≠ f + 1
      · rw [if_pos c2, if_pos (by rcases c2 with y | y; exact .inl (n_le.mpr y); exact .inr y)]; rfl
      · rw [if_neg c2, if_neg (fun y => c2 (by rcases y with y | y; exact .inl (n_le.mp y); exact .inr y))]
        have hr : r ≠ [] := fun z => by
          subst z
          exact c2 (.inr (by show ¬ (0 = f + 1); omega))
        rw [mulx_R hr, scale_R, add_R, trim_R, toldOn_R f]
        by_cases c3 : -(q.getLastD 0 / r.getLastD 1) ≤ 0
        · rw [if_pos c3, if_pos (n_le.mpr c3)]; rfl
        · rw [if_neg c3, if_neg (fun y => c3 (n_le.mp y)), Option.map_map, Option.map_map]
          congr 1
def rtoldAll (p q : List Rat) : Option (List Rat × List Rat) := rtold ((rtrim q).length - 1) (rtrim p) (rtrim q)
theorem told_R (p q : List Rat) : Sr74.told (fl p) (fl q) = (rtoldAll p q).map strOf := by
  unfold Sr74.told rtoldAll
  rw [trim_R, trim_R, fl_len, toldOn_R]
/-! ### a string is told by its answer -/
theorem top_up {ls bs : List Rat} (h : ls.length = bs.length + 1) (hl : ∀ x ∈ ls, 0 < x) (hb : ∀ x ∈ bs, 0 < x) : cf (rans ls bs).1 bs.length ≠ 0 := by
  rw [up_ch bs ls h hl hb, ch_top]
  exact mul_ne (Ka_ne bs ls hl hb) (by decide)
theorem top_lo {ls bs : List Rat} (h : ls.length = bs.length + 1) (hl : ∀ x ∈ ls, 0 < x) (hb : ∀ x ∈ bs, 0 < x) : cf (rans ls bs).2 bs.length ≠ 0 := by
  rw [lo_ch bs ls h hl hb, ch_top]
  exact mul_ne (Kl_ne bs ls hl hb) (by decide)
theorem tr_of {p : List Rat} {n : Nat} (hl : p.length = n + 1) (h : cf p n ≠ 0) : Tr p := .inr (by rw [hl]; exact h)
theorem last_of {p : List Rat} {n : Nat} (hl : p.length = n + 1) (d : Rat) : p.getLastD d = cf p n := by
  rw [lastD_cf p (fun z => by subst z; simp at hl), hl]; rfl
/-- a polynomial by its factors, 0s behind it -/
theorem trim_is {p r : List Rat} (tr : Tr r) (hl : r.length ≤ p.length) (h : ∀ i, cf p i = cf r i) : rtrim p = r := by
  have e : p = toL p.length (cf p) := eq_toL rfl fun _ _ => rfl
  rw [e]
  exact rtrim_toL tr hl fun i _ => (h i).symm
theorem told_ans : ∀ (bs ls : List Rat), ls.length = bs.length + 1 → (∀ x ∈ ls, 0 < x) → (∀ x ∈ bs, 0 < x) → rtold bs.length (rans ls bs).1 (rans ls bs).2 = some (ls, bs)
  | [], [l], _, hl, _ => by
    show (if [l].length = 1 ∧ [(1 : Rat)] = [1] ∧ 0 < l then some ([l], []) else none) = _
    rw [if_pos ⟨rfl, rfl, hl l (by simp)⟩]
  | b :: bs, l :: m :: ls, h, hl, hb => by
    have h' : (m :: ls).length = bs.length + 1 := by simpa using h
    have hl' : ∀ x ∈ m :: ls, 0 < x := fun x hx => hl x (List.mem_cons_of_mem _ hx)
    have hb' : ∀ x ∈ bs, 0 < x := fun x hx => hb x (List.mem_cons_of_mem _ hx)
    have ih := told_ans bs (m :: ls) h' hl' hb'
    have l0 := hl l (by simp)
    have b0 := hb b (by simp)
    have len := rans_len (b :: bs) (l :: m :: ls) h
    have len' := rans_len bs (m :: ls) h'
    have t1 := top_up h' hl' hb'
    have t2 := top_lo h' hl' hb'
    have r1 := rans1 l m b ls bs
    have r2 := rans2 l m b ls bs
    have e1 : cf (rans (l :: m :: ls) (b :: bs)).2 (bs.length + 1) = -b * cf (rans (m :: ls) bs).1 bs.length := by
      rw [r2, cf_low (p := (rans (m :: ls) bs).2) (by omega)]
      show 0 - b * cf (rans (m :: ls) bs).1 bs.length = _
      grind
    have e2 : cf (rans (l :: m :: ls) (b :: bs)).1 (bs.length + 1) = l * cf (rans (l :: m :: ls) (b :: bs)).2 (bs.length + 1) := by
      rw [r1, cf_low (p := (rans (m :: ls) bs).1) (by omega)]; grind
    have n1 : cf (rans (l :: m :: ls) (b :: bs)).2 (bs.length + 1) ≠ 0 := by rw [e1]; exact mul_ne (by grind) t1
    generalize rans (l :: m :: ls) (b :: bs) = X at *
    generalize rans (m :: ls) bs = Y at *
    have lb : (b :: bs).length = bs.length + 1 := rfl
    have g1 : X.1.getLastD 0 / X.2.getLastD 1 = l := by rw [last_of len.1, last_of len.2, lb, e2]; grind
    have g2 : rtrim (radd X.1 (rscale (-l) X.2)) = Y.1 := by
      refine trim_is (tr_of len'.1 t1) (by rw [radd_len, rscale_len]; omega) fun i => ?_
      rw [cf_radd, cf_rscale, r1]; grind
    have g3 : -(X.2.getLastD 0 / Y.1.getLastD 1) = b := by rw [last_of len.2, last_of len'.1, lb, e1]; grind
    have g4 : rtrim (radd X.2 (rscale b (0 :: Y.1))) = Y.2 := by
      refine trim_is (tr_of len'.2 t2) (by rw [radd_len, rscale_len, List.length_cons]; omega) fun i => ?_
      rw [cf_radd, cf_rscale, cf_0, r2]; grind
    show rtold (bs.length + 1) X.1 X.2 = _
    unfold rtold
    rw [g1, g2, g3, g4, ih, if_neg (by omega), if_neg, if_neg (by grind)]
    · rfl
    · intro z
      rcases z with z | z
      · grind
      · omega
theorem told_str {ls bs : List Rat} (h : ls.length = bs.length + 1) (hl : ∀ x ∈ ls, 0 < x) (hb : ∀ x ∈ bs, 0 < x) : rtoldAll (rans ls bs).1 (rans ls bs).2 = some (ls, bs) := by
  unfold rtoldAll
  have len := rans_len bs ls h
  rw [rtrim_id (tr_of len.1 (top_up h hl hb)), rtrim_id (tr_of len.2 (top_lo h hl hb)), len.2, Nat.add_sub_cancel]
  exact told_ans bs ls h hl hb
/-- what is told is a string -/
theorem told_good : ∀ (f : Nat) (p q : List Rat) (s : List Rat × List Rat), rtold f p q = some s → s.1.length = f + 1 ∧ s.2.length = f ∧ (∀ x ∈ s.1, 0 < x) ∧ ∀ x ∈ s.2, 0 < x
  | 0, p, q, s, h => by
    unfold rtold at h
    by_cases c : p.length = 1 ∧ q = [1] ∧ 0 < p.headD 0
    · rw [if_pos c] at h
      have := Option.some.inj h
      subst this
      refine ⟨rfl, rfl, fun x hx => ?_, fun x hx => ?_⟩
      · rw [List.mem_singleton] at hx
        rw [hx]; exact c.2.2
      · cases hx
    · rw [if_neg c] at h; cases h
  | f + 1, p, q, s, h => by
    unfold rtold at h
    generalize rtrim (radd p (rscale (-(p.getLastD 0 / q.getLastD 1)) q)) = r at h
    by_cases c1 : p.length ≠ f + 2 ∨ q.length ≠ f + 2
    · rw [if_pos c1] at h; cases h
    · rw [if_neg c1] at h
      by_cases c2 : p.getLastD 0 / q.getLastD 1 ≤ 0 ∨ r.length ≠ f + 1
      · rw [if_pos c2] at h; cases h
      · rw [if_neg c2] at h
        by_cases c3 : -(q.getLastD 0 / r.getLastD 1) ≤ 0
        · rw [if_pos c3] at h; cases h
        · rw [if_neg c3] at h
          obtain ⟨t, e1, e2⟩ := Option.map_eq_some_iff.mp h
          obtain ⟨i1, i2, i3, i4⟩ := told_good f _ _ t e1
          subst e2
          refine ⟨by rw [List.length_cons, i1], by rw [List.length_cons, i2], fun x hx => ?_, fun x hx => ?_⟩
          · rcases List.mem_cons.mp hx with z | z
            · rw [z]
              have : ¬ p.getLastD 0 / q.getLastD 1 ≤ 0 := fun y => c2 (.inl y)
              grind
            · exact i3 x z
          · rcases List.mem_cons.mp hx with z | z
            · rw [z]; grind
            · exact i4 x z
/-! ### means -/
def rmeans (q : List Rat) : Nat → List Rat → List Rat
  | 0, _ => []
  | f + 1, r => -(if r.length = q.length - 1 ∧ q.length - 1 ≠ 0 then r.getLastD 0 / q.getLastD 1 else 0) ::
      rmeans q f (rtrim (radd (if r = [] then [] else 0 :: r) (rscale (-(if r.length = q.length - 1 ∧ q.length - 1 ≠ 0 then r.getLastD 0 / q.getLastD 1 else 0)) q)))
theorem mulx_any (r : List Rat) : Sr73.mul (Sr73.pow 1) (fl r) = fl (if r = [] then [] else 0 :: r) := by
  by_cases h : r = []
  · rw [if_pos h, h]; exact mulx_nil
  · rw [if_neg h]; exact mulx_R h
theorem meansOn_R (q : List Rat) : ∀ (f : Nat) (r : List Rat), Sr74.meansOn (fl q) f (fl r) = fl (rmeans q f r)
  | 0, r => rfl
  | f + 1, r => by
    show neg (if (fl r).length = (fl q).length - 1 ∧ (fl q).length - 1 ≠ 0 then over ((fl r).getLastD zero) ((fl q).getLastD (whole 1)) else zero) :: Sr74.meansOn (fl q) f (trim (Sr73.add (Sr73.mul (Sr73.pow 1) (fl r)) (Sr73.scale (neg (if (fl r).length = (fl q).length - 1 ∧ (fl q).length - 1 ≠ 0 then over ((fl r).getLastD zero) ((fl q).getLastD (whole 1)) else zero)) (fl q)))) = _
    have e : (if (fl r).length = (fl q).length - 1 ∧ (fl q).length - 1 ≠ 0 then over ((fl r).getLastD zero) ((fl q).getLastD (whole 1)) else zero) = ofR (if r.length = q.length - 1 ∧ q.length - 1 ≠ 0 then r.getLastD 0 / q.getLastD 1 else 0) := by
      rw [fl_len, fl_len, show zero = ofR 0 from rfl, show whole 1 = ofR 1 from rfl, fl_last, fl_last, over_R]
      by_cases c : r.length = q.length - 1 ∧ q.length - 1 ≠ 0
      · rw [if_pos c, if_pos c]
      · rw [if_neg c, if_neg c]
    rw [e, mulx_any, neg_R, scale_R, add_R, trim_R, meansOn_R q f]
    rfl
theorem means_R (ls bs : List Rat) (k : Nat) : Sr74.means ⟨fl ls, fl bs⟩ k = fl (rmeans (rtrim (rans ls bs).2) k (rtrim (radd (rans ls bs).1 (rscale (-(ls.headD 0)) (rans ls bs).2)))) := by
  have hh : (fl ls).headD zero = ofR (ls.headD 0) := by cases ls <;> rfl
  show Sr74.meansOn (trim (Sr74.answerOn (fl ls) (fl bs)).2) k (trim (Sr73.add (Sr74.answerOn (fl ls) (fl bs)).1 (Sr73.scale (neg ((fl ls).headD zero)) (Sr74.answerOn (fl ls) (fl bs)).2))) = _
  rw [answer_R, hh, neg_R, scale_R, add_R, trim_R, trim_R, meansOn_R]
end BD
set_option linter.all false
namespace BD
open Sr58 (Frac frac plus times less whole total)
open Sr66 (minus over zero neg)
open Sr71 (Poly trim)
/-- fractions, number by number -/
def nums (l : List Rat) : List Int := l.flatMap fun r => [r.num, ((r.den : Nat) : Int)]
theorem nums_fl (l : List Rat) : (fl l).flatMap Sr66.fr = nums l := by
  unfold fl nums
  rw [List.flatMap_map]; rfl
theorem fl_app (p q : List Rat) : fl p ++ fl q = fl (p ++ q) := by unfold fl; rw [List.map_append]
theorem nums_app (p q : List Rat) : nums (p ++ q) = nums p ++ nums q := by unfold nums; rw [List.flatMap_append]
theorem frac_R (a : Int) {b : Int} (hb : 1 ≤ b) : frac a b.toNat = ofR ((a : Rat) / (b : Rat)) := by
  rw [frac_eq]
  congr 1
  rw [Rat.mkRat_eq_div]
  congr 1
  have : ((b.toNat : Nat) : Int) = b := by omega
  show (((b.toNat : Nat) : Int) : Rat) = _
  rw [this]
theorem fl_getD_R (p : List Rat) (k : Nat) : (fl p).getD k zero = ofR (p.getD k 0) := fl_getD p k
/-- a state that the specification's machine comes to -/
def stOf : Option (List Rat × List Rat) → Sr74.State := Option.map strOf
/-- an answer as the row tells it -/
def ansOf (a : Sr66.Ans) : List Int := a.num :: a.nums
theorem many_R (s : List Rat × List Rat) : Sr74.many (strOf s) = s.2.length := fl_len s.2
section
variable (ls bs : List Rat)
theorem do_begin (st : Option (List Rat × List Rat)) (n : Int) : Sr74.step (stOf st) (.begin_ n) = if n < 0 ∨ (4 : Int) < n then (stOf st, Sr74.say (-22)) else (stOf (some (List.replicate (n.toNat + 1) 1, List.replicate n.toNat 1)), Sr74.say n) := by
  show (if n < 0 ∨ (4 : Int) < n then _ else _) = _
  by_cases h : n < 0 ∨ (4 : Int) < n
  · rw [if_pos h, if_pos h]
  · rw [if_neg h, if_neg h]
    unfold stOf strOf fl
    rw [Option.map_some, List.map_replicate, List.map_replicate]; rfl
theorem do_none (c : Sr74.Call) (h : ∀ n, c ≠ .begin_ n) : Sr74.step (stOf none) c = (stOf none, Sr74.say (-11)) := by
  cases c <;> first | rfl | exact absurd rfl (h _)
theorem do_some (c : Sr74.Call) (s : List Rat × List Rat) (h : ∀ n, c ≠ .begin_ n) : Sr74.step (stOf (some s)) c = match Sr74.doing (strOf s) c with
      | (some r, a) => (some r, a)
      | (none, a) => (stOf (some s), a) := by
  cases c <;> first | rfl | exact absurd rfl (h _)
theorem do_gap (i a b : Int) : Sr74.doing (strOf (ls, bs)) (.gap i a b) = if i < 0 ∨ (bs.length : Int) < i then (none, Sr74.say (-2)) else if a < 1 ∨ 99 < a ∨ b < 1 ∨ 99 < b then (none, Sr74.say (-22)) else (some (strOf (ls.set i.toNat ((a : Rat) / (b : Rat)), bs)), ⟨0, nums [ls.getD i.toNat 0]⟩) := by
  show (if i < 0 ∨ (Sr74.many (strOf (ls, bs)) : Int) < i then _ else if _ then _ else (some (Sr74.Str.mk ((fl ls).set i.toNat (frac a b.toNat)) (fl bs)), Sr66.tell ((fl ls).getD i.toNat zero))) = _
  rw [many_R]
  by_cases c1 : i < 0 ∨ (bs.length : Int) < i
  · rw [if_pos c1, if_pos c1]
  · rw [if_neg c1, if_neg c1]
    by_cases c2 : a < 1 ∨ 99 < a ∨ b < 1 ∨ 99 < b
    · rw [if_pos c2, if_pos c2]
    · rw [if_neg c2, if_neg c2, frac_R a (by omega), fl_set, fl_getD_R]; rfl
theorem do_bead (i a b : Int) : Sr74.doing (strOf (ls, bs)) (.bead i a b) = if i < 0 ∨ (bs.length : Int) ≤ i then (none, Sr74.say (-2)) else if a < 1 ∨ 99 < a ∨ b < 1 ∨ 99 < b then (none, Sr74.say (-22)) else (some (strOf (ls, bs.set i.toNat ((a : Rat) / (b : Rat)))), ⟨0, nums [bs.getD i.toNat 0]⟩) := by
  show (if i < 0 ∨ (Sr74.many (strOf (ls, bs)) : Int) ≤ i then _ else if _ then _ else (some (Sr74.Str.mk (fl ls) ((fl bs).set i.toNat (frac a b.toNat))), Sr66.tell ((fl bs).getD i.toNat zero))) = _
  rw [many_R]
  by_cases c1 : i < 0 ∨ (bs.length : Int) ≤ i
  · rw [if_pos c1, if_pos c1]
  · rw [if_neg c1, if_neg c1]
    by_cases c2 : a < 1 ∨ 99 < a ∨ b < 1 ∨ 99 < b
    · rw [if_pos c2, if_pos c2]
    · rw [if_neg c2, if_neg c2, frac_R a (by omega), fl_set, fl_getD_R]; rfl
theorem tellStr_R (s : List Rat × List Rat) : Sr74.tellStr (strOf s) = ⟨(s.2.length : Int), nums (s.1 ++ s.2)⟩ := by
  unfold Sr74.tellStr
  rw [many_R]
  show Sr66.Ans.mk _ ((fl s.1 ++ fl s.2).flatMap Sr66.fr) = _
  rw [fl_app, nums_fl]
theorem do_string : Sr74.doing (strOf (ls, bs)) .string = (none, ⟨(bs.length : Int), nums (ls ++ bs)⟩) := by
  show (none, Sr74.tellStr (strOf (ls, bs))) = _
  rw [tellStr_R]
theorem ans_R : Sr74.answer (strOf (ls, bs)) = (fl (rans ls bs).1, fl (rans ls bs).2) := answer_R ls bs
theorem do_answer : Sr74.doing (strOf (ls, bs)) .answer = (none, ⟨(bs.length : Int), nums ((rans ls bs).1 ++ (rans ls bs).2)⟩) := by
  show (none, Sr66.Ans.mk (Sr74.many (strOf (ls, bs)) : Int) (((Sr74.answer (strOf (ls, bs))).1 ++ (Sr74.answer (strOf (ls, bs))).2).flatMap Sr66.fr)) = _
  rw [ans_R, many_R, fl_app, nums_fl]
theorem okF_iff (a b : Int) : Sr74.okF a b = true ↔ (-999 ≤ a ∧ a ≤ 999) ∧ 1 ≤ b ∧ b ≤ 999 := by
  show (decide (-999 ≤ a) && (decide (a ≤ 999) && (decide (1 ≤ b) && decide (b ≤ 999)))) = true ↔ _
  simp only [Bool.and_eq_true, decide_eq_true_eq]
  omega
theorem okF_not {a b : Int} (h : ¬ ((-999 ≤ a ∧ a ≤ 999) ∧ 1 ≤ b ∧ b ≤ 999)) : Sr74.okF a b = false := by
  cases e : Sr74.okF a b with
  | false => rfl
  | true => exact absurd ((okF_iff a b).mp e) h
theorem do_at_no {a b : Int} (h : ¬ ((-999 ≤ a ∧ a ≤ 999) ∧ 1 ≤ b ∧ b ≤ 999)) : Sr74.doing (strOf (ls, bs)) (.at_ a b) = (none, Sr74.say (-22)) := by
  show (none, if Sr74.okF a b = false then _ else _) = _
  rw [if_pos (okF_not h)]
theorem do_at {a b : Int} (h : (-999 ≤ a ∧ a ≤ 999) ∧ 1 ≤ b ∧ b ≤ 999) : Sr74.doing (strOf (ls, bs)) (.at_ a b) =
    (none, if ev ((a : Rat) / (b : Rat)) (rans ls bs).2 = 0 then ⟨0, []⟩ else ⟨1, nums [ev ((a : Rat) / (b : Rat)) (rans ls bs).1 / ev ((a : Rat) / (b : Rat)) (rans ls bs).2]⟩) := by
  show (none, if Sr74.okF a b = false then _ else Sr66.Ans.mk (Sr66.bit ((Sr71.valueAt (Sr74.answer (strOf (ls, bs))).2 (frac a b.toNat)).n != 0)) (if (Sr71.valueAt (Sr74.answer (strOf (ls, bs))).2 (frac a b.toNat)).n = 0 then [] else Sr66.fr (over (Sr71.valueAt (Sr74.answer (strOf (ls, bs))).1 (frac a b.toNat)) (Sr71.valueAt (Sr74.answer (strOf (ls, bs))).2 (frac a b.toNat))))) = _
  rw [if_neg (by rw [(okF_iff a b).mpr h]; decide), frac_R a h.2.1, ans_R, value_R, value_R, over_R]
  generalize (a : Rat) / (b : Rat) = x
  by_cases c : ev x (rans ls bs).2 = 0
  · rw [if_pos c, c]; rfl
  · have c2 : (ofR (ev x (rans ls bs).2)).n ≠ 0 := fun y => c (Rat.num_eq_zero.mp y)
    rw [if_neg c, if_neg c2, show ((ofR (ev x (rans ls bs).2)).n != 0) = true from bne_iff_ne.mpr c2]; rfl
theorem less_R {a b c d : Int} (hb : 1 ≤ b) (hd : 1 ≤ d) : (a : Rat) / (b : Rat) < (c : Rat) / (d : Rat) ↔ a * d < c * b := by
  have b0 : (0 : Rat) < (b : Rat) := by
    have : ((0 : Int) : Rat) < ((b : Int) : Rat) := Rat.intCast_lt_intCast.mpr (by omega)
    exact this
  have d0 : (0 : Rat) < (d : Rat) := by
    have : ((0 : Int) : Rat) < ((d : Int) : Rat) := Rat.intCast_lt_intCast.mpr (by omega)
    exact this
  have e : (a * d < c * b) ↔ ((a : Rat) * (d : Rat) < (c : Rat) * (b : Rat)) := by
    rw [← Rat.intCast_mul, ← Rat.intCast_mul, Rat.intCast_lt_intCast]
  rw [e]
  have bd := Rat.mul_pos b0 d0
  constructor
  · intro h
    have := Rat.mul_pos bd (show 0 < (c : Rat) / (d : Rat) - (a : Rat) / (b : Rat) by grind)
    have e2 : (b : Rat) * (d : Rat) * ((c : Rat) / (d : Rat) - (a : Rat) / (b : Rat)) = (c : Rat) * (b : Rat) - (a : Rat) * (d : Rat) := by grind
    rw [e2] at this
    grind
  · intro h
    have := div_pos (show 0 < (c : Rat) * (b : Rat) - (a : Rat) * (d : Rat) by grind) bd
    have e2 : ((c : Rat) * (b : Rat) - (a : Rat) * (d : Rat)) / ((b : Rat) * (d : Rat)) = (c : Rat) / (d : Rat) - (a : Rat) / (b : Rat) := by
      have i1 := one_inv b0
      have i2 := one_inv d0
      have i3 : 1 / ((b : Rat) * (d : Rat)) = (1 / (b : Rat)) * (1 / (d : Rat)) := by grind
      rw [div_as _ ((b : Rat) * (d : Rat)), i3, div_as _ (d : Rat), div_as _ (b : Rat)]
      generalize 1 / (b : Rat) = u at *
      generalize 1 / (d : Rat) = v at *
      grind
    rw [e2] at this
    grind
theorem do_rings_no {a b c d : Int} (h : ¬ (((-999 ≤ a ∧ a ≤ 999) ∧ 1 ≤ b ∧ b ≤ 999) ∧ ((-999 ≤ c ∧ c ≤ 999) ∧ 1 ≤ d ∧ d ≤ 999) ∧ a * d < c * b)) : Sr74.doing (strOf (ls, bs)) (.rings a b c d) = (none, Sr74.say (-22)) := by
  show (none, if Sr74.okF a b = false ∨ Sr74.okF c d = false ∨ c * b ≤ a * d then _ else _) = _
  rw [if_pos]
  by_cases h1 : (-999 ≤ a ∧ a ≤ 999) ∧ 1 ≤ b ∧ b ≤ 999
  · by_cases h2 : (-999 ≤ c ∧ c ≤ 999) ∧ 1 ≤ d ∧ d ≤ 999
    · right; right
      by_cases h3 : a * d < c * b
      · exact absurd ⟨h1, h2, h3⟩ h
      · omega
    · right; left; exact okF_not h2
  · left; exact okF_not h1
theorem do_rings {a b c d : Int} (h1 : (-999 ≤ a ∧ a ≤ 999) ∧ 1 ≤ b ∧ b ≤ 999) (h2 : (-999 ≤ c ∧ c ≤ 999) ∧ 1 ≤ d ∧ d ≤ 999) (h3 : a * d < c * b) : Sr74.doing (strOf (ls, bs)) (.rings a b c d) =
    (none, ⟨(Sr71.between (fl (rans ls bs).2) (ofR ((a : Rat) / (b : Rat))) (ofR ((c : Rat) / (d : Rat))) : Int), [(Sr71.between (fl (rans ls bs).1) (ofR ((a : Rat) / (b : Rat))) (ofR ((c : Rat) / (d : Rat))) : Int)]⟩) := by
  show (none, if Sr74.okF a b = false ∨ Sr74.okF c d = false ∨ c * b ≤ a * d then _ else Sr66.Ans.mk (Sr71.between (Sr74.answer (strOf (ls, bs))).2 (frac a b.toNat) (frac c d.toNat) : Int) [(Sr71.between (Sr74.answer (strOf (ls, bs))).1 (frac a b.toNat) (frac c d.toNat) : Int)]) = _
  rw [if_neg, ans_R, frac_R a h1.2.1, frac_R c h2.2.1]
  intro y
  rcases y with y | y | y
  · rw [(okF_iff a b).mpr h1] at y; cases y
  · rw [(okF_iff c d).mpr h2] at y; cases y
  · omega
theorem do_all : Sr74.doing (strOf (ls, bs)) .all = (none, ⟨(Sr71.rootsAbove (fl (rans ls bs).2) : Int), [(Sr71.rootsAbove (fl (rans ls bs).1) : Int), (Sr71.roots (fl (rans ls bs).2) : Int), (Sr71.roots (fl (rans ls bs).1) : Int)]⟩) := by
  show (none, Sr66.Ans.mk (Sr71.rootsAbove (Sr74.answer (strOf (ls, bs))).2 : Int) [(Sr71.rootsAbove (Sr74.answer (strOf (ls, bs))).1 : Int), (Sr71.roots (Sr74.answer (strOf (ls, bs))).2 : Int), (Sr71.roots (Sr74.answer (strOf (ls, bs))).1 : Int)]) = _
  rw [ans_R]
/-- a row of numbers, each by e -/
def byE (e : Int) (p : List Int) : List Rat := p.map fun (x : Int) => (x : Rat) / (e : Rat)
theorem byE_R {e : Int} (he : 1 ≤ e) (p : List Int) : (p.map fun x => frac x e.toNat) = fl (byE e p) := by
  unfold fl byE
  rw [List.map_map]
  exact List.map_congr_left fun x _ => frac_R x he
theorem okPoly_iff (p : List Int) : Sr74.okPoly p = true ↔ 1 ≤ p.length ∧ p.length ≤ 5 := by
  show (decide (1 ≤ p.length) && decide (p.length ≤ 4 + 1)) = true ↔ _
  simp only [Bool.and_eq_true, decide_eq_true_eq]
theorem okPoly_not {p : List Int} (h : ¬ (1 ≤ p.length ∧ p.length ≤ 5)) : Sr74.okPoly p = false := by
  cases e : Sr74.okPoly p with
  | false => rfl
  | true => exact absurd ((okPoly_iff p).mp e) h
def okRows (e : Int) (p q : List Int) : Prop := 1 ≤ e ∧ (1 ≤ p.length ∧ p.length ≤ 5) ∧ 1 ≤ q.length ∧ q.length ≤ 5
theorem toldBy_no {e : Int} {p q : List Int} (h : ¬ okRows e p q) : Sr74.toldBy e p q = none := by
  unfold Sr74.toldBy
  rw [if_pos]
  by_cases h1 : 1 ≤ e
  · by_cases h2 : 1 ≤ p.length ∧ p.length ≤ 5
    · by_cases h3 : 1 ≤ q.length ∧ q.length ≤ 5
      · exact absurd ⟨h1, h2, h3⟩ h
      · right; right; exact okPoly_not h3
    · right; left; exact okPoly_not h2
  · left; omega
theorem toldBy_R {e : Int} {p q : List Int} (h : okRows e p q) : Sr74.toldBy e p q = some ((rtoldAll (byE e p) (byE e q)).map strOf) := by
  unfold Sr74.toldBy
  rw [if_neg, byE_R h.1, byE_R h.1, told_R]
  intro y
  rcases y with y | y | y
  · have := h.1; omega
  · rw [(okPoly_iff p).mpr h.2.1] at y; cases y
  · rw [(okPoly_iff q).mpr h.2.2] at y; cases y
theorem do_told_no {e : Int} {p q : List Int} (h : ¬ okRows e p q) : Sr74.doing (strOf (ls, bs)) (.told e p q) = (none, Sr74.say (-22)) := by
  show (none, match Sr74.toldBy e p q with | none => _ | some none => _ | some (some r) => _) = _
  rw [toldBy_no h]
theorem do_told {e : Int} {p q : List Int} (h : okRows e p q) : Sr74.doing (strOf (ls, bs)) (.told e p q) = (none, match rtoldAll (byE e p) (byE e q) with
      | none => Sr74.say (-33)
      | some s => ⟨(s.2.length : Int), nums (s.1 ++ s.2)⟩) := by
  show (none, match Sr74.toldBy e p q with | none => Sr74.say (-22) | some none => Sr74.say (-33) | some (some r) => Sr74.tellStr r) = _
  rw [toldBy_R h]
  cases rtoldAll (byE e p) (byE e q) with
  | none => rfl
  | some s =>
    show (none, Sr74.tellStr (strOf s)) = _
    rw [tellStr_R]
def rsmall (s : List Rat × List Rat) : Prop := ∀ x ∈ s.1 ++ s.2, x.num.natAbs < 10 ^ 60 ∧ x.den < 10 ^ 60
theorem small_R (s : List Rat × List Rat) : Sr74.small (strOf s) = true ↔ rsmall s := by
  unfold Sr74.small rsmall
  show ((fl s.1 ++ fl s.2).all _) = true ↔ _
  rw [fl_app, List.all_eq_true]
  unfold fl
  constructor
  · intro h x hx
    have := h (ofR x) (List.mem_map.mpr ⟨x, hx, rfl⟩)
    rw [Bool.and_eq_true, decide_eq_true_eq, decide_eq_true_eq] at this
    exact this
  · intro h y hy
    obtain ⟨x, hx, rfl⟩ := List.mem_map.mp hy
    rw [Bool.and_eq_true, decide_eq_true_eq, decide_eq_true_eq]
    exact h x hx
theorem do_take_no {e : Int} {p q : List Int} (h : ¬ okRows e p q) : Sr74.doing (strOf (ls, bs)) (.take e p q) = (none, Sr74.say (-22)) := by
  show (match Sr74.toldBy e p q with | none => _ | some none => _ | some (some r) => _) = _
  rw [toldBy_no h]
theorem do_take_none {e : Int} {p q : List Int} (h : okRows e p q) (hn : rtoldAll (byE e p) (byE e q) = none) : Sr74.doing (strOf (ls, bs)) (.take e p q) = (none, Sr74.say (-33)) := by
  show (match Sr74.toldBy e p q with | none => _ | some none => _ | some (some r) => _) = _
  rw [toldBy_R h, hn]; rfl
theorem do_take_big {e : Int} {p q : List Int} (h : okRows e p q) {s : List Rat × List Rat} (hn : rtoldAll (byE e p) (byE e q) = some s) (hs : ¬ rsmall s) : Sr74.doing (strOf (ls, bs)) (.take e p q) = (none, Sr74.say (-75)) := by
  show (match Sr74.toldBy e p q with | none => (none, Sr74.say (-22)) | some none => (none, Sr74.say (-33)) | some (some r) => if Sr74.small r = false then (none, Sr74.say (-75)) else (some r, Sr74.say (Sr74.many r : Nat))) = _
  rw [toldBy_R h, hn]
  show (if Sr74.small (strOf s) = false then _ else _) = _
  rw [if_pos]
  cases y : Sr74.small (strOf s) with
  | false => rfl
  | true => exact absurd ((small_R s).mp y) hs
theorem do_take {e : Int} {p q : List Int} (h : okRows e p q) {s : List Rat × List Rat} (hn : rtoldAll (byE e p) (byE e q) = some s) (hs : rsmall s) : Sr74.doing (strOf (ls, bs)) (.take e p q) = (some (strOf s), Sr74.say (s.2.length : Nat)) := by
  show (match Sr74.toldBy e p q with | none => (none, Sr74.say (-22)) | some none => (none, Sr74.say (-33)) | some (some r) => if Sr74.small r = false then (none, Sr74.say (-75)) else (some r, Sr74.say (Sr74.many r : Nat))) = _
  rw [toldBy_R h, hn]
  show (if Sr74.small (strOf s) = false then _ else (some (strOf s), Sr74.say (Sr74.many (strOf s) : Nat))) = _
  rw [if_neg (by rw [(small_R s).mpr hs]; decide), many_R]
theorem do_found (h : ls.length = bs.length + 1) (hl : ∀ x ∈ ls, 0 < x) (hb : ∀ x ∈ bs, 0 < x) : Sr74.doing (strOf (ls, bs)) .found = (none, ⟨(bs.length : Int), nums (ls ++ bs)⟩) := by
  show (none, match Sr74.told (Sr74.answer (strOf (ls, bs))).1 (Sr74.answer (strOf (ls, bs))).2 with | none => _ | some r => Sr74.tellStr r) = _
  rw [ans_R, told_R, told_str h hl hb]
  show (none, Sr74.tellStr (strOf (ls, bs))) = _
  rw [tellStr_R]
theorem do_turn : Sr74.doing (strOf (ls, bs)) .turn = (some (strOf (ls.reverse, bs.reverse)), Sr74.say 0) := by
  show (some (Sr74.Str.mk (fl ls).reverse (fl bs).reverse), _) = _
  unfold strOf fl
  rw [← List.map_reverse, ← List.map_reverse]
def rjoin (k : Nat) : List Rat × List Rat := ((ls.set k (ls.getD k 0 + ls.getD (k + 1) 0)).eraseIdx (k + 1), bs.eraseIdx k)
theorem fl_erase : ∀ (p : List Rat) (k : Nat), (fl p).eraseIdx k = fl (p.eraseIdx k)
  | [], _ => rfl
  | _ :: _, 0 => rfl
  | x :: p, k + 1 => congrArg (ofR x :: ·) (fl_erase p k)
theorem do_join (i : Int) : Sr74.doing (strOf (ls, bs)) (.join i) = if i < 0 ∨ (bs.length : Int) ≤ i then (none, Sr74.say (-2)) else if bs.length ≤ 1 then (none, Sr74.say (-33)) else (some (strOf (rjoin ls bs i.toNat)), ⟨0, nums [bs.getD i.toNat 0]⟩) := by
  show (if i < 0 ∨ (Sr74.many (strOf (ls, bs)) : Int) ≤ i then _ else if Sr74.many (strOf (ls, bs)) ≤ 1 then _ else (some (Sr74.Str.mk (((fl ls).set i.toNat (plus ((fl ls).getD i.toNat zero) ((fl ls).getD (i.toNat + 1) zero))).eraseIdx (i.toNat + 1)) ((fl bs).eraseIdx i.toNat)), Sr66.tell ((fl bs).getD i.toNat zero))) = _
  rw [many_R, fl_getD_R, fl_getD_R, fl_getD_R, plus_R, fl_set, fl_erase, fl_erase]
  rfl
theorem do_means_no {k : Int} (h : ¬ (1 ≤ k ∧ k ≤ 12)) : Sr74.doing (strOf (ls, bs)) (.means k) = (none, Sr74.say (-22)) := by
  show (none, if k < 1 ∨ 12 < k then _ else _) = _
  rw [if_pos (by omega)]
def rmeansOf (k : Nat) : List Rat := rmeans (rtrim (rans ls bs).2) k (rtrim (radd (rans ls bs).1 (rscale (-(ls.headD 0)) (rans ls bs).2)))
theorem rmeans_len (q : List Rat) : ∀ (f : Nat) (r : List Rat), (rmeans q f r).length = f
  | 0, _ => rfl
  | f + 1, r => by
    show (rmeans q f _).length + 1 = f + 1
    rw [rmeans_len q f]
theorem do_means {k : Int} (h : 1 ≤ k ∧ k ≤ 12) : Sr74.doing (strOf (ls, bs)) (.means k) = (none, ⟨k, nums (rmeansOf ls bs k.toNat)⟩) := by
  show (none, if k < 1 ∨ 12 < k then _ else Sr66.tells (Sr74.means ⟨fl ls, fl bs⟩ k.toNat)) = _
  rw [if_neg (by omega), means_R]
  unfold Sr66.tells
  rw [nums_fl, fl_len, rmeans_len, show ((k.toNat : Nat) : Int) = k by omega]; rfl
theorem do_long : Sr74.doing (strOf (ls, bs)) .long = (none, ⟨0, nums [ls.foldl (· + ·) 0, bs.foldl (· + ·) 0]⟩) := by
  show (none, Sr66.Ans.mk 0 (Sr66.fr (total (fl ls)) ++ Sr66.fr (total (fl bs)))) = _
  unfold fl
  rw [total_R, total_R]; rfl
end
end BD
set_option linter.all false
namespace BD
/-- rows as they stand in the list: each with how many numbers it has ahead -/
def rowsEnc (xs : List (List Int)) : List Int := xs.flatMap fun u => (u.length : Int) :: u
theorem rowsEnc_cons (u : List Int) (xs : List (List Int)) : rowsEnc (u :: xs) = (u.length : Int) :: (u ++ rowsEnc xs) := rfl
theorem row_inv {r x t : List Int} (h : PyFlat.row r = some (x, t)) : r = (x.length : Int) :: (x ++ t) := by
  cases r with
  | nil => cases h
  | cons n r =>
    replace h : (if 0 ≤ n ∧ n.toNat ≤ r.length then some (r.take n.toNat, r.drop n.toNat) else none) = some (x, t) := h
    by_cases c : 0 ≤ n ∧ n.toNat ≤ r.length
    · rw [if_pos c] at h
      have e := Option.some.inj h
      have e1 : r.take n.toNat = x := congrArg Prod.fst e
      have e2 : r.drop n.toNat = t := congrArg Prod.snd e
      have hl : x.length = n.toNat := by rw [← e1, List.length_take]; omega
      rw [hl, ← e1, ← e2, List.take_append_drop]
      congr 1
      omega
    · rw [if_neg c] at h; cases h
theorem rows_inv : ∀ {k : Nat} {r t : List Int} {xs : List (List Int)}, PyFlat.rows k r = some (xs, t) → r = rowsEnc xs ++ t ∧ xs.length = k
  | 0, r, t, xs, h => by
    have e := Option.some.inj h
    have e1 : [] = xs := congrArg Prod.fst e
    have e2 : r = t := congrArg Prod.snd e
    subst e1 e2
    exact ⟨rfl, rfl⟩
  | k + 1, r, t, xs, h => by
    unfold PyFlat.rows at h
    cases h1 : PyFlat.row r with
    | none => rw [h1] at h; cases h
    | some y =>
      obtain ⟨x, s⟩ := y
      rw [h1] at h
      simp only [] at h
      cases h2 : PyFlat.rows k s with
      | none => rw [h2] at h; cases h
      | some y2 =>
        obtain ⟨ys, t'⟩ := y2
        rw [h2] at h
        have e := Option.some.inj h
        have e1 : x :: ys = xs := congrArg Prod.fst e
        have e2 : t' = t := congrArg Prod.snd e
        subst e1 e2
        obtain ⟨g1, g2⟩ := rows_inv h2
        refine ⟨?_, by rw [List.length_cons, g2]⟩
        rw [row_inv h1, g1, rowsEnc_cons, List.cons_append, List.append_assoc]
theorem call_inv {sh : Int → Option (Nat × Nat)} {p : Int} {r t : List Int} {c : List (List Int)} (h : PyFlat.call sh (p :: r) = some (c, t)) :
    ∃ args xs, c = (p :: args) :: xs ∧ r = args ++ (rowsEnc xs ++ t) ∧ sh p = some (args.length, xs.length) := by
  unfold PyFlat.call at h
  simp only [] at h
  cases h1 : sh p with
  | none => rw [h1] at h; cases h
  | some y =>
    obtain ⟨n, k⟩ := y
    rw [h1] at h
    simp only [] at h
    by_cases c1 : r.length < n
    · rw [if_pos c1] at h; cases h
    · rw [if_neg c1] at h
      cases h2 : PyFlat.rows k (r.drop n) with
      | none => rw [h2] at h; cases h
      | some y2 =>
        obtain ⟨xs, t'⟩ := y2
        rw [h2] at h
        have e := Option.some.inj h
        have e1 : (p :: r.take n) :: xs = c := congrArg Prod.fst e
        have e2 : t' = t := congrArg Prod.snd e
        subst e1 e2
        obtain ⟨g1, g2⟩ := rows_inv h2
        refine ⟨r.take n, xs, rfl, ?_, ?_⟩
        · rw [← g1, List.take_append_drop]
        · rw [List.length_take, g2, Nat.min_eq_left (by omega)]
theorem calls_inv {sh : Int → Option (Nat × Nat)} {f : Nat} {p : Int} {r : List Int} {cs : List (List (List Int))} (h : PyFlat.calls sh f (p :: r) = some cs) :
    ∃ args xs t cs' f', cs = ((p :: args) :: xs) :: cs' ∧ r = args ++ (rowsEnc xs ++ t) ∧ sh p = some (args.length, xs.length) ∧ PyFlat.calls sh f' t = some cs' := by
  cases f with
  | zero => cases h
  | succ f =>
    unfold PyFlat.calls at h
    cases h1 : PyFlat.call sh (p :: r) with
    | none => rw [h1] at h; cases h
    | some y =>
      obtain ⟨c, t⟩ := y
      rw [h1] at h
      simp only [] at h
      cases h2 : PyFlat.calls sh f t with
      | none => rw [h2] at h; cases h
      | some cs' =>
        rw [h2] at h
        have e := Option.some.inj h
        subst e
        obtain ⟨args, xs, g1, g2, g3⟩ := call_inv h1
        subst g1
        exact ⟨args, xs, t, cs', f, rfl, g2, g3, h2⟩
theorem calls_nil {sh : Int → Option (Nat × Nat)} {f : Nat} {cs : List (List (List Int))} (h : PyFlat.calls sh f [] = some cs) : cs = [] := by
  cases f <;> exact (Option.some.inj h).symm
theorem whole_id (c : List (List Int)) : PySr74.whole c = c := by
  unfold PySr74.whole
  split <;> rfl
theorem map_whole (cs : List (List (List Int))) : cs.map PySr74.whole = cs := by
  rw [show PySr74.whole = id from funext whole_id, List.map_id]
/-- what is known of a request -/
theorem asked_inv {l : List Int} (h : PySr74.answers_asked l = true) : ∃ cs, PyFlat.calls PySr74.shape l.length l = some cs ∧ cs.length ≤ 60 ∧ (∀ c ∈ cs, Sr74Neutral.asked1 c = true) ∧ PySr74.answers l = PyFlat.told (PyFlat.played Sr74Neutral.step Sr74Neutral.start cs) := by
  unfold PySr74.answers_asked at h
  cases e : PyFlat.calls PySr74.shape l.length l with
  | none => rw [e] at h; cases h
  | some cs =>
    rw [e] at h
    simp only [Bool.and_eq_true] at h
    obtain ⟨⟨⟨⟨h1, h2⟩, h3⟩, h4⟩, h5⟩ := h
    rw [map_whole] at h4
    unfold Sr74Neutral.asked at h4
    simp only [Bool.and_eq_true] at h4
    refine ⟨cs, rfl, of_decide_eq_true h2, fun c hc => List.all_eq_true.mp h4.2.2 c hc, ?_⟩
    unfold PySr74.answers PySr74.calls
    rw [e]
    show PyFlat.told (PyFlat.played _ _ (cs.map PySr74.whole)) = _
    rw [map_whole]
/-! ### one call more -/
theorem told_cons (a : List Int) (l : List (List Int)) : PyFlat.told (a :: l) = (a.length : Int) :: (a ++ PyFlat.told l) := rfl
theorem played_cons (s : Sr74.State) (c : List (List Int)) (cs : List (List (List Int))) {x : Sr74.Call} (h : Sr74Neutral.callOf c = some x) :
    PyFlat.told (PyFlat.played Sr74Neutral.step s (c :: cs)) = ((ansOf (Sr74.step s x).2).length : Int) :: (ansOf (Sr74.step s x).2 ++ PyFlat.told (PyFlat.played Sr74Neutral.step (Sr74.step s x).1 cs)) := by
  have e : Sr74Neutral.step s c = ((Sr74.step s x).1, ansOf (Sr74.step s x).2) := by
    unfold Sr74Neutral.step
    rw [h]; rfl
  show PyFlat.told ((Sr74Neutral.step s c).2 :: PyFlat.played Sr74Neutral.step (Sr74Neutral.step s c).1 cs) = _
  rw [told_cons, e]
/-- a number that is let -/
def Inn (z : Int) : Prop := -2147483648 ≤ z ∧ z ≤ 2147483647
theorem wholes_inn {l : List Int} (h : Sr74Neutral.wholes l = true) : ∀ z ∈ l, Inn z := fun z hz => by
  have := List.all_eq_true.mp h z hz
  unfold Sr74Neutral.whole at this
  rw [Bool.and_eq_true, decide_eq_true_eq, decide_eq_true_eq] at this
  exact ⟨this.1, by omega⟩
/-- the fifteen calls -/
inductive Kind : Int → List Int → List (List Int) → Sr74.Call → Prop
  | begin_ (n : Int) : Kind 0 [n] [] (.begin_ n)
  | gap (i a b : Int) : Kind 1 [i, a, b] [] (.gap i a b)
  | bead (i a b : Int) : Kind 2 [i, a, b] [] (.bead i a b)
  | string : Kind 3 [] [] .string
  | answer : Kind 4 [] [] .answer
  | at_ (a b : Int) : Kind 5 [a, b] [] (.at_ a b)
  | rings (a b c d : Int) : Kind 6 [a, b, c, d] [] (.rings a b c d)
  | all : Kind 7 [] [] .all
  | told (e : Int) (p q : List Int) : Inn e → (∀ z ∈ p, Inn z) → p.length ≤ 70 → (∀ z ∈ q, Inn z) → q.length ≤ 70 → Kind 8 [e] [p, q] (.told e p q)
  | take (e : Int) (p q : List Int) : Inn e → (∀ z ∈ p, Inn z) → p.length ≤ 70 → (∀ z ∈ q, Inn z) → q.length ≤ 70 → Kind 9 [e] [p, q] (.take e p q)
  | found : Kind 10 [] [] .found
  | turn : Kind 11 [] [] .turn
  | join (i : Int) : Kind 12 [i] [] (.join i)
  | means (k : Int) : Kind 13 [k] [] (.means k)
  | long : Kind 14 [] [] .long
theorem kind_of {p : Int} {args : List Int} {xs : List (List Int)} (h : Sr74Neutral.asked1 ((p :: args) :: xs) = true) : ∃ x, Kind p args xs x ∧ Sr74Neutral.callOf ((p :: args) :: xs) = some x := by
  unfold Sr74Neutral.asked1 at h
  split at h
  case h_9 a r s e =>
    cases e
    simp only [Bool.and_eq_true] at h
    obtain ⟨⟨h1, h2⟩, h3⟩ := h
    unfold Sr74Neutral.row at h2 h3
    rw [Bool.and_eq_true, decide_eq_true_eq] at h2 h3
    exact ⟨_, .told a r s (wholes_inn h1 a (by simp)) (wholes_inn h2.1) h2.2 (wholes_inn h3.1) h3.2, rfl⟩
  case h_10 a r s e =>
    cases e
    simp only [Bool.and_eq_true] at h
    obtain ⟨⟨h1, h2⟩, h3⟩ := h
    unfold Sr74Neutral.row at h2 h3
    rw [Bool.and_eq_true, decide_eq_true_eq] at h2 h3
    exact ⟨_, .take a r s (wholes_inn h1 a (by simp)) (wholes_inn h2.1) h2.2 (wholes_inn h3.1) h3.2, rfl⟩
  all_goals (rename_i e; first | (cases e; exact ⟨_, by constructor, rfl⟩) | cases h)
end BD
set_option linter.all false
namespace BD
/-! ### a string peeled off, gap by gap and bead by bead -/
theorem tr_trim : ∀ (n : Nat) (p : List Rat), p.length = n → Tr (rtrim p)
  | 0, p, h => by
    rw [List.length_eq_zero_iff.mp h]
    exact .inl rfl
  | n + 1, p, h => by
    have hp : p ≠ [] := fun z => by subst z; simp at h
    obtain ⟨p', x, rfl⟩ : ∃ p' x, p = p' ++ [x] := ⟨p.dropLast, p.getLast hp, (List.dropLast_concat_getLast hp).symm⟩
    have h' : p'.length = n := by simpa using h
    rw [rtrim_snoc]
    by_cases c : x = 0
    · rw [if_pos c]
      exact tr_trim n p' h'
    · rw [if_neg c]
      right
      rw [List.length_append]
      show cf (p' ++ [x]) (p'.length + 1 - 1) ≠ 0
      unfold cf
      rw [List.getD_eq_getElem?_getD, Nat.add_sub_cancel, List.getElem?_concat_length]
      exact c
theorem tr_rtrim (p : List Rat) : Tr (rtrim p) := tr_trim _ p rfl
theorem cf_rtrim (p : List Rat) (i : Nat) : cf (rtrim p) i = cf p i := (rtrim_len _ p rfl).2 i
theorem rtrim_le (p : List Rat) : (rtrim p).length ≤ p.length := (rtrim_len _ p rfl).1
/-- cut off by its factors alone -/
theorem rtrim_congr {p q : List Rat} (h : ∀ i, cf p i = cf q i) : rtrim p = rtrim q := by
  refine trim_is (tr_rtrim q) ?_ fun i => by rw [cf_rtrim]; exact h i
  rcases tr_rtrim q with z | z
  · rw [z]; exact Nat.zero_le _
  · rw [cf_rtrim, ← h] at z
    by_cases c : (rtrim q).length ≤ p.length
    · exact c
    · exact absurd (cf_low (by omega)) z
/-- a factor of 0 at the top is cut off -/
theorem rtrim_below {p : List Rat} {n : Nat} (h : ∀ i, n ≤ i → cf p i = 0) : (rtrim p).length ≤ n := by
  rcases tr_rtrim p with z | z
  · rw [z]; exact Nat.zero_le _
  · rw [cf_rtrim] at z
    by_cases c : (rtrim p).length ≤ n
    · exact c
    · exact absurd (h _ (by omega)) z
def rgap (p q : List Rat) : Rat := cf p (p.length - 1) / cf q (q.length - 1)
def rless (p q : List Rat) (l : Rat) : List Rat := rtrim (radd p (rscale (-l) q))
def rbead (q r : List Rat) : Rat := -(cf q (q.length - 1) / cf r (r.length - 1))
def rmore (r q : List Rat) (b : Rat) : List Rat := rtrim (radd q (rscale b (0 :: r)))
def rnx (p q : List Rat) : List Rat := rless p q (rgap p q)
def rny (p q : List Rat) : List Rat := rmore (rnx p q) q (rbead q (rnx p q))
def rpeel : Nat → List Rat → List Rat → Option (List Rat × List Rat)
  | 0, p, q => if p.length = 1 ∧ q.length = 1 then some ([rgap p q], []) else none
  | f + 1, p, q => if p.length ≠ f + 2 ∨ q.length ≠ f + 2 then none else
    if (rnx p q).length ≠ f + 1 then none else
    (rpeel f (rnx p q) (rny p q)).map fun s => (rgap p q :: s.1, rbead q (rnx p q) :: s.2)
def AllPos (s : List Rat × List Rat) : Prop := ∀ x ∈ s.1 ++ s.2, 0 < x
instance (s : List Rat × List Rat) : Decidable (AllPos s) := by unfold AllPos; infer_instance
def posOnly (o : Option (List Rat × List Rat)) : Option (List Rat × List Rat) := match o with
  | none => none
  | some s => if AllPos s then some s else none
theorem cf0_more (r q : List Rat) (b : Rat) : cf (rmore r q b) 0 = cf q 0 := by
  unfold rmore
  rw [cf_rtrim, cf_radd, cf_rscale, cf_0]
  show cf q 0 + b * 0 = cf q 0
  grind
theorem last_ne {p : List Rat} {n : Nat} (h : p.length = n + 1) (d : Rat) : p.getLastD d = cf p (p.length - 1) := lastD_cf p (fun z => by subst z; simp at h) d
theorem allPos_cons {l b : Rat} {s : List Rat × List Rat} : AllPos (l :: s.1, b :: s.2) ↔ 0 < l ∧ 0 < b ∧ AllPos s := by
  unfold AllPos
  constructor
  · intro h
    refine ⟨h l (by simp), h b (by simp), fun x hx => h x ?_⟩
    rcases List.mem_append.mp hx with y | y
    · exact List.mem_append.mpr (.inl (List.mem_cons_of_mem _ y))
    · exact List.mem_append.mpr (.inr (List.mem_cons_of_mem _ y))
  · rintro ⟨h1, h2, h3⟩ x hx
    rcases List.mem_append.mp hx with y | y
    · rcases List.mem_cons.mp y with z | z
      · rw [z]; exact h1
      · exact h3 x (List.mem_append.mpr (.inl z))
    · rcases List.mem_cons.mp y with z | z
      · rw [z]; exact h2
      · exact h3 x (List.mem_append.mpr (.inr z))
theorem told_peel : ∀ (f : Nat) (p q : List Rat), cf q 0 = 1 → rtold f p q = posOnly (rpeel f p q)
  | 0, p, q, h => by
    unfold rtold rpeel
    by_cases c : p.length = 1 ∧ q.length = 1
    · obtain ⟨x, rfl⟩ := List.length_eq_one_iff.mp c.1
      obtain ⟨y, rfl⟩ := List.length_eq_one_iff.mp c.2
      have hy : y = 1 := h
      subst hy
      rw [if_pos c]
      have e : rgap [x] [1] = x := by
        show x / 1 = x
        grind
      show _ = (if AllPos ([rgap [x] [1]], []) then some ([rgap [x] [1]], []) else none)
      rw [e]
      by_cases c2 : 0 < x
      · have a : AllPos ([x], []) := fun z hz => by
          have : z = x := by simpa using hz
          rw [this]; exact c2
        rw [if_pos a, if_pos ⟨rfl, rfl, c2⟩]; rfl
      · have a : ¬ AllPos ([x], []) := fun y => c2 (y x (by simp))
        rw [if_neg a, if_neg (fun y => c2 y.2.2)]
    · rw [if_neg c, if_neg]
      · rfl
      · intro y
        refine c ⟨y.1, ?_⟩
        rw [y.2.1]; rfl
  | f + 1, p, q, h => by
    unfold rtold rpeel
    by_cases c1 : p.length ≠ f + 2 ∨ q.length ≠ f + 2
    · rw [if_pos c1, if_pos c1]; rfl
    · rw [if_neg c1, if_neg c1]
      have lp : p.length = f + 2 := by omega
      have lq : q.length = f + 2 := by omega
      rw [last_ne lp, last_ne lq, last_ne lq]
      show (if rgap p q ≤ 0 ∨ (rnx p q).length ≠ f + 1 then none else if -(cf q (q.length - 1) / (rnx p q).getLastD 1) ≤ 0 then none else
        (rtold f (rnx p q) (rtrim (radd q (rscale (-(cf q (q.length - 1) / (rnx p q).getLastD 1)) (0 :: rnx p q))))).map fun s => (rgap p q :: s.1, -(cf q (q.length - 1) / (rnx p q).getLastD 1) :: s.2)) = _
      by_cases c2 : (rnx p q).length ≠ f + 1
      · rw [if_pos (.inr c2), if_pos c2]; rfl
      · have lr : (rnx p q).length = f + 1 := by omega
        rw [if_neg c2, last_ne lr]
        show (if rgap p q ≤ 0 ∨ (rnx p q).length ≠ f + 1 then none else if rbead q (rnx p q) ≤ 0 then none else (rtold f (rnx p q) (rny p q)).map fun s => (rgap p q :: s.1, rbead q (rnx p q) :: s.2)) = _
        rw [told_peel f (rnx p q) (rny p q) (by unfold rny; rw [cf0_more]; exact h)]
        generalize rpeel f (rnx p q) (rny p q) = o
        generalize rgap p q = l
        generalize rbead q (rnx p q) = b
        cases o with
        | none =>
          show (if _ then none else if _ then none else none) = none
          split
          · rfl
          · split <;> rfl
        | some s =>
          show (if l ≤ 0 ∨ _ then none else if b ≤ 0 then none else (if AllPos s then some s else none).map _) = if AllPos (l :: s.1, b :: s.2) then some (l :: s.1, b :: s.2) else none
          by_cases h1 : l ≤ 0
          · rw [if_pos (.inl h1), if_neg (fun y => by have := (allPos_cons.mp y).1; grind)]
          · rw [if_neg (by rintro (y | y); exact h1 y; exact c2 y)]
            by_cases h2 : b ≤ 0
            · rw [if_pos h2, if_neg (fun y => by have := (allPos_cons.mp y).2.1; grind)]
            · rw [if_neg h2]
              by_cases h3 : AllPos s
              · rw [if_pos h3, if_pos (allPos_cons.mpr ⟨by grind, by grind, h3⟩)]; rfl
              · rw [if_neg h3, if_neg (fun y => h3 (allPos_cons.mp y).2.2)]; rfl
theorem told_cf0 : ∀ (f : Nat) (p q : List Rat) (s : List Rat × List Rat), rtold f p q = some s → cf q 0 = 1
  | 0, p, q, s, h => by
    unfold rtold at h
    by_cases c : p.length = 1 ∧ q = [1] ∧ 0 < p.headD 0
    · rw [c.2.1]; rfl
    · rw [if_neg c] at h; cases h
  | f + 1, p, q, s, h => by
    unfold rtold at h
    generalize rtrim (radd p (rscale (-(p.getLastD 0 / q.getLastD 1)) q)) = r at h
    by_cases c1 : p.length ≠ f + 2 ∨ q.length ≠ f + 2
    · rw [if_pos c1] at h; cases h
    · rw [if_neg c1] at h
      by_cases c2 : p.getLastD 0 / q.getLastD 1 ≤ 0 ∨ r.length ≠ f + 1
      · rw [if_pos c2] at h; cases h
      · rw [if_neg c2] at h
        by_cases c3 : -(q.getLastD 0 / r.getLastD 1) ≤ 0
        · rw [if_pos c3] at h; cases h
        · rw [if_neg c3] at h
          obtain ⟨t, e1, e2⟩ := Option.map_eq_some_iff.mp h
          have := told_cf0 f _ _ t e1
          rw [← this]
          exact (cf0_more r q _).symm
/-- what find_parts answers -/
theorem toldAll_no {p q : List Rat} (h : cf (rtrim q) 0 ≠ 1) : rtoldAll p q = none := by
  unfold rtoldAll
  cases e : rtold ((rtrim q).length - 1) (rtrim p) (rtrim q) with
  | none => rfl
  | some s => exact absurd (told_cf0 _ _ _ _ e) h
theorem toldAll_peel {p q : List Rat} (h : cf (rtrim q) 0 = 1) : rtoldAll p q = posOnly (rpeel ((rtrim q).length - 1) (rtrim p) (rtrim q)) := told_peel _ _ _ h
theorem told_lens {p q : List Rat} {s : List Rat × List Rat} (h : rtoldAll p q = some s) : s.1.length = s.2.length + 1 ∧ s.2.length + 1 ≤ max q.length 1 ∧ (∀ x ∈ s.1, 0 < x) ∧ ∀ x ∈ s.2, 0 < x := by
  obtain ⟨h1, h2, h3, h4⟩ := told_good _ _ _ _ h
  have := rtrim_le q
  exact ⟨by omega, by omega, h3, h4⟩
/-- the lower one grows shorter, too -/
theorem rny_len {p q : List Rat} {f : Nat} (hq : q.length = f + 2) (hr : (rnx p q).length = f + 1) : (rny p q).length ≤ f + 1 := by
  unfold rny rmore
  generalize hR : rnx p q = r at *
  have hz : cf r (r.length - 1) ≠ 0 := by
    rcases tr_rtrim (radd p (rscale (-(rgap p q)) q)) with z | z
    · have e : r = [] := hR.symm.trans z
      rw [e] at hr; simp at hr
    · have e : r = rtrim (radd p (rscale (-(rgap p q)) q)) := hR.symm
      rw [e]; exact z
  refine rtrim_below fun i hi => ?_
  rw [cf_radd, cf_rscale, cf_0]
  by_cases c : i = f + 1
  · subst c
    show cf q (f + 1) + rbead q r * cf r f = 0
    unfold rbead
    rw [hq, hr] at *
    show cf q (f + 1) + -(cf q (f + 1) / cf r f) * cf r f = 0
    have hz : cf r f ≠ 0 := hz
    grind
  · rw [cf_low (by omega)]
    cases i with
    | zero => omega
    | succ i =>
      show 0 + rbead q r * cf r i = 0
      rw [cf_low (by omega)]; grind
/-- a string's own polynomials, peeled once -/
theorem peel_str {l m b : Rat} {ls bs : List Rat} (h : (l :: m :: ls).length = (b :: bs).length + 1) (hl : ∀ x ∈ l :: m :: ls, 0 < x) (hb : ∀ x ∈ b :: bs, 0 < x) :
    rgap (rans (l :: m :: ls) (b :: bs)).1 (rans (l :: m :: ls) (b :: bs)).2 = l ∧ rnx (rans (l :: m :: ls) (b :: bs)).1 (rans (l :: m :: ls) (b :: bs)).2 = (rans (m :: ls) bs).1 ∧
    rny (rans (l :: m :: ls) (b :: bs)).1 (rans (l :: m :: ls) (b :: bs)).2 = (rans (m :: ls) bs).2 := by
  have h' : (m :: ls).length = bs.length + 1 := by simpa using h
  have hl' : ∀ x ∈ m :: ls, 0 < x := fun x hx => hl x (List.mem_cons_of_mem _ hx)
  have hb' : ∀ x ∈ bs, 0 < x := fun x hx => hb x (List.mem_cons_of_mem _ hx)
  have l0 := hl l (by simp)
  have b0 := hb b (by simp)
  have len := rans_len (b :: bs) (l :: m :: ls) h
  have len' := rans_len bs (m :: ls) h'
  have t1 := top_up h' hl' hb'
  have t2 := top_lo h' hl' hb'
  have r1 := rans1 l m b ls bs
  have r2 := rans2 l m b ls bs
  have e1 : cf (rans (l :: m :: ls) (b :: bs)).2 (bs.length + 1) = -b * cf (rans (m :: ls) bs).1 bs.length := by
    rw [r2, cf_low (p := (rans (m :: ls) bs).2) (by omega)]
    show 0 - b * cf (rans (m :: ls) bs).1 bs.length = _
    grind
  have e2 : cf (rans (l :: m :: ls) (b :: bs)).1 (bs.length + 1) = l * cf (rans (l :: m :: ls) (b :: bs)).2 (bs.length + 1) := by
    rw [r1, cf_low (p := (rans (m :: ls) bs).1) (by omega)]; grind
  have n1 : cf (rans (l :: m :: ls) (b :: bs)).2 (bs.length + 1) ≠ 0 := by rw [e1]; exact mul_ne (by grind) t1
  generalize rans (l :: m :: ls) (b :: bs) = X at *
  generalize rans (m :: ls) bs = Y at *
  have lb : (b :: bs).length = bs.length + 1 := rfl
  rw [lb] at len
  have g1 : rgap X.1 X.2 = l := by
    unfold rgap
    rw [len.1, len.2, Nat.add_sub_cancel, e2]; grind
  have g2 : rnx X.1 X.2 = Y.1 := by
    unfold rnx rless
    rw [g1]
    refine trim_is (tr_of len'.1 t1) (by rw [radd_len, rscale_len]; omega) fun i => ?_
    rw [cf_radd, cf_rscale, r1]; grind
  have g3 : rbead X.2 Y.1 = b := by
    unfold rbead
    rw [len.2, len'.1, Nat.add_sub_cancel, Nat.add_sub_cancel, e1]; grind
  refine ⟨g1, g2, ?_⟩
  unfold rny rmore
  rw [g2, g3]
  refine trim_is (tr_of len'.2 t2) (by rw [radd_len, rscale_len, List.length_cons]; omega) fun i => ?_
  rw [cf_radd, cf_rscale, cf_0, r2]; grind
/-! ### means -/
def rshare (q r : List Rat) : Rat := cf (0 :: r) (q.length - 1) / cf q (q.length - 1)
def rfnext (q r : List Rat) : List Rat := rtrim (radd (0 :: r) (rscale (-(rshare q r)) q))
def rfall (q : List Rat) : Nat → List Rat → List Rat
  | 0, _ => []
  | k + 1, r => rshare q r :: rfall q k (rfnext q r)
theorem rfnext_len {q r : List Rat} (hq : q ≠ []) (hz : cf q (q.length - 1) ≠ 0) (hr : r.length ≤ q.length - 1) : (rfnext q r).length ≤ q.length - 1 := by
  have l0 : 0 < q.length := List.length_pos_iff.mpr hq
  refine rtrim_below fun i hi => ?_
  rw [cf_radd, cf_rscale]
  by_cases c : i = q.length - 1
  · subst c
    unfold rshare
    grind
  · rw [cf_low (p := q) (by omega), cf_low (p := 0 :: r) (by rw [List.length_cons]; omega)]; grind
theorem rshare_is {q r : List Rat} (hq : q ≠ []) (tr : Tr r) (hr : r.length ≤ q.length - 1) : rshare q r = if r.length = q.length - 1 ∧ q.length - 1 ≠ 0 then r.getLastD 0 / q.getLastD 1 else 0 := by
  unfold rshare
  rw [cf_0]
  by_cases c : r.length = q.length - 1 ∧ q.length - 1 ≠ 0
  · have hr0 : r ≠ [] := fun z => by
      rw [z] at c
      have c1 : 0 = q.length - 1 := c.1
      exact c.2 c1.symm
    rw [if_pos c, lastD_cf r hr0, lastD_cf q hq, ← c.1]
    cases e : r.length with
    | zero => exact absurd (List.length_eq_zero_iff.mp e) hr0
    | succ n => rfl
  · rw [if_neg c]
    have z : sh (cf r) (q.length - 1) = 0 := by
      cases e : q.length - 1 with
      | zero => rfl
      | succ n =>
        show cf r n = 0
        exact cf_low (by omega)
    rw [z]; grind
theorem rfall_means {q : List Rat} (hq : q ≠ []) (hz : cf q (q.length - 1) ≠ 0) : ∀ (k : Nat) (r : List Rat), Tr r → r.length ≤ q.length - 1 → (rfall q k r).map (fun x => -x) = rmeans q k r
  | 0, r, _, _ => rfl
  | k + 1, r, tr, hr => by
    show -(rshare q r) :: (rfall q k (rfnext q r)).map (fun x => -x) = _
    rw [rfall_means hq hz k (rfnext q r) (tr_rtrim _) (rfnext_len hq hz hr)]
    show _ = -(if r.length = q.length - 1 ∧ q.length - 1 ≠ 0 then r.getLastD 0 / q.getLastD 1 else 0) :: rmeans q k (rtrim (radd (if r = [] then [] else 0 :: r) (rscale (-(if r.length = q.length - 1 ∧ q.length - 1 ≠ 0 then r.getLastD 0 / q.getLastD 1 else 0)) q)))
    rw [← rshare_is hq tr hr]
    have e : rfnext q r = rtrim (radd (if r = [] then [] else 0 :: r) (rscale (-(rshare q r)) q)) := by
      unfold rfnext
      refine rtrim_congr fun i => ?_
      rw [cf_radd, cf_radd]
      congr 1
      by_cases c : r = []
      · rw [if_pos c, c]
        cases i <;> rfl
      · rw [if_neg c]
    rw [e]
/-- what the program answers of means -/
theorem means_prog {ls bs : List Rat} (h : ls.length = bs.length + 1) (hl : ∀ x ∈ ls, 0 < x) (hb : ∀ x ∈ bs, 0 < x) (k : Nat) :
    rmeansOf ls bs k = (rfall (rans ls bs).2 k (rless (rans ls bs).1 (rans ls bs).2 (cf ls 0))).map (fun x => -x) ∧ (rless (rans ls bs).1 (rans ls bs).2 (cf ls 0)).length ≤ bs.length := by
  have len := rans_len bs ls h
  have t2 := top_lo h hl hb
  have hq : (rans ls bs).2 ≠ [] := fun z => by
    have := len.2
    rw [z] at this; simp at this
  have hz : cf (rans ls bs).2 ((rans ls bs).2.length - 1) ≠ 0 := by rw [len.2]; exact t2
  have e0 : ls.headD 0 = cf ls 0 := by cases ls <;> rfl
  have hlen : (rless (rans ls bs).1 (rans ls bs).2 (cf ls 0)).length ≤ bs.length := by
    refine rtrim_below fun i hi => ?_
    rw [cf_radd, cf_rscale]
    match bs, ls, h, hl, hb, len, hi with
    | [], [l], h, hl, hb, len, hi =>
      cases i with
      | zero =>
        show l + -l * 1 = 0
        grind
      | succ i =>
        show 0 + -l * 0 = 0
        grind
    | b :: bs, l :: m :: ls, h, hl, hb, len, hi =>
      have h' : (m :: ls).length = bs.length + 1 := by simpa using h
      have len' := rans_len bs (m :: ls) h'
      rw [rans1, cf_low (p := (rans (m :: ls) bs).1) (by rw [len'.1]; exact hi)]
      show l * _ + 0 + -l * _ = 0
      grind
  refine ⟨?_, hlen⟩
  rw [rfall_means hq hz k (rless (rans ls bs).1 (rans ls bs).2 (cf ls 0)) (tr_rtrim _) (by rw [len.2]; exact hlen)]
  unfold rmeansOf
  rw [rtrim_id (tr_of len.2 t2), e0]; rfl
/-- without the first gap: what is left is the string's behind the first bead -/
theorem less_str {l m b : Rat} {ls bs : List Rat} (h : (l :: m :: ls).length = (b :: bs).length + 1) (hl : ∀ x ∈ l :: m :: ls, 0 < x) (hb : ∀ x ∈ b :: bs, 0 < x) :
    rless (rans (l :: m :: ls) (b :: bs)).1 (rans (l :: m :: ls) (b :: bs)).2 l = (rans (m :: ls) bs).1 := by
  obtain ⟨g1, g2, _⟩ := peel_str h hl hb
  unfold rnx at g2
  rw [g1] at g2
  exact g2
/-! ### join -/
theorem join_gaps {ls : List Rat} {k : Nat} (h : k + 1 < ls.length) : ls.take k ++ [cf ls k + cf ls (k + 1)] ++ ls.drop (k + 2) = (ls.set k (ls.getD k 0 + ls.getD (k + 1) 0)).eraseIdx (k + 1) := by
  rw [List.eraseIdx_eq_take_drop_succ]
  congr 1
  · show ls.take k ++ [ls.getD k 0 + ls.getD (k + 1) 0] = _
    generalize ls.getD k 0 + ls.getD (k + 1) 0 = x
    rw [List.take_set, List.take_add_one, List.getElem?_eq_getElem (by omega)]
    show _ = (ls.take k ++ [ls[k]]).set k x
    rw [List.set_append_right _ _ (by rw [List.length_take]; omega), List.length_take, Nat.min_eq_left (by omega), Nat.sub_self]
    rfl
  · rw [List.drop_set_of_lt (by omega)]
end BD
set_option linter.all false
namespace BD
theorem asked_short {l : List Int} (h : PySr74.answers_asked l = true) : (PySr74.answers l).length ≤ 10000000 := by
  unfold PySr74.answers_asked at h
  cases e : PyFlat.calls PySr74.shape l.length l with
  | none => rw [e] at h; cases h
  | some cs =>
    rw [e] at h
    simp only [Bool.and_eq_true] at h
    exact of_decide_eq_true h.2
def WH : List Int := [1, 3, 3, 0, 0, 2, 4, 0, 1, 1, 0, 0, 1, 1, 0]
def RWS : List Int := [0, 0, 0, 0, 0, 0, 0, 0, 2, 2, 0, 0, 0, 0, 0]
theorem kind_shape {p : Int} {args : List Int} {xs : List (List Int)} {x : Sr74.Call} (h : Kind p args xs x) : ∃ k : Nat, p = (k : Int) ∧ WH[k]? = some (args.length : Int) ∧ RWS[k]? = some (xs.length : Int) ∧ xs.length ≤ 2 := by
  cases h
  · exact ⟨0, rfl, rfl, rfl, by decide⟩
  · exact ⟨1, rfl, rfl, rfl, by decide⟩
  · exact ⟨2, rfl, rfl, rfl, by decide⟩
  · exact ⟨3, rfl, rfl, rfl, by decide⟩
  · exact ⟨4, rfl, rfl, rfl, by decide⟩
  · exact ⟨5, rfl, rfl, rfl, by decide⟩
  · exact ⟨6, rfl, rfl, rfl, by decide⟩
  · exact ⟨7, rfl, rfl, rfl, by decide⟩
  · exact ⟨8, rfl, rfl, rfl, Nat.le_refl _⟩
  · exact ⟨9, rfl, rfl, rfl, Nat.le_refl _⟩
  · exact ⟨10, rfl, rfl, rfl, by decide⟩
  · exact ⟨11, rfl, rfl, rfl, by decide⟩
  · exact ⟨12, rfl, rfl, rfl, by decide⟩
  · exact ⟨13, rfl, rfl, rfl, by decide⟩
  · exact ⟨14, rfl, rfl, rfl, by decide⟩
theorem rowsEnc_len : ∀ xs : List (List Int), ((rowsEnc xs).length : Int) = (xs.map fun u => 1 + (u.length : Int)).sum
  | [] => rfl
  | u :: xs => by
    rw [rowsEnc_cons, List.map_cons, List.sum_cons, ← rowsEnc_len xs, List.length_cons, List.length_append]
    omega
end BD
set_option Elab.async false
set_option linter.all false
set_option maxRecDepth 100000
set_option maxHeartbeats 2000000
/-! The end of a Spec row where the promise also leans on there being no own _pylong (for divisions of great numbers). -/
namespace BP
open PySem PySem.Spec PyProof.Rows L2
open PySem.W (Codec OpenSpec WData ReadsW WellAll)
theorem seer_hid {K : PySem.W.Frag} {h : Heap} {H : Hp} (hN : h.NoSeer)
    (free : ∀ {b : Addr} {ob : Obj}, h.get? b = some ob → ob.cls ≠ .type "list" → ob.cls ≠ .type "tuple" → H b = none)
    (ns : ∀ {b : Addr} {m : Str → Option Value}, h.Ns b m → (hidT h H).Ns b m) : (hidT h H).NoSeer where
  statics := by
    obtain ⟨mc, a, r⟩ := hN.statics
    exact ⟨mc, ns a, r⟩
  mods := by
    obtain ⟨mm, a, r⟩ := hN.mods
    exact ⟨mm, ns a, r⟩
  imp := by
    obtain ⟨mb, a, r⟩ := hN.imp
    exact ⟨mb, ns a, r⟩
  main := by
    obtain ⟨mg, bm, ob, a, b, c, d, e⟩ := hN.main
    refine ⟨mg, bm, ob, ns a, b, hidT_get c (free c ?_ ?_), d, e⟩
    · rw [d]; decide
    · rw [d]; decide
/-- the call of the row's def -/
theorem call_seer {P : Program} {w : World} {K : PySem.W.Frag} {mg mb : Str → Option Value} {CX : CXT} {k : Nat} {fa : Addr} {fd : FuncData}
    {ps : List Str} {sp : Sp} {t : Shared} {vals : List Value} {ds : List WData} {R : PySem.W.WRecords} {cl : Str → Option Addr} {d0 : WData}
    (KX : K.In t.heap) (nsG : t.heap.Ns mainGlobals mg) (nsB : t.heap.Ns builtinsNs mb)
    (bb : ∀ x : Str, x ≠ "__name__" → mb x = bootBuiltins x) (lim : t.heap.NoLimit) (seer : t.heap.NoSeer) (gens : t.gens = #[])
    (wl : WellAll w.params t.heap vals ds) (pl : plWs ds = true) (wt : ∀ d ∈ ds, d.weight ≤ 1048576) (hr : Room k callerA)
    (F : ∀ base : Heap, K.In base → base.NoSeer → FnOk P w K mg base CX k fa fd ps sp)
    (bnd : ∀ (s : Shared) (us : List Value), us.length = ps.length → BindsTo s fd ⟨us, []⟩ (ps.zip us)) (ln : ds.length = ps.length)
    (ask : ∀ (H : Hp) (xs : List V), OnlyF H → DwAll K H xs ds → sp xs H (fun v H' => Dw K H' v d0) fun _ _ _ => False)
    (noX : ∀ H e s', CX [] H t (fun _ _ _ => False) e s' → False) :
    codeAny (model P w) callerA (.call (.ref fa) ⟨vals, []⟩)
      (fun r s' => ∃ u as, r = .ok (.ret u) ∧ ReadsW R cl s'.heap u d0 as ∧ OldK t.heap s'.heap ∧ s'.os = t.os ∧ AllBare s'.gens) t := by
  obtain ⟨A, oku, area⟩ := area_all ds vals wl pl wt
  -- what is tracked: the arguments alone
  have only := argH_only (K := K) area
  have held := argH_ok (P := P) (w := w) (K := K) area
  have data := dw_all KX area ds vals wl pl oku
  have rel := vals_toV oku
  have notK : ∀ b u, argH K t.heap A b = some u → K.lookup b = none := fun b u q => (argH_is area q).1
  have free : ∀ {b : Addr} {ob : Obj}, t.heap.get? b = some ob → ob.cls ≠ .type "list" → ob.cls ≠ .type "tuple" → argH K t.heap A b = none := by
    intro b ob e n1 n2
    cases q : argH K t.heap A b with
    | none => rfl
    | some u =>
      exfalso
      obtain ⟨_, vs, _, _, c⟩ := argH_is area q
      rcases c with ⟨e2, _⟩ | ⟨e2, _⟩
      · rw [e] at e2; cases e2; exact n1 rfl
      · rw [e] at e2; cases e2; exact n2 rfl
  have noD : ∀ {b : Addr} {ob : Obj} {es : Array DictEntry} {n : Nat}, t.heap.get? b = some ob → ob.data = .dict es n → argH K t.heap A b = none := by
    intro b ob es n e d
    cases q : argH K t.heap A b with
    | none => rfl
    | some u =>
      exfalso
      obtain ⟨_, vs, _, _, c⟩ := argH_is area q
      rcases c with ⟨e2, _⟩ | ⟨e2, _⟩
      · rw [e] at e2; cases e2; cases d
      · rw [e] at e2; cases e2; cases d
  generalize argH K t.heap A = H at only held data notK free noD
  have nsH : ∀ {b : Addr} {m : Str → Option Value}, t.heap.Ns b m → (hidT t.heap H).Ns b m := by
    intro b m hb
    obtain ⟨ob, es, n, e, d, r⟩ := hb
    exact ⟨ob, es, n, hidT_get e (noD e d), d, r⟩
  have KH : K.In (hidT t.heap H) := fun b ob e => hidT_get (KX b ob e) (by
    cases q : H b with
    | none => rfl
    | some u =>
      rw [notK b u q] at e
      cases e)
  have limH : (hidT t.heap H).NoLimit := by
    obtain ⟨mc, a, b⟩ := lim
    exact ⟨mc, nsH a, b⟩
  have e0 : Env0 P w K mg (hidT t.heap H) callerA [] t H :=
    ⟨rfl, ⟨KH, nsH nsG, ⟨mb, nsH nsB, bb⟩, limH⟩, fun b ob e => of_hidT e, Nat.le_of_eq (hidT_size _ _), trivial, fun b hb => absurd (show b ∈ ([] : List Addr) from hb) (by simp), held, .of_eq gens⟩
  have run := (F _ KH (seer_hid (K := K) seer free nsH)).run callerA [] t H ⟨vals, []⟩ vals (vals.map toV) _ _ hr e0 (bnd t vals (by rw [wellAll_len wl]; exact ln)) rel (ask H _ only data)
  refine codeAny_mono run fun r s' x => ?_
  match r, x with
  | .error e, x => exact (noX H e s' x).elim
  | .ok .next, x => exact False.elim x
  | .ok .brk, x => exact False.elim x
  | .ok .cont, x => exact False.elim x
  | .ok (.ret u), x =>
    obtain ⟨v, H', os, bare, un, held', rv, q⟩ := x
    have kept : ∀ b ob, t.heap.get? b = some ob → s'.heap.get? b = some ob := by
      intro b ob e
      cases q2 : H b with
      | none => exact un.keep b ob e q2 (fun m => absurd (show b ∈ ([] : List Addr) from m) (by simp)) (by simp)
      | some u2 =>
        rcases only b with y | ⟨ox, u3, y⟩
        · rw [q2] at y
          cases y
        · have f1 := held b _ y
          have f2 := held' b _ (un.frzs b ox _ y)
          obtain ⟨g1, _⟩ := f1
          obtain ⟨g2, _⟩ := f2
          rw [e] at g1
          cases g1
          exact g2
    obtain ⟨as, rd⟩ := Dw.reads (R := R) (cl := cl) held' (fun b ob e => kept b ob (KX b ob e)) d0 v u q rv
    exact ⟨u, as, rfl, rd, OldK.of_keep kept, os, bare⟩
/-- the row, from the promise of its def -/
theorem row_seer {r : OpenSpec} {k : Nat} {q : Program} {loose : List Str} {XP : (Str → Option Value) → Heap → Prop} {YP : World → Heap → Prop}
    {d : DefRec} {K : Params → PySem.W.Frag} {CX : CXT} {ps : List Str} {sp : PySem.W.Frag → Sp}
    (well : r.wellSaid = true) (imp : importsNone q = true) (ln : r.args.length = ps.length) (hr : Room k callerA)
    (inK : ∀ (w : World) (h : Heap), YP w h → (K w.params).In h)
    (F : ∀ (w : World) (mg : Str → Option Value) (fa : Addr) (h : Heap), YP w h → (K w.params).In h → h.Ns mainGlobals mg → mg d.name = some (.ref fa) → ∃ fd : FuncData, (∀ (s : Shared) (us : List Value), us.length = ps.length → BindsTo s fd ⟨us, []⟩ (ps.zip us)) ∧ ∀ base : Heap, (K w.params).In base → base.NoSeer → FnOk r.prog w (K w.params) mg base CX k fa fd ps (sp (K w.params)))
    (ask : ∀ (K : PySem.W.Frag) (H : Hp) (xs : List V) (a : Codec.denoteAll r.args), Codec.withinAll r.args a = true → Codec.app r.args r.asked a = true →
      DwAll K H xs (Codec.encAll r.args a) → sp K xs H (fun v H' => Dw K H' v (r.ret.enc (Codec.app r.args r.f a))) fun _ _ _ => False)
    (noX : ∀ (H : Hp) (s : Shared) (e : Value) (s' : Shared), CX [] H s (fun _ _ _ => False) e s' → False) : PySem.W.WalkOS q loose XP YP r d [] (fun f vs => PySem.call f vs) := by
  intro w s₀ t mg mb G Y fa ob pm cd doc dV kV ho hd hcd hD hmg hg args vals as pre lay rd wl lo
  obtain ⟨a, e1, e2⟩ := PySem.W.os_pre_some pre
  obtain ⟨e3, wi⟩ := Codec.encAll_of_decAll r.args args a e1
  subst e3
  have KX := inK w _ Y
  obtain ⟨fd, bnd, ok⟩ := F w mg fa _ Y KX G.T.g hmg
  have c := call_seer (R := []) (cl := classAt s₀.heap) (d0 := r.ret.enc (Codec.app r.args r.f a)) KX G.T.g G.T.b G.T.builtins G.T.nolimit (G.T.seer imp) hg wl (pl_encAll _ _)
    (layable_weight lay) hr ok bnd (by rw [encAll_len]; exact ln) (fun H xs _ y => ask _ H xs a wi e2 y) (fun H e s' => noX H t e s')
  refine PySem.W.enter_call (codeAny_mono c fun r' s' hq => ?_)
  obtain ⟨v, bs', rfl, h1, h2, h3, h4⟩ := hq
  refine ⟨.inl ⟨v, _, bs', rfl, fun _ => rfl, h1, (OpenSpec.post_iff well wi _ _).mpr rfl, fun y => ?_⟩, h2, h3, h4⟩
  exact Bool.noConfusion (show false = true from y)
end BP
set_option Elab.async false
set_option linter.all false
set_option maxRecDepth 100000
set_option maxHeartbeats 2000000
/-! list(reversed(a list)) -/
namespace BP
open PySem PySem.Spec PyProof.Rows L2
abbrev emptyL : Obj := { cls := .type "list", data := .seq #[] }
section
variable {prog : Program} {w : World} {A : Around} {s : Shared} {E : Value → Shared → Prop}
theorem call_listRev {it l : Addr} {items : Array Value} {Q : Value → Shared → Prop} (hh : A.handled = none) (hit : s.heap.IsRevIter it l ((items.size : Int) - 1)) (hl : s.heap.IsList l items) (hne : l ≠ it) (hn : items.size ≤ sizeLine)
    (hQ : ∀ (h' : Heap) (tk c : Nat) (acc : Array Value), (∀ b o, b ≠ it → s.heap.get? b = some o → h'.get? b = some o) → h'.get? s.heap.objs.size = some { cls := .type "list", dict := none, data := .seq acc c, slots := #[] } → ItemsOf (fun i v => items[items.size - 1 - i]? = some v) acc items.size → Q (.ref s.heap.objs.size) { s with heap := h', toks := tk }) :
    wpAny (model prog w) A (call (.type "list") [.ref it]) Q E s := by
  obtain ⟨oi, hoi, _⟩ := id hit
  obtain ⟨ol, hol, _⟩ := id hl
  have n1 : s.heap.objs.size ≠ it := Nat.ne_of_gt (Heap.lt_size hoi)
  have n2 : s.heap.objs.size ≠ l := Nat.ne_of_gt (Heap.lt_size hol)
  generalize hS : s.heap.objs.size = S at n1 n2 hQ
  refine callType_codes (Q₁ := fun obj s₁ => obj = .ref S ∧ s₁ = { s with heap := s.heap.push emptyL }) F.called_list (F.typeCall_list_1 _) F.entry_list_init
    (code_list_new _ ⟨by rw [hS], rfl⟩) fun obj s₁ h₁ => ?_
  obtain ⟨rfl, rfl⟩ := h₁
  have g0 : (s.heap.push emptyL).get? S = some emptyL := by rw [← hS]; exact Heap.get?_push_size _ rfl
  refine ⟨⟨_, g0, rfl⟩, F.args_list_init_2 _ _, ?_⟩
  -- the new list is emptied, and extended by what the iterator gives
  show wpAny _ A.in1.in1 (do let old ← Builtin.List.listItems (.ref S); Builtin.List.listUpdate (.ref S) (fun _ => #[]); letGo old.toList.reverse; Builtin.List.listExtendWith (.ref S) (.ref it) .none) _ _ { s with heap := s.heap.push emptyL }
  refine wpAny_bind ?_
  unfold Builtin.List.listItems
  refine wpAny_bind (wpAny_seqItems g0 rfl (wpAny_pure ?_))
  show wpAny _ A.in1.in1 (updateSeq S (fun _ => #[]) >>= fun _ => letGo (#[] : Array Value).toList.reverse >>= fun _ => Builtin.List.listExtendWith (.ref S) (.ref it) .none) _ _ { s with heap := s.heap.push emptyL }
  refine wpAny_bind (wpAny_updateSeq g0 rfl ?_)
  have g2 := Heap.get?_update_self (Obj.mapSeq (fun _ => (#[] : Array Value))) g0 rfl
  have up : ∀ b o, b ≠ S → s.heap.get? b = some o → ((s.heap.push emptyL).update S (Obj.mapSeq (fun _ => (#[] : Array Value)))).get? b = some o := fun b o hb e =>
    (Heap.get?_update_other _ _ (Ne.symm hb)).trans (Heap.get?_push_of_some _ e)
  generalize (s.heap.push emptyL).update S (Obj.mapSeq (fun _ => (#[] : Array Value))) = h2 at g2 up ⊢
  have hit2 : h2.IsRevIter it l ((items.size : Int) - 1) := hit.at fun o e => up _ _ n1.symm e
  have hl2 : h2.IsList l items := by
    obtain ⟨o, e, r⟩ := hl
    exact ⟨o, up _ _ n2.symm e, r⟩
  refine wpAny_bind (wpAny_letGo ?_)
  have W := (Walks.listRev (prog := prog) (w := w) (A := A.in1.in1) hh it l hne items).toS
  have hT : ({ s with heap := h2 } : Shared).TypeIs (.ref it) "list_reverseiterator" := Heap.IsRevIter.typeIs (s := { s with heap := h2 }) hit2
  have nr : Builtin.List.listSameRef (.ref S) (.ref it) = false := by simp [Builtin.List.listSameRef, n1]
  unfold Builtin.List.listExtendWith
  refine wpAny_bind (wpAny_typeOf hT ?_)
  rw [if_neg (by rw [nr]; decide)]
  refine wpAny_bind (wpAny_pyIter_revIter (s := { s with heap := h2 }) hit2 ?_)
  refine wpAny_bind (wpAny_holding ?_)
  unfold Builtin.List.listLengthHint
  refine wpAny_bind (wpAny_specialOf hT RT.nolen_lri ?_)
  show wpAny _ A.in1.in1 (specialOf (Value.ref it) (Str.ofString "__length_hint__") >>= _) _ _ _
  refine wpAny_bind (wpAny_specialOf hT RT.hint_lri ?_)
  generalize nm : ("list_reverseiterator.__length_hint__" : String) = hid
  wp_delta
  rw [show splitId hid = some ("list_reverseiterator", "__length_hint__") from by subst nm; decide +kernel]
  subst nm
  refine wpAny_bind (wpAny_isInstance (b := true) hT (by rw [isSubtype_type]; kernel_rfl) ?_)
  refine wpAny_pure ?_
  rw [if_neg (by decide)]
  have z0 : ((items.size : Nat) : Int) - 1 - ((0 : Nat) : Int) = (items.size : Int) - 1 := by omega
  have nf : S ∉ [it, l] := by
    simp only [List.mem_cons, List.not_mem_nil, or_false, not_or]
    exact ⟨n1, n2⟩
  refine wpAny_pure ⟨plainId_quiet F.plain_extend_loop _, codeAny_extend_loopS W hn _ nf _ items.size 0 _ _ _ rfl (Nat.zero_le _) ⟨Nat.zero_le _, by rw [z0]; exact hit2, hl2⟩ g2 (ItemsOf.nil _) fun s' acc c hm hS' hacc => ?_⟩
  refine ⟨rfl, ?_⟩
  rw [Moved.eq_with hm]
  refine hQ s'.heap s'.toks c acc (fun b o hb e => ?_) hS' hacc
  have nb : b ≠ S := fun y => by
    have := Heap.lt_size e
    rw [y, ← hS] at this
    exact Nat.lt_irrefl _ this
  refine hm.heap b o (fun mem => ?_) (up b o nb e)
  rcases List.mem_cons.mp mem with y | y
  · exact nb y
  · exact hb (List.mem_singleton.mp y)
end
/-- list(reversed(x)), x a list: a new list -/
def tLstRev (K : PySem.W.Frag) (te : TE) : TE := fun σ H Q => te σ H fun v H1 => ∃ (a : Addr) (xs : List V), v = .ref a ∧ SqL K H1 a xs ∧ ∀ q, H1 q = none → Q (.ref q) (upd H1 q (.lst xs.reverse))
section
variable {X : Cx}
theorem pe_listRev {e : Expr} {te : TE} {p p2 pos pos2 : Pos} (hc : X.calm = true) (hg : Gl X "list") (hm : X.mg "list" = none) (hg2 : Gl X "reversed") (hm2 : X.mg "reversed" = none) (he : PE X e te) (hs : starEach [e] X.env = (false, eval e X.env) :: starEach [] X.env := by rfl) (hs2 : starEach [.Call (.Name "reversed" p2) [e] [] pos2] X.env = (false, eval (.Call (.Name "reversed" p2) [e] [] pos2) X.env) :: starEach [] X.env := by rfl) : PE X (.Call (.Name "list" p) [.Call (.Name "reversed" p2) [e] [] pos2] [] pos) (tLstRev X.K te) := by
  refine ⟨fun pins s σ H Q I h => ?_⟩
  refine Call_ (ld_blt I hg hm PyProof.Rows.boot_list (PyProof.Rows.callWith_type1 (args_cons (Call_ (ld_blt I hg2 hm2 PyProof.Rows.boot_reversed
    (PyProof.Rows.callWith_type1 (args_cons (thn (he.run pins s σ H _ I h) fun u s1 ⟨v, H1, I1, r1, q1⟩ => args_nil ?_) hs) hs rfl))) hs2) hs2 rfl))
  obtain ⟨a, xs, rfl, hq, q⟩ := q1
  obtain rfl : Value.ref a = u := Eq.symm r1
  obtain ⟨its, rv, pa, hz⟩ := I1.list hq
  have hla := pa.isList
  refine call_reversed_list hla (args_nil ?_)
  generalize hr : revObj a ((its.toArray.size : Int) - 1) = ro
  have kp : ∀ b o, s1.heap.get? b = some o → (s1.heap.push ro).get? b = some o := fun b o e => Heap.get?_push_of_some _ e
  have I2 : Inv X pins σ H1 { s1 with heap := s1.heap.push ro } := I1.kept (t' := s1.toks) kp
  have fp := I1.fpOk (b := s1.heap.objs.size) (H' := H1) (Nat.le_refl _) (I1.hok.fresh (Nat.le_refl _))
  obtain ⟨f0, f1, f2, f3, f4, f5⟩ := fp
  obtain ⟨ol, hol, _⟩ := id hla
  have na : a ≠ s1.heap.objs.size := Nat.ne_of_lt (Heap.lt_size hol)
  have hn : its.toArray.size ≤ sizeLine := by
    rw [List.size_toArray, ← rv.length]
    exact hz
  refine call_listRev (s := { s1 with heap := s1.heap.push ro }) (I1.ok.hd hc) ⟨_, Heap.get?_push_size _ (by rw [← hr]; rfl), by rw [← hr]; rfl, by rw [← hr]; rfl⟩ (hla.push _) na hn fun h' tk c acc hk hN hi => ?_
  have itS : s1.heap.objs.size < (s1.heap.push ro).objs.size := Heap.lt_size (Heap.get?_push_size _ (by rw [← hr]; rfl))
  generalize hS : (s1.heap.push ro).objs.size = S at hN itS ⊢
  have fr2 : H1 S = none := I2.hok.fresh (show (s1.heap.push ro).objs.size ≤ S by omega)
  have nS : s1.heap.objs.size ≠ S := Nat.ne_of_lt itS
  -- first as if the list had been laid whole, then the iterator's own change
  have I3 : Inv X pins σ (upd H1 S (.lst xs.reverse)) { s1 with heap := (s1.heap.push ro).push { cls := .type "list", dict := none, data := .seq acc c, slots := #[] }, toks := tk } :=
    I2.laid (t' := tk) (fun b o e => Heap.get?_push_of_some _ e) (show (s1.heap.push ro).objs.size ≤ S by omega)
      (show ObjOk X.prog X.w _ _ _ (.lst xs.reverse) from ⟨by rw [List.length_reverse]; exact hz, acc.toList, c, RT.vals_rev rv hi, by rw [Array.toArray_toList, ← hS]; exact Heap.get?_push_size _ rfl⟩)
  generalize hh3 : (s1.heap.push ro).push { cls := .type "list", dict := none, data := .seq acc c, slots := #[] } = h3 at I3
  have stay : ∀ b o, b ≠ s1.heap.objs.size → h3.get? b = some o → h'.get? b = some o := fun b o hb e => by
    rw [← hh3] at e
    rcases Heap.get?_push_cases e with ⟨e1, e2⟩ | e1
    · rw [e1, hS, e2]
      exact hN
    · exact hk b o hb e1
  have I4 := I3.turned (h' := h') (t' := tk) (it := s1.heap.objs.size) stay (by rw [upd_ne nS]; exact f0) f1 f3 f4 f5
  exact ⟨.ref S, _, I4, rfl, q S fr2⟩
end
end BP
set_option Elab.async false
set_option linter.all false
set_option maxRecDepth 100000
set_option maxHeartbeats 2000000
namespace BP
open PySem PySem.Spec PyProof.Rows L2
/-! ### great numbers -/
/-- factors of together less than 134 million bits -/
def CMulB (i j : Int) : Prop := i.natAbs.log2 + j.natAbs.log2 < 134000000
theorem CMulB.ok {i j : Int} (h : CMulB i j) : IntMulOk i j := by
  have b : ∀ x : Int, Builtin.Int.intBits x ≤ x.natAbs.log2 + 1 := fun x => by
    unfold Builtin.Int.intBits
    split <;> omega
  have h1 := b i
  have h2 := b j
  have h3 : i.natAbs.log2 + j.natAbs.log2 < 134000000 := h
  unfold IntMulOk
  intro z
  rw [Bool.and_eq_true] at z
  have z2 := z.2
  unfold Builtin.Int.intTooBig at z2
  have z3 := of_decide_eq_true z2
  rw [show bitsLine = 134217728 by decide] at z3
  omega
section
variable {X : Cx}
theorem op_mulB : OpR X (binaryOp .Mult) (rI CMulB fun i j => .int (i * j)) := opI fun _ _ _ _ _ _ _ hc q => mul_int q hc.ok
/-- // by any divisor but 0 -/
theorem op_divB (hN : X.base.NoSeer) (ht : X.prog.given.tree = none) (hd : X.A.depth + Builtin.pylongFrames < recursionLimit) (hs : X.stack = X.env :: X.outer) (hg : X.env.scope.isGenerator = false) (hc : X.env.scope.isCoroutine = false) :
    OpR X (binaryOp .FloorDiv) (rI (fun _ j => j ≠ 0) fun i j => .int (i.fdiv j)) := by
  intro pins s σ H x y v u Q I rx ry h
  obtain ⟨i, j, rfl, rfl, hj, q⟩ := h
  obtain ⟨t, rfl⟩ := rx
  obtain ⟨t', rfl⟩ := ry
  refine floordiv_int hj ⟨.int (i.fdiv j), H, I.tok _, ⟨_, rfl⟩, q⟩ (.inr (PylongRoom.of I.nolimit hd ?_))
  exact SeerAt.of (hN.keeps I.bk) ht (I.ok.frames.trans (congrArg some hs)) hg hc I.ok.blt I.ok.glob
end
/-! ### the text -/
def topS (i : Nat) : Stmt := PySem.Challenge.pw_beadstring_s01_answers.main.body.getD i (.Pass ⟨0, 0, 0, 0⟩)
abbrev sCommon : Stmt := topS 3
abbrev sLowest : Stmt := topS 4
theorem scCommon : FnScope ["one", "other", "rest"] ["one", "other"] (defScope sCommon) := ⟨rfl, rfl, rfl, by decide +kernel, rfl, by decide +kernel, by decide +kernel⟩
theorem scLowest : FnScope ["above", "below", "common"] ["above", "below"] (defScope sLowest) := ⟨rfl, rfl, rfl, by decide +kernel, rfl, by decide +kernel, by decide +kernel⟩
/-! ### common_factor -/
theorem gcd_fmod (x y : Int) : Nat.gcd y.natAbs (x.fmod y).natAbs = Nat.gcd x.natAbs y.natAbs := by
  have h := Int.mul_fdiv_add_fmod x y
  have e : Int.gcd y (x.fmod y) = Int.gcd x y := by
    conv => rhs; rw [← h, Int.gcd_comm]
    rw [Int.gcd_mul_left_add_right]
  exact e
section
variable {P : Program} {w : World} {K : PySem.W.Frag} {mg : Str → Option Value} {base : Heap}
def spCommon : Sp := fun vs H Q _ => ∃ x y : Int, vs = [.int x, .int y] ∧ Q (.int ((Nat.gcd x.natAbs y.natAbs : Nat) : Int)) H
theorem ok_common {f : Addr} {fd : FuncData} {k : Nat} (F : Fun K "common_factor" "common_factor" sCommon f fd) (ma : mg "abs" = none) : FnOk P w K mg base CX0 (k + 1) f fd ["one", "other"] spCommon := by
  refine F.ok scCommon (fun vs H Q E h => ?_) (fun cdv A outer s H vs Q E hr h => ?_)
  · obtain ⟨x, y, rfl, _⟩ := h; rfl
  · obtain ⟨x, y, rfl, q⟩ := h
    refine ⟨_, pss_cons (ps_while PassesOwn.never (pt_cmpR op_ne (pv 1) pe_int (nomark _))
        (pss_cons (ps_set (i := 2) scCommon.nd rfl (.inl rfl) (pe_op op_modN (pv 0) (pv 1)))
        (pss_cons (ps_set (i := 0) scCommon.nd rfl (.inl rfl) (pv 1))
        (pss_one (ps_set (i := 1) scCommon.nd rfl (.inl rfl) (pv 2))))))
      (pss_one (ps_ret (pe_callB call_abs (by rfl) ma (by decide +kernel) (pa_cons (pv 0) pa_nil)))), ?_⟩
    refine ⟨fun m σ H1 => ∃ (a b : Int) (r : Option V), σ = [some (.int a), some (.int b), r] ∧ m = b.natAbs ∧ Nat.gcd a.natAbs b.natAbs = Nat.gcd x.natAbs y.natAbs ∧ H1 = H, ⟨_, x, y, none, rfl, rfl, rfl, rfl⟩, ?_⟩
    rintro m σ H1 ⟨a, b, r, rfl, rfl, hg, rfl⟩
    refine ⟨_, rfl, rfl, _, rfl, ite2 (fun e => ?_) (fun e => ?_)⟩
    · have hb : b ≠ 0 := fun z => by
        subst z
        exact absurd e (by decide)
      refine ⟨fun σ' H' => ∃ (a' b' : Int) (r' : Option V), σ' = [some (.int a'), some (.int b'), r'] ∧ b'.natAbs < b.natAbs ∧ Nat.gcd a'.natAbs b'.natAbs = Nat.gcd x.natAbs y.natAbs ∧ H' = H1, ?_, ?_⟩
      · rintro σ' H' ⟨a', b', r', rfl, hlt, hg', rfl⟩
        exact ⟨_, hlt, a', b', r', rfl, rfl, hg', rfl⟩
      · refine ⟨_, rfl, _, rfl, a, b, rfl, rfl, hb, _, rfl, _, rfl, ?_⟩
        refine ⟨b, a.fmod b, _, rfl, ?_, ?_, rfl⟩
        · by_cases c : 0 < b
          · have h1 := Int.fmod_nonneg_of_pos a c
            have h2 := Int.fmod_lt_of_pos a c
            omega
          · have c' : b < 0 := by omega
            have h1 := Int.fmod_nonneg_of_pos (-a) (b := -b) (by omega)
            have h2 := Int.fmod_lt_of_pos (-a) (b := -b) (by omega)
            rw [Int.neg_fmod_neg] at h1 h2
            omega
        · rw [gcd_fmod, hg]
    · have hb : b = 0 := by
        by_cases z : b = 0
        · exact z
        · exfalso
          refine e ?_
          show (!decide (V.int b = V.int 0)) = true
          rw [decide_eq_false (fun h => z (V.int.inj h))]; rfl
      subst hb
      refine ⟨_, rfl, a, rfl, ?_⟩
      have e2 : (if a < 0 then -a else a) = ((Nat.gcd x.natAbs y.natAbs : Nat) : Int) := by
        rw [← hg]
        show _ = ((Nat.gcd a.natAbs 0 : Nat) : Int)
        rw [Nat.gcd_zero_right]
        split <;> omega
      rw [e2]
      exact q

/-- a def that may be called by its name -/
structure Cal (P : Program) (w : World) (K : PySem.W.Frag) (mg : Str → Option Value) (base : Heap) (k : Nat) (x : Str) (ps : List Str) (sp : Sp) : Prop where
  ex : ∃ (f : Addr) (fd : FuncData), FnOk P w K mg base CX0 k f fd ps sp ∧ mg x = some (.ref f) ∧ PySem.W.keepIn K (.ref f) = true ∧ Binds K fd ps []
theorem pe_cal {X : Cx} {k : Nat} {x : Str} {ps : List Str} {sp : Sp} {p pos : Pos} {e : Expr} {es : List Expr} {t : TA} (c : Cal X.prog X.w X.K X.mg X.base k x ps sp) (hr : Room k X.A) (ha : PA X (e :: es) t) (hg : Gl X x := by rfl)
    (hdb : (x == ("__debug__" : Str)) = false := by decide) (he : starEach (e :: es) X.env = (false, eval e X.env) :: starEach es X.env := by rfl) (hpl : (backTo pos (starEach es X.env)).any (·.1) = false := by rfl) :
    PE X (.Call (.Name x p) (e :: es) [] pos) (tCall sp [] E0 t) := by
  obtain ⟨f, fd, F, m, kp, b⟩ := c.ex
  exact pe_call F hr hg m kp b .nil pass0 ha hdb he hpl
/-! ### fractions in the heap -/
abbrev fr (r : Rat) : List V := [.int r.num, .int ((r.den : Nat) : Int)]
/-- the value v is the fraction r -/
def RtA (K : PySem.W.Frag) (H : Hp) (v : V) (r : Rat) : Prop := ∃ a, v = .ref a ∧ SqT K H a (fr r)
theorem same_upd {H : Hp} {p : Addr} {o : HO} (h : H p = none) : Same H (upd H p o) := fun b x e => by
  rw [upd_ne (ne_of_none e h)]
  exact e
theorem seqT {K : PySem.W.Frag} {H H' : Hp} {a : Addr} {xs : List V} (e : Same H H') (h : SqT K H a xs) : SqT K H' a xs := by
  rcases h with (h | ⟨o, h⟩) | h
  · exact .inl (.inl (e _ _ h))
  · exact .inl (.inr ⟨o, e _ _ h⟩)
  · exact .inr h
theorem RtA.same {K : PySem.W.Frag} {H H' : Hp} {v : V} {r : Rat} (h : RtA K H v r) (e : Same H H') : RtA K H' v r := by
  obtain ⟨a, h1, h2⟩ := h
  exact ⟨a, h1, seqT e h2⟩
theorem rtA_new {K : PySem.W.Frag} {H : Hp} {p : Addr} {r : Rat} : RtA K (upd H p (.tup (fr r))) (.ref p) r := ⟨p, rfl, .inl (.inl upd_same)⟩
/-! ### sizes -/
def LIM : Nat := 66000000
def Sz (n : Nat) (r : Rat) : Prop := r.num.natAbs < 2 ^ n ∧ r.den < 2 ^ n
abbrev Bg (r : Rat) : Prop := Sz LIM r
theorem log_lim {i : Int} {n : Nat} (hn : 0 < n) (h : i.natAbs < 2 ^ n) : i.natAbs.log2 < n := PySem.Flt.log2_lt_of hn h
theorem mulB {i j : Int} (hi : i.natAbs < 2 ^ LIM) (hj : j.natAbs < 2 ^ LIM) : CMulB i j := by
  have h1 := log_lim (by decide) hi
  have h2 := log_lim (by decide) hj
  unfold CMulB
  have : LIM = 66000000 := rfl
  omega
theorem Bg.n {r : Rat} (h : Bg r) : r.num.natAbs < 2 ^ LIM := h.1
theorem Bg.d {r : Rat} (h : Bg r) : (((r.den : Nat) : Int)).natAbs < 2 ^ LIM := h.2
/-! ### lowest -/
theorem low_of {x y : Int} (hy : 0 < y) : x.fdiv ((Nat.gcd x.natAbs y.natAbs : Nat) : Int) = ((x : Rat) / (y : Rat)).num ∧ y.fdiv ((Nat.gcd x.natAbs y.natAbs : Nat) : Int) = ((((x : Rat) / (y : Rat)).den : Nat) : Int) := by
  obtain ⟨d, rfl⟩ : ∃ d : Nat, y = (d : Int) := ⟨y.toNat, by omega⟩
  have hd : d ≠ 0 := by omega
  have e : (x : Rat) / (((d : Nat) : Int) : Rat) = mkRat x d := (Rat.mkRat_eq_div x d).symm
  rw [e, Rat.mkRat_def, dif_neg hd, Rat.normalize_eq]
  show x.fdiv ((Nat.gcd x.natAbs d : Nat) : Int) = x / ((Nat.gcd x.natAbs d : Nat) : Int) ∧ (d : Int).fdiv ((Nat.gcd x.natAbs d : Nat) : Int) = ((d / Nat.gcd x.natAbs d : Nat) : Int)
  rw [Int.fdiv_eq_ediv_of_nonneg _ (by omega), Int.fdiv_eq_ediv_of_nonneg _ (by omega)]
  exact ⟨rfl, by rw [Int.natCast_ediv]⟩
theorem low_neg {x y : Int} (hy : y < 0) : x.fdiv (-((Nat.gcd x.natAbs y.natAbs : Nat) : Int)) = ((x : Rat) / (y : Rat)).num ∧ y.fdiv (-((Nat.gcd x.natAbs y.natAbs : Nat) : Int)) = ((((x : Rat) / (y : Rat)).den : Nat) : Int) := by
  have h := low_of (x := -x) (y := -y) (by omega)
  rw [Int.natAbs_neg, Int.natAbs_neg, Rat.intCast_neg, Rat.intCast_neg, show (-(x : Rat)) / (-(y : Rat)) = (x : Rat) / (y : Rat) by grind] at h
  have e : ∀ a g : Int, a.fdiv (-g) = (-a).fdiv g := fun a g => by
    have := Int.neg_fdiv_neg (a := -a) (b := g)
    rw [Int.neg_neg] at this
    exact this
  rw [e, e]
  exact h
/-- a new fraction -/
def NewT (H : Hp) (r : Rat) (Q : VK) : Prop := ∀ p, H p = none → Q (.ref p) (upd H p (.tup (fr r)))
def spLowest : Sp := fun vs H Q _ => ∃ x y : Int, vs = [.int x, .int y] ∧ y ≠ 0 ∧ NewT H ((x : Rat) / (y : Rat)) Q
theorem ok_lowest {f : Addr} {fd : FuncData} (F : Fun K "lowest" "lowest" sLowest f fd) (hN : base.NoSeer) (ht : P.given.tree = none) (C1 : Cal P w K mg base 1 "common_factor" ["one", "other"] spCommon) : FnOk P w K mg base CX0 40 f fd ["above", "below"] spLowest := by
  refine F.ok scLowest (fun vs H Q E h => ?_) (fun cdv A outer s H vs Q E hr h => ?_)
  · obtain ⟨x, y, rfl, _⟩ := h; rfl
  · obtain ⟨x, y, rfl, hy, q⟩ := h
    have hdep : (A.deeper (envOfC "lowest" (defScope sLowest) s.heap.objs.size f cdv)).depth + Builtin.pylongFrames < recursionLimit := by
      have := hr.dp
      show _ + 100 < _
      omega
    refine ⟨_, pss_cons (ps_set (i := 2) scLowest.nd rfl (.inl rfl) (pe_cal C1 (hr.mono (by decide)) (pa_cons (pv 0) (pa_cons (pv 1) pa_nil))))
      (pss_cons (ps_if (pt_cmpR op_lt (pv 1) pe_int (nomark _)) (pss_one (ps_set (i := 2) scLowest.nd rfl (.inl rfl) (pe_un un_neg (pv 2)))) pss_nil)
      (pss_one (ps_ret (pe_tup (pa_cons (pe_op (op_divB hN ht hdep rfl rfl rfl) (pv 0) (pv 2)) (pa_cons (pe_op (op_divB hN ht hdep rfl rfl rfl) (pv 1) (pv 2)) pa_nil)))))), ?_⟩
    have hg : ((Nat.gcd x.natAbs y.natAbs : Nat) : Int) ≠ 0 := fun z => by
      have z1 : Nat.gcd x.natAbs y.natAbs = 0 := by omega
      have := (Nat.gcd_eq_zero_iff.mp z1).2
      omega
    refine ⟨_, rfl, _, rfl, x, y, rfl, _, rfl, _, _, rfl, rfl, _, rfl, ite2 (fun e => ?_) (fun e => ?_)⟩
    · have hy0 : y < 0 := of_decide_eq_true e
      refine ⟨_, rfl, _, rfl, _, rfl, _, rfl, x, _, rfl, rfl, by omega, _, rfl, _, rfl, y, _, rfl, rfl, by omega, by show 2 ≤ sizeLine; decide, fun p hp => ?_⟩
      show Q (.ref p) (upd H p (.tup [.int (x.fdiv (-((Nat.gcd x.natAbs y.natAbs : Nat) : Int))), .int (y.fdiv (-((Nat.gcd x.natAbs y.natAbs : Nat) : Int)))]))
      rw [(low_neg hy0).1, (low_neg hy0).2]
      exact q p hp
    · have hy0 : 0 < y := by
        have : ¬ y < 0 := fun z => e (decide_eq_true z)
        omega
      refine ⟨_, rfl, _, rfl, x, _, rfl, rfl, hg, _, rfl, _, rfl, y, _, rfl, rfl, hg, by show 2 ≤ sizeLine; decide, fun p hp => ?_⟩
      show Q (.ref p) (upd H p (.tup [.int (x.fdiv ((Nat.gcd x.natAbs y.natAbs : Nat) : Int)), .int (y.fdiv ((Nat.gcd x.natAbs y.natAbs : Nat) : Int))]))
      rw [(low_of hy0).1, (low_of hy0).2]
      exact q p hp
end
end BP
set_option Elab.async false
set_option linter.all false
set_option maxRecDepth 100000
set_option maxHeartbeats 2000000
namespace BP
open PySem PySem.Spec PyProof.Rows L2
abbrev sPlus : Stmt := topS 5
abbrev sTimes : Stmt := topS 6
abbrev sDivided : Stmt := topS 7
abbrev sOpposite : Stmt := topS 9
abbrev sIsLess : Stmt := topS 10
abbrev sSign : Stmt := topS 11
theorem scPlus : FnScope ["one", "other"] ["one", "other"] (defScope sPlus) := ⟨rfl, rfl, rfl, by decide +kernel, rfl, by decide +kernel, by decide +kernel⟩
theorem scTimes : FnScope ["one", "other"] ["one", "other"] (defScope sTimes) := ⟨rfl, rfl, rfl, by decide +kernel, rfl, by decide +kernel, by decide +kernel⟩
theorem scDivided : FnScope ["one", "other"] ["one", "other"] (defScope sDivided) := ⟨rfl, rfl, rfl, by decide +kernel, rfl, by decide +kernel, by decide +kernel⟩
theorem scOpposite : FnScope ["one"] ["one"] (defScope sOpposite) := ⟨rfl, rfl, rfl, by decide +kernel, rfl, by decide +kernel, by decide +kernel⟩
theorem scIsLess : FnScope ["one", "other"] ["one", "other"] (defScope sIsLess) := ⟨rfl, rfl, rfl, by decide +kernel, rfl, by decide +kernel, by decide +kernel⟩
theorem scSign : FnScope ["one"] ["one"] (defScope sSign) := ⟨rfl, rfl, rfl, by decide +kernel, rfl, by decide +kernel, by decide +kernel⟩
/-! ### two fractions' numbers -/
theorem rd {r : Rat} : ((((r.den : Nat) : Int)) : Rat) ≠ 0 := by
  intro h
  have : ((r.den : Nat) : Int) = 0 := by exact_mod_cast h
  have := r.den_nz
  omega
theorem rself (r : Rat) : r = (r.num : Rat) / ((((r.den : Nat) : Int)) : Rat) := BD.self_div r
theorem den_ne (r : Rat) : ((r.den : Nat) : Int) ≠ 0 := by have := r.den_nz; omega
theorem plus_num (x y : Rat) : ((x.num * ((y.den : Nat) : Int) + y.num * ((x.den : Nat) : Int) : Int) : Rat) / ((((x.den : Nat) : Int) * ((y.den : Nat) : Int) : Int) : Rat) = x + y := by
  have hx := rself x
  have hy := rself y
  have dx := rd (r := x)
  have dy := rd (r := y)
  rw [Rat.intCast_add, Rat.intCast_mul, Rat.intCast_mul, Rat.intCast_mul]
  generalize (x.num : Rat) = a at *
  generalize (y.num : Rat) = b at *
  generalize (((x.den : Nat) : Int) : Rat) = c at *
  generalize (((y.den : Nat) : Int) : Rat) = d at *
  rw [hx, hy]; grind
theorem times_num (x y : Rat) : ((x.num * y.num : Int) : Rat) / ((((x.den : Nat) : Int) * ((y.den : Nat) : Int) : Int) : Rat) = x * y := by
  have hx := rself x
  have hy := rself y
  have dx := rd (r := x)
  have dy := rd (r := y)
  rw [Rat.intCast_mul, Rat.intCast_mul]
  generalize (x.num : Rat) = a at *
  generalize (y.num : Rat) = b at *
  generalize (((x.den : Nat) : Int) : Rat) = c at *
  generalize (((y.den : Nat) : Int) : Rat) = d at *
  rw [hx, hy]; grind
theorem div_num {x y : Rat} (h : y ≠ 0) : ((x.num * ((y.den : Nat) : Int) : Int) : Rat) / ((((x.den : Nat) : Int) * y.num : Int) : Rat) = x / y := by
  have hx := rself x
  have hy := rself y
  have dx := rd (r := x)
  have dy := rd (r := y)
  have ny : (y.num : Rat) ≠ 0 := fun z => by
    have : y.num = 0 := by exact_mod_cast z
    exact h (Rat.num_eq_zero.mp this)
  rw [Rat.intCast_mul, Rat.intCast_mul]
  generalize (x.num : Rat) = a at *
  generalize (y.num : Rat) = b at *
  generalize (((x.den : Nat) : Int) : Rat) = c at *
  generalize (((y.den : Nat) : Int) : Rat) = d at *
  rw [hx, hy]; grind
/-! ### promises -/
/-- two fractions in, one out -/
def spBin (C : Rat → Rat → Prop) (g : Rat → Rat → Rat) (K : PySem.W.Frag) : Sp := fun vs H Q _ => ∃ (v u : V) (x y : Rat), vs = [v, u] ∧ RtA K H v x ∧ RtA K H u y ∧ Bg x ∧ Bg y ∧ C x y ∧ NewT H (g x y) Q
abbrev spPlus := spBin (fun _ _ => True) (· + ·)
abbrev spTimes := spBin (fun _ _ => True) (· * ·)
abbrev spDivided := spBin (fun _ y => y ≠ 0) (· / ·)
def spOpposite (K : PySem.W.Frag) : Sp := fun vs H Q _ => ∃ (v : V) (x : Rat), vs = [v] ∧ RtA K H v x ∧ NewT H (-x) Q
def spIsLess (K : PySem.W.Frag) : Sp := fun vs H Q _ => ∃ (v u : V) (x y : Rat), vs = [v, u] ∧ RtA K H v x ∧ RtA K H u y ∧ Bg x ∧ Bg y ∧ Q (.bl (decide (x < y))) H
def spSign (K : PySem.W.Frag) : Sp := fun vs H Q _ => ∃ (v : V) (x : Rat), vs = [v] ∧ RtA K H v x ∧ Q (.int (BD.sg x)) H
section
variable {P : Program} {w : World} {K : PySem.W.Frag} {mg : Str → Option Value} {base : Heap}
theorem ok_plus {f : Addr} {fd : FuncData} (F : Fun K "plus" "plus" sPlus f fd) (C1 : Cal P w K mg base 40 "lowest" ["above", "below"] spLowest) : FnOk P w K mg base CX0 41 f fd ["one", "other"] (spPlus K) := by
  refine F.ok scPlus (fun vs H Q E h => ?_) (fun cdv A outer s H vs Q E hr h => ?_)
  · obtain ⟨v, u, x, y, rfl, _⟩ := h; rfl
  · obtain ⟨v, u, x, y, rfl, ⟨a, rfl, ha⟩, ⟨b, rfl, hb⟩, bx, by', _, q⟩ := h
    refine ⟨_, pss_one (ps_ret (pe_cal C1 hr (pa_cons
      (pe_op op_add (pe_op op_mulB (pe_ix ix_tup (pv 0) pe_int (fun _ _ => rfl)) (pe_ix ix_tup (pv 1) pe_int (fun _ _ => rfl))) (pe_op op_mulB (pe_ix ix_tup (pv 1) pe_int (fun _ _ => rfl)) (pe_ix ix_tup (pv 0) pe_int (fun _ _ => rfl))))
      (pa_cons (pe_op op_mulB (pe_ix ix_tup (pv 0) pe_int (fun _ _ => rfl)) (pe_ix ix_tup (pv 1) pe_int (fun _ _ => rfl))) pa_nil)))), ?_⟩
    refine ⟨_, rfl, a, _, _, _, rfl, rfl, ha, rfl, _, rfl, b, _, _, _, rfl, rfl, hb, rfl, _, _, rfl, rfl, mulB bx.n by'.d, ?_⟩
    refine ⟨_, rfl, b, _, _, _, rfl, rfl, hb, rfl, _, rfl, a, _, _, _, rfl, rfl, ha, rfl, _, _, rfl, rfl, mulB by'.n bx.d, _, _, rfl, rfl, ?_⟩
    refine ⟨_, rfl, a, _, _, _, rfl, rfl, ha, rfl, _, rfl, b, _, _, _, rfl, rfl, hb, rfl, _, _, rfl, rfl, mulB bx.d by'.d, ?_⟩
    refine ⟨_, _, rfl, Int.mul_ne_zero (den_ne x) (den_ne y), fun p hp => ?_⟩
    rw [plus_num]
    exact q p hp
theorem ok_times {f : Addr} {fd : FuncData} (F : Fun K "times" "times" sTimes f fd) (C1 : Cal P w K mg base 40 "lowest" ["above", "below"] spLowest) : FnOk P w K mg base CX0 41 f fd ["one", "other"] (spTimes K) := by
  refine F.ok scTimes (fun vs H Q E h => ?_) (fun cdv A outer s H vs Q E hr h => ?_)
  · obtain ⟨v, u, x, y, rfl, _⟩ := h; rfl
  · obtain ⟨v, u, x, y, rfl, ⟨a, rfl, ha⟩, ⟨b, rfl, hb⟩, bx, by', _, q⟩ := h
    refine ⟨_, pss_one (ps_ret (pe_cal C1 hr (pa_cons (pe_op op_mulB (pe_ix ix_tup (pv 0) pe_int (fun _ _ => rfl)) (pe_ix ix_tup (pv 1) pe_int (fun _ _ => rfl)))
      (pa_cons (pe_op op_mulB (pe_ix ix_tup (pv 0) pe_int (fun _ _ => rfl)) (pe_ix ix_tup (pv 1) pe_int (fun _ _ => rfl))) pa_nil)))), ?_⟩
    refine ⟨_, rfl, a, _, _, _, rfl, rfl, ha, rfl, _, rfl, b, _, _, _, rfl, rfl, hb, rfl, _, _, rfl, rfl, mulB bx.n by'.n, ?_⟩
    refine ⟨_, rfl, a, _, _, _, rfl, rfl, ha, rfl, _, rfl, b, _, _, _, rfl, rfl, hb, rfl, _, _, rfl, rfl, mulB bx.d by'.d, ?_⟩
    refine ⟨_, _, rfl, Int.mul_ne_zero (den_ne x) (den_ne y), fun p hp => ?_⟩
    rw [times_num]
    exact q p hp
theorem ok_divided {f : Addr} {fd : FuncData} (F : Fun K "divided" "divided" sDivided f fd) (C1 : Cal P w K mg base 40 "lowest" ["above", "below"] spLowest) : FnOk P w K mg base CX0 41 f fd ["one", "other"] (spDivided K) := by
  refine F.ok scDivided (fun vs H Q E h => ?_) (fun cdv A outer s H vs Q E hr h => ?_)
  · obtain ⟨v, u, x, y, rfl, _⟩ := h; rfl
  · obtain ⟨v, u, x, y, rfl, ⟨a, rfl, ha⟩, ⟨b, rfl, hb⟩, bx, by', hy, q⟩ := h
    refine ⟨_, pss_one (ps_ret (pe_cal C1 hr (pa_cons (pe_op op_mulB (pe_ix ix_tup (pv 0) pe_int (fun _ _ => rfl)) (pe_ix ix_tup (pv 1) pe_int (fun _ _ => rfl)))
      (pa_cons (pe_op op_mulB (pe_ix ix_tup (pv 0) pe_int (fun _ _ => rfl)) (pe_ix ix_tup (pv 1) pe_int (fun _ _ => rfl))) pa_nil)))), ?_⟩
    refine ⟨_, rfl, a, _, _, _, rfl, rfl, ha, rfl, _, rfl, b, _, _, _, rfl, rfl, hb, rfl, _, _, rfl, rfl, mulB bx.n by'.d, ?_⟩
    refine ⟨_, rfl, a, _, _, _, rfl, rfl, ha, rfl, _, rfl, b, _, _, _, rfl, rfl, hb, rfl, _, _, rfl, rfl, mulB bx.d by'.n, ?_⟩
    refine ⟨_, _, rfl, Int.mul_ne_zero (den_ne x) (fun z => hy (Rat.num_eq_zero.mp z)), fun p hp => ?_⟩
    rw [div_num hy]
    exact q p hp
theorem ok_opposite {f : Addr} {fd : FuncData} {k : Nat} (F : Fun K "opposite" "opposite" sOpposite f fd) : FnOk P w K mg base CX0 (k + 1) f fd ["one"] (spOpposite K) := by
  refine F.ok scOpposite (fun vs H Q E h => ?_) (fun cdv A outer s H vs Q E hr h => ?_)
  · obtain ⟨v, x, rfl, _⟩ := h; rfl
  · obtain ⟨v, x, rfl, ⟨a, rfl, ha⟩, q⟩ := h
    refine ⟨_, pss_one (ps_ret (pe_tup (pa_cons (pe_un un_neg (pe_ix ix_tup (pv 0) pe_int (fun _ _ => rfl))) (pa_cons (pe_ix ix_tup (pv 0) pe_int (fun _ _ => rfl)) pa_nil)))), ?_⟩
    refine ⟨_, rfl, a, _, _, _, rfl, rfl, ha, rfl, _, rfl, _, rfl, a, _, _, _, rfl, rfl, ha, rfl, by show 2 ≤ sizeLine; decide, fun p hp => ?_⟩
    exact q p hp
theorem ok_isLess {f : Addr} {fd : FuncData} {k : Nat} (F : Fun K "is_less" "is_less" sIsLess f fd) : FnOk P w K mg base CX0 (k + 1) f fd ["one", "other"] (spIsLess K) := by
  refine F.ok scIsLess (fun vs H Q E h => ?_) (fun cdv A outer s H vs Q E hr h => ?_)
  · obtain ⟨v, u, x, y, rfl, _⟩ := h; rfl
  · obtain ⟨v, u, x, y, rfl, ⟨a, rfl, ha⟩, ⟨b, rfl, hb⟩, bx, by', q⟩ := h
    refine ⟨_, pss_one (ps_ret (pe_cmpR op_lt (pe_op op_mulB (pe_ix ix_tup (pv 0) pe_int (fun _ _ => rfl)) (pe_ix ix_tup (pv 1) pe_int (fun _ _ => rfl))) (pe_op op_mulB (pe_ix ix_tup (pv 1) pe_int (fun _ _ => rfl)) (pe_ix ix_tup (pv 0) pe_int (fun _ _ => rfl))) (nomark _))), ?_⟩
    refine ⟨_, rfl, a, _, _, _, rfl, rfl, ha, rfl, _, rfl, b, _, _, _, rfl, rfl, hb, rfl, _, _, rfl, rfl, mulB bx.n by'.d, ?_⟩
    refine ⟨_, rfl, b, _, _, _, rfl, rfl, hb, rfl, _, rfl, a, _, _, _, rfl, rfl, ha, rfl, _, _, rfl, rfl, mulB by'.n bx.d, _, _, rfl, rfl, ?_⟩
    have e : decide (x.num * ((y.den : Nat) : Int) < y.num * ((x.den : Nat) : Int)) = decide (x < y) := decide_eq_decide.mpr (Rat.lt_iff x y).symm
    show Q (.bl (decide (x.num * ((y.den : Nat) : Int) < y.num * ((x.den : Nat) : Int)))) H
    rw [e]
    exact q
theorem ok_sign {f : Addr} {fd : FuncData} {k : Nat} (F : Fun K "sign" "sign" sSign f fd) : FnOk P w K mg base CX0 (k + 1) f fd ["one"] (spSign K) := by
  refine F.ok scSign (fun vs H Q E h => ?_) (fun cdv A outer s H vs Q E hr h => ?_)
  · obtain ⟨v, x, rfl, _⟩ := h; rfl
  · obtain ⟨v, x, rfl, ⟨a, rfl, ha⟩, q⟩ := h
    refine ⟨_, pss_cons (ps_if (pt_cmpR op_gt (pe_ix ix_tup (pv 0) pe_int (fun _ _ => rfl)) pe_int (nomark _)) (pss_one (ps_ret pe_int)) pss_nil)
      (pss_cons (ps_if (pt_cmpR op_lt (pe_ix ix_tup (pv 0) pe_int (fun _ _ => rfl)) pe_int (nomark _)) (pss_one (ps_ret (pe_un un_neg pe_int))) pss_nil)
      (pss_one (ps_ret pe_int))), ?_⟩
    refine ⟨_, rfl, a, _, _, _, rfl, rfl, ha, rfl, _, _, rfl, rfl, _, rfl, ite2 (fun e => ?_) (fun e => ?_)⟩
    · have h1 : 0 < x := BD.num_pos.mp (of_decide_eq_true e)
      have e2 : BD.sg x = 1 := by unfold BD.sg; rw [if_neg (by grind), if_pos h1]
      rw [e2] at q
      exact q
    · have h1 : ¬ 0 < x := fun z => e (decide_eq_true (BD.num_pos.mpr z))
      refine ⟨_, rfl, a, _, _, _, rfl, rfl, ha, rfl, _, _, rfl, rfl, _, rfl, ite2 (fun e => ?_) (fun e => ?_)⟩
      · have h2 : x < 0 := BD.num_neg.mp (of_decide_eq_true e)
        have e2 : BD.sg x = -1 := by unfold BD.sg; rw [if_pos h2]
        rw [e2] at q
        exact ⟨_, rfl, q⟩
      · have h2 : ¬ x < 0 := fun z => e (decide_eq_true (BD.num_neg.mpr z))
        have e2 : BD.sg x = 0 := by unfold BD.sg; rw [if_neg h2, if_neg h1]
        rw [e2] at q
        exact q
end
end BP
set_option Elab.async false
set_option linter.all false
set_option maxRecDepth 100000
set_option maxHeartbeats 2000000
namespace BP
open PySem PySem.Spec PyProof.Rows L2
/-! ### sizes -/
theorem Sz.mono {n m : Nat} {r : Rat} (h : Sz n r) (e : n ≤ m) : Sz m r :=
  ⟨Nat.lt_of_lt_of_le h.1 (Nat.pow_le_pow_right (by decide) e), Nat.lt_of_lt_of_le h.2 (Nat.pow_le_pow_right (by decide) e)⟩
theorem Sz.bg {n : Nat} {r : Rat} (h : Sz n r) (e : n ≤ LIM) : Bg r := h.mono e
/-- a fraction in lowest terms is no greater than as it's told -/
theorem low_le {x y : Int} (hy : y ≠ 0) : ((x : Rat) / (y : Rat)).num.natAbs ≤ x.natAbs ∧ ((x : Rat) / (y : Rat)).den ≤ y.natAbs := by
  have key : ∀ {x y : Int}, 0 < y → ((x : Rat) / (y : Rat)).num.natAbs ≤ x.natAbs ∧ ((x : Rat) / (y : Rat)).den ≤ y.natAbs := by
    intro x y h
    obtain ⟨h1, h2⟩ := low_of (x := x) h
    have hg : 0 < Nat.gcd x.natAbs y.natAbs := Nat.gcd_pos_of_pos_right _ (by omega)
    rw [Int.fdiv_eq_ediv_of_nonneg _ (by omega)] at h1 h2
    constructor
    · rw [← h1]
      exact Int.natAbs_ediv_le_natAbs x _
    · have e : ((((x : Rat) / (y : Rat)).den : Nat) : Int) ≤ y := by
        rw [← h2]
        exact Int.ediv_le_self _ (by omega)
      omega
  by_cases c : 0 < y
  · exact key c
  · have := key (x := -x) (y := -y) (by omega)
    rw [Rat.intCast_neg, Rat.intCast_neg, show (-(x : Rat)) / (-(y : Rat)) = (x : Rat) / (y : Rat) by grind, Int.natAbs_neg, Int.natAbs_neg] at this
    exact this
theorem pow_mul_lt {a b n m : Nat} (ha : a < 2 ^ n) (hb : b < 2 ^ m) : a * b < 2 ^ (n + m) := by
  rw [Nat.pow_add]
  exact Nat.mul_lt_mul'' ha hb
theorem Sz.mul {n m : Nat} {x y : Rat} (hx : Sz n x) (hy : Sz m y) : Sz (n + m) (x * y) := by
  have e := times_num x y
  have l := low_le (x := x.num * y.num) (y := ((x.den : Nat) : Int) * ((y.den : Nat) : Int)) (Int.mul_ne_zero (den_ne x) (den_ne y))
  rw [e] at l
  constructor
  · refine Nat.lt_of_le_of_lt l.1 ?_
    rw [Int.natAbs_mul]
    exact pow_mul_lt hx.1 hy.1
  · refine Nat.lt_of_le_of_lt l.2 ?_
    rw [Int.natAbs_mul]
    exact pow_mul_lt hx.2 hy.2
theorem Sz.div {n m : Nat} {x y : Rat} (h0 : y ≠ 0) (hx : Sz n x) (hy : Sz m y) : Sz (n + m) (x / y) := by
  have e := div_num (x := x) h0
  have l := low_le (x := x.num * ((y.den : Nat) : Int)) (y := ((x.den : Nat) : Int) * y.num) (Int.mul_ne_zero (den_ne x) (fun z => h0 (Rat.num_eq_zero.mp z)))
  rw [e] at l
  constructor
  · refine Nat.lt_of_le_of_lt l.1 ?_
    rw [Int.natAbs_mul]
    exact pow_mul_lt hx.1 hy.2
  · refine Nat.lt_of_le_of_lt l.2 ?_
    rw [Int.natAbs_mul]
    exact pow_mul_lt hx.2 hy.1
theorem Sz.add {n m : Nat} {x y : Rat} (hx : Sz n x) (hy : Sz m y) : Sz (n + m + 1) (x + y) := by
  have e := plus_num x y
  have l := low_le (x := x.num * ((y.den : Nat) : Int) + y.num * ((x.den : Nat) : Int)) (y := ((x.den : Nat) : Int) * ((y.den : Nat) : Int)) (Int.mul_ne_zero (den_ne x) (den_ne y))
  rw [e] at l
  constructor
  · refine Nat.lt_of_le_of_lt l.1 ?_
    have h1 : (x.num * ((y.den : Nat) : Int)).natAbs < 2 ^ (n + m) := by
      rw [Int.natAbs_mul]
      exact pow_mul_lt hx.1 hy.2
    have h2 : (y.num * ((x.den : Nat) : Int)).natAbs < 2 ^ (n + m) := by
      rw [Int.natAbs_mul, Nat.add_comm n m]
      exact pow_mul_lt hy.1 hx.2
    have h3 := Int.natAbs_add_le (x.num * ((y.den : Nat) : Int)) (y.num * ((x.den : Nat) : Int))
    rw [Nat.pow_succ]
    omega
  · refine Nat.lt_of_le_of_lt l.2 ?_
    have h1 : (((x.den : Nat) : Int) * ((y.den : Nat) : Int)).natAbs < 2 ^ (n + m) := by
      rw [Int.natAbs_mul]
      exact pow_mul_lt hx.2 hy.2
    exact Nat.lt_of_lt_of_le h1 (Nat.pow_le_pow_right (by decide) (by omega))
theorem Sz.neg {n : Nat} {x : Rat} (hx : Sz n x) : Sz n (-x) := by
  constructor
  · show (-x.num).natAbs < _
    rw [Int.natAbs_neg]
    exact hx.1
  · exact hx.2
theorem sz_zero (n : Nat) (h : 0 < n) : Sz n 0 := ⟨Nat.two_pow_pos n, by show 1 < 2 ^ n; exact Nat.one_lt_two_pow (by omega)⟩
/-- all factors -/
def SzP (n : Nat) (p : List Rat) : Prop := ∀ k, Sz n (BD.cf p k)
theorem SzP.bg {n : Nat} {p : List Rat} (h : SzP n p) (e : n ≤ LIM) (k : Nat) : Bg (BD.cf p k) := (h k).bg e
theorem SzP.mono {n m : Nat} {p : List Rat} (h : SzP n p) (e : n ≤ m) : SzP m p := fun k => (h k).mono e
abbrev BgP (p : List Rat) : Prop := ∀ k, Bg (BD.cf p k)
theorem SzP.add {n m : Nat} {p q : List Rat} (hp : SzP n p) (hq : SzP m q) : SzP (n + m + 1) (BD.radd p q) := fun k => by
  rw [BD.cf_radd]
  exact (hp k).add (hq k)
theorem SzP.scale {n m : Nat} {c : Rat} {p : List Rat} (hc : Sz n c) (hp : SzP m p) : SzP (n + m) (BD.rscale c p) := fun k => by
  rw [BD.cf_rscale]
  exact hc.mul (hp k)
/-! ### polynomials in the heap -/
def PlA (K : PySem.W.Frag) (H : Hp) : List V → List Rat → Prop := Paired (RtA K H)
def PoA (K : PySem.W.Frag) (H : Hp) (v : V) (p : List Rat) : Prop := ∃ a vs, v = .ref a ∧ H a = some (.lst vs) ∧ PlA K H vs p
theorem pairedMap {α β : Type} {F G : α → β → Prop} (f : ∀ a b, F a b → G a b) : ∀ {l₁ : List α} {l₂ : List β}, Paired F l₁ l₂ → Paired G l₁ l₂
  | _, _, .nil => .nil
  | _, _, .cons h t => .cons (f _ _ h) (pairedMap f t)
theorem PlA.same {K : PySem.W.Frag} {H H' : Hp} {vs : List V} {p : List Rat} (h : PlA K H vs p) (e : Same H H') : PlA K H' vs p := pairedMap (fun _ _ x => x.same e) h
theorem PoA.same {K : PySem.W.Frag} {H H' : Hp} {v : V} {p : List Rat} (h : PoA K H v p) (e : Same H H') : PoA K H' v p := by
  obtain ⟨a, vs, h1, h2, h3⟩ := h
  exact ⟨a, vs, h1, e _ _ h2, h3.same e⟩
theorem PlA.len {K : PySem.W.Frag} {H : Hp} : ∀ {vs : List V} {p : List Rat}, PlA K H vs p → vs.length = p.length
  | _, _, .nil => rfl
  | _, _, .cons _ t => congrArg (· + 1) (PlA.len t)
theorem PlA.get {K : PySem.W.Frag} {H : Hp} : ∀ {vs : List V} {p : List Rat} {k : Nat}, PlA K H vs p → k < p.length → ∃ v, vs[k]? = some v ∧ RtA K H v (BD.cf p k)
  | _, _, k, .nil, h => by simp at h
  | _, _, 0, .cons r t, _ => ⟨_, rfl, r⟩
  | _, _, k + 1, .cons r t, h => PlA.get (k := k) t (by simpa using h)
theorem sqL {K : PySem.W.Frag} {H : Hp} {a : Addr} {xs : List V} (h : H a = some (.lst xs)) : SqL K H a xs := .inl (.inl h)
/-- a list that grows beside a fraction -/
theorem RtA.beside {K : PySem.W.Frag} {H : Hp} {v : V} {r : Rat} {d : Addr} {acc acc' : List V} (h : RtA K H v r) (hd : H d = some (.lst acc)) : RtA K (upd H d (.lst acc')) v r := by
  obtain ⟨a, h1, h2⟩ := h
  refine ⟨a, h1, ?_⟩
  rcases h2 with (h | ⟨o, h⟩) | h
  · exact .inl (.inl (by rw [upd_ne (ne_of h hd (by intro z; cases z))]; exact h))
  · exact .inl (.inr ⟨o, by rw [upd_ne (ne_of h hd (by intro z; cases z))]; exact h⟩)
  · exact .inr h
theorem PlA.beside {K : PySem.W.Frag} {H : Hp} {vs : List V} {p : List Rat} {d : Addr} {acc acc' : List V} (h : PlA K H vs p) (hd : H d = some (.lst acc)) : PlA K (upd H d (.lst acc')) vs p := pairedMap (fun _ _ x => x.beside hd) h
theorem same_grow {H H' : Hp} {d : Addr} {o : HO} (e : Same H H') (n : H d = none) : Same H (upd H' d o) := fun b x q => by
  rw [upd_ne (ne_of_none q n)]
  exact e b x q
/-- a new polynomial -/
def NewP (K : PySem.W.Frag) (H : Hp) (r : List Rat) (Q : VK) : Prop := ∀ (H' : Hp) (d : Addr) (acc : List V), Same H H' → H d = none → H' d = some (.lst acc) → PlA K H' acc r → Q (.ref d) H'
/-- a comprehension without an if -/
theorem yes {σ : L2.St} {H : Hp} {A B : Hp → Prop} (h : A H) : tYes σ H fun b H3 => if b = true then A H3 else B H3 := by
  show if true = true then A H else B H
  rw [if_pos rfl]
  exact h
/-- the constants -/
structure Con (K : PySem.W.Frag) (mg : Str → Option Value) (z o : Addr) : Prop where
  mz : mg "ZERO" = some (.ref z)
  mo : mg "ONE" = some (.ref o)
  sz : ∀ H, SqT K H z (fr 0)
  so : ∀ H, SqT K H o (fr 1)
  len : mg "len" = none
  max : mg "max" = none
  range : mg "range" = none
  abs : mg "abs" = none
theorem Con.zero {K : PySem.W.Frag} {mg : Str → Option Value} {z o : Addr} (c : Con K mg z o) (H : Hp) : RtA K H (.ref z) 0 := ⟨z, rfl, c.sz H⟩
theorem Con.one {K : PySem.W.Frag} {mg : Str → Option Value} {z o : Addr} (c : Con K mg z o) (H : Hp) : RtA K H (.ref o) 1 := ⟨o, rfl, c.so H⟩
abbrev sFactor : Stmt := topS 13
abbrev sAdded : Stmt := topS 14
abbrev sScaled : Stmt := topS 15
abbrev sRaised : Stmt := topS 16
theorem scFactor : FnScope ["polynomial", "power"] ["polynomial", "power"] (defScope sFactor) := ⟨rfl, rfl, rfl, by decide +kernel, rfl, by decide +kernel, by decide +kernel⟩
theorem scAdded : FnScope ["one", "other", "longest", "power"] ["one", "other"] (defScope sAdded) := ⟨rfl, rfl, rfl, by decide +kernel, rfl, by decide +kernel, by decide +kernel⟩
theorem scScaled : FnScope ["polynomial", "number", "factor"] ["polynomial", "number"] (defScope sScaled) := ⟨rfl, rfl, rfl, by decide +kernel, rfl, by decide +kernel, by decide +kernel⟩
theorem scRaised : FnScope ["polynomial", "steps"] ["polynomial", "steps"] (defScope sRaised) := ⟨rfl, rfl, rfl, by decide +kernel, rfl, by decide +kernel, by decide +kernel⟩
section
variable {P : Program} {w : World} {K : PySem.W.Frag} {mg : Str → Option Value} {base : Heap} {z o : Addr}
def spFactor (K : PySem.W.Frag) : Sp := fun vs H Q _ => ∃ (v : V) (p : List Rat) (k : Nat), vs = [v, .int k] ∧ PoA K H v p ∧ ∀ u, RtA K H u (BD.cf p k) → Q u H
theorem ok_factor {f : Addr} {fd : FuncData} {k : Nat} (F : Fun K "factor_of" "factor_of" sFactor f fd) (c : Con K mg z o) : FnOk P w K mg base CX0 (k + 1) f fd ["polynomial", "power"] (spFactor K) := by
  refine F.ok scFactor (fun vs H Q E h => ?_) (fun cdv A outer s H vs Q E hr h => ?_)
  · obtain ⟨v, p, k, rfl, _⟩ := h; rfl
  · obtain ⟨v, p, k, rfl, ⟨a, xs, rfl, ha, hp⟩, q⟩ := h
    refine ⟨_, pss_one (ps_ret (pe_ifExp (pt_cmpR op_lt (pv 1) (pe_callB call_len_seq (by rfl) c.len PySem.boot_len (pa_cons (pv 0) pa_nil)) (nomark _)) (pe_ix ix_list (pv 0) (pv 1) (fun _ _ => rfl)) (pe_glob (v := .ref z) (by rfl) c.mz rfl))), ?_⟩
    refine ⟨_, rfl, _, rfl, a, xs, rfl, .inl (sqL ha), _, _, rfl, rfl, _, rfl, ite2 (fun e => ?_) (fun e => ?_)⟩
    · have hk : k < p.length := by
        have h1 : (k : Int) < (xs.length : Int) := of_decide_eq_true e
        have := hp.len
        omega
      obtain ⟨u, hu, hr⟩ := hp.get hk
      exact ⟨_, rfl, _, rfl, a, xs, _, u, rfl, rfl, sqL ha, atI_nat hu, q u hr⟩
    · have hk : p.length ≤ k := by
        have h1 : ¬ (k : Int) < (xs.length : Int) := fun y => e (decide_eq_true y)
        have := hp.len
        omega
      refine q _ ?_
      rw [BD.cf_low hk]
      exact c.zero H
def spAdded (K : PySem.W.Frag) : Sp := fun vs H Q _ => ∃ (v u : V) (p q : List Rat), vs = [v, u] ∧ PoA K H v p ∧ PoA K H u q ∧ BgP p ∧ BgP q ∧ p.length ≤ 1000 ∧ q.length ≤ 1000 ∧ NewP K H (BD.radd p q) Q
theorem ok_added {f : Addr} {fd : FuncData} (F : Fun K "added" "added" sAdded f fd) (c : Con K mg z o) (C1 : Cal P w K mg base 1 "factor_of" ["polynomial", "power"] (spFactor K)) (C2 : Cal P w K mg base 41 "plus" ["one", "other"] (spPlus K)) : FnOk P w K mg base CX0 42 f fd ["one", "other"] (spAdded K) := by
  refine F.ok scAdded (fun vs H Q E h => ?_) (fun cdv A outer s H vs Q E hr h => ?_)
  · obtain ⟨v, u, p, q, rfl, _⟩ := h; rfl
  · obtain ⟨v, u, p, q, rfl, hv, hu, bp, bq, lp, lq, k⟩ := h
    have hv0 := hv
    have hu0 := hu
    obtain ⟨a, xs, rfl, ha, hp⟩ := hv
    obtain ⟨b, ys, rfl, hb, hq⟩ := hu
    refine ⟨_, pss_cons (ps_set (i := 2) scAdded.nd rfl (.inl rfl) (pe_callB (call_max2 rfl) (by rfl) c.max (by decide +kernel) (pa_cons (pe_callB call_len_seq (by rfl) c.len PySem.boot_len (pa_cons (pv 0) pa_nil)) (pa_cons (pe_callB call_len_seq (by rfl) c.len PySem.boot_len (pa_cons (pv 1) pa_nil)) pa_nil))))
      (pss_one (ps_ret (pe_lc (own := [("power", 3)]) (g := gName 3) (tt := tYes) rfl scAdded.nd (pi_range1 (by rfl) c.range (pa_cons (pv 2) pa_nil)) (blkOk_by (own := [("power", 3)]) (N := ["one", "other", "longest", "power"]) (sc := defScope sAdded) (by decide +kernel))
        (fun _ _ _ _ _ => pg_name (i := 3) scAdded.nd rfl (Or.inl rfl)) (fun _ _ _ _ _ => pts_nil)
        (fun _ _ _ _ _ => pe_cal C2 hr (pa_cons (pe_cal C1 (hr.mono (by decide)) (pa_cons (pv 0) (pa_cons (pv 3) pa_nil))) (pa_cons (pe_cal C1 (hr.mono (by decide)) (pa_cons (pv 1) (pa_cons (pv 3) pa_nil))) pa_nil)))))), ?_⟩
    refine ⟨_, rfl, a, xs, rfl, .inl (sqL ha), _, rfl, b, ys, rfl, .inl (sqL hb), _, _, rfl, ?_⟩
    have e1 : (if (ys.length : Int) > (xs.length : Int) then (ys.length : Int) else (xs.length : Int)) = ((max p.length q.length : Nat) : Int) := by
      have := hp.len
      have := hq.len
      split <;> omega
    rw [e1]
    refine ⟨_, rfl, _, rfl, by omega, by omega, fun D hD => ?_⟩
    rw [show (((max p.length q.length : Nat) : Int)).toNat = max p.length q.length by omega]
    refine lc_range (lo := 0) (n := max p.length q.length) (fun i H' => Same H H' ∧ ∃ acc, H' D = some (.lst acc) ∧ PlA K H' acc (BD.toL i fun j => BD.cf p j + BD.cf q j)) ⟨same_upd hD, [], upd_same, .nil⟩ (fun i H' hi hPv => ?_) (fun H' hPv => ?_)
    · obtain ⟨sm, acc, hacc, hpl⟩ := hPv
      refine ⟨rfl, yes ?_⟩
      refine ⟨_, rfl, _, rfl, .ref a, p, i, by rw [Int.zero_add]; rfl, hv0.same sm, fun u hu => ?_⟩
      refine ⟨_, rfl, _, rfl, .ref b, q, i, by rw [Int.zero_add]; rfl, hu0.same sm, fun u2 hu2 => ?_⟩
      refine ⟨u, u2, _, _, rfl, hu, hu2, bp i, bq i, trivial, fun t ht => ?_⟩
      have st := same_upd (o := .tup (fr (BD.cf p i + BD.cf q i))) ht
      have hacc2 := st _ _ hacc
      refine ⟨acc, hacc2, ?_, same_grow (sm.trans st) hD, acc ++ [.ref t], upd_same, ?_⟩
      · rw [hpl.len, BD.toL_len]
        exact small1000 (by omega)
      · rw [BD.toL_succ]
        exact Paired.snoc ((hpl.same st).beside hacc2) (rtA_new.beside hacc2)
    · obtain ⟨sm, acc, hacc, hpl⟩ := hPv
      exact k H' D acc sm hD hacc hpl
end
end BP
set_option Elab.async false
set_option linter.all false
set_option maxRecDepth 100000
set_option maxHeartbeats 2000000
namespace BP
open PySem PySem.Spec PyProof.Rows L2
abbrev sTrimmed : Stmt := topS 17
abbrev sValueAt : Stmt := topS 18
abbrev sDerivative : Stmt := topS 19
abbrev sRemainder : Stmt := topS 20
theorem scTrimmed : FnScope ["polynomial", "end"] ["polynomial"] (defScope sTrimmed) := ⟨rfl, rfl, rfl, by decide +kernel, rfl, by decide +kernel, by decide +kernel⟩
theorem scValueAt : FnScope ["polynomial", "place", "value", "power"] ["polynomial", "place"] (defScope sValueAt) := ⟨rfl, rfl, rfl, by decide +kernel, rfl, by decide +kernel, by decide +kernel⟩
theorem scDerivative : FnScope ["polynomial", "power"] ["polynomial"] (defScope sDerivative) := ⟨rfl, rfl, rfl, by decide +kernel, rfl, by decide +kernel, by decide +kernel⟩
theorem scRemainder : FnScope ["one", "other", "rest", "share", "taken"] ["one", "other"] (defScope sRemainder) := ⟨rfl, rfl, rfl, by decide +kernel, rfl, by decide +kernel, by decide +kernel⟩
/-! ### lists -/
theorem take_more {α : Type} : ∀ {l : List α} {i : Nat} {x : α}, l[i]? = some x → l.take (i + 1) = l.take i ++ [x]
  | [], i, x, h => by simp at h
  | a :: l, 0, x, h => by
    have e : a = x := Option.some.inj h
    subst e; rfl
  | a :: l, i + 1, x, h => by
    have ih := take_more (l := l) (i := i) (x := x) h
    show a :: l.take (i + 1) = a :: l.take i ++ [x]
    rw [ih]; rfl
theorem PlA.at {K : PySem.W.Frag} {H : Hp} : ∀ {vs : List V} {p : List Rat} {k : Nat} {v : V}, PlA K H vs p → vs[k]? = some v → p[k]? = some (BD.cf p k) ∧ RtA K H v (BD.cf p k)
  | _, _, k, v, .nil, h => by simp at h
  | _, _, 0, v, .cons r t, h => by
    have e := Option.some.inj h
    subst e
    exact ⟨rfl, r⟩
  | _, _, k + 1, v, .cons r t, h => PlA.at (k := k) t h
theorem cf_some {p : List Rat} {k : Nat} (h : k < p.length) : p[k]? = some (BD.cf p k) := by
  unfold BD.cf
  rw [List.getD_eq_getElem?_getD, List.getElem?_eq_getElem h]; rfl
theorem PlA.app {K : PySem.W.Frag} {H : Hp} : ∀ {vs us : List V} {p q : List Rat}, PlA K H vs p → PlA K H us q → PlA K H (vs ++ us) (p ++ q)
  | _, _, _, _, .nil, h => h
  | _, _, _, _, .cons r t, h => .cons r (PlA.app t h)
theorem PlA.rep {K : PySem.W.Frag} {H : Hp} {v : V} {r : Rat} (h : RtA K H v r) : ∀ n, PlA K H (List.replicate n v) (List.replicate n r)
  | 0 => .nil
  | n + 1 => by
    rw [List.replicate_succ, List.replicate_succ]
    exact .cons h (PlA.rep h n)
theorem PlA.take {K : PySem.W.Frag} {H : Hp} : ∀ {vs : List V} {p : List Rat} (n : Nat), PlA K H vs p → PlA K H (vs.take n) (p.take n)
  | _, _, 0, _ => .nil
  | _, _, _ + 1, .nil => .nil
  | _, _, n + 1, .cons r t => .cons r (PlA.take n t)
theorem flat_rep (v : V) : ∀ n, (List.replicate n [v]).flatten = List.replicate n v
  | 0 => rfl
  | n + 1 => by rw [List.replicate_succ, List.flatten_cons, flat_rep v n]; rfl
theorem cut_to {xs : List V} {n : Nat} (h : n ≤ xs.length) : cutV xs none (some (n : Int)) = xs.take n := by
  unfold cutV
  rw [HT.sIx_none, HT.sIx_nat, List.drop_zero, Nat.sub_zero, Nat.min_eq_left h]
section
variable {P : Program} {w : World} {K : PySem.W.Frag} {mg : Str → Option Value} {base : Heap} {z o : Addr}
def spScaled (K : PySem.W.Frag) : Sp := fun vs H Q _ => ∃ (v u : V) (p : List Rat) (c : Rat), vs = [v, u] ∧ PoA K H v p ∧ RtA K H u c ∧ BgP p ∧ Bg c ∧ p.length ≤ 1000 ∧ NewP K H (BD.rscale c p) Q
theorem ok_scaled {f : Addr} {fd : FuncData} (F : Fun K "scaled" "scaled" sScaled f fd) (C1 : Cal P w K mg base 41 "times" ["one", "other"] (spTimes K)) : FnOk P w K mg base CX0 42 f fd ["polynomial", "number"] (spScaled K) := by
  refine F.ok scScaled (fun vs H Q E h => ?_) (fun cdv A outer s H vs Q E hr h => ?_)
  · obtain ⟨v, u, p, c, rfl, _⟩ := h; rfl
  · obtain ⟨v, u, p, c, rfl, ⟨a, xs, rfl, ha, hp⟩, hu, bp, bc, lp, k⟩ := h
    refine ⟨_, pss_one (ps_ret (pe_lc (own := [("factor", 2)]) (g := gName 2) (tt := tYes) rfl scScaled.nd (pi_list (pv 0)) (blkOk_by (own := [("factor", 2)]) (N := ["polynomial", "number", "factor"]) (sc := defScope sScaled) (by decide +kernel))
        (fun _ _ _ _ _ => pg_name (i := 2) scScaled.nd rfl (Or.inl rfl)) (fun _ _ _ _ _ => pts_nil)
        (fun _ _ _ _ _ => pe_cal C1 hr (pa_cons (pv 2) (pa_cons (pv 1) pa_nil))))), ?_⟩
    refine ⟨_, rfl, a, rfl, ⟨_, sqL ha⟩, fun D hD => ?_⟩
    refine lc_list (K := K) (a := a) (xs := xs) (fun i H' => Same H H' ∧ ∃ acc, H' D = some (.lst acc) ∧ PlA K H' acc ((BD.rscale c p).take i)) ⟨same_upd hD, [], upd_same, .nil⟩ (fun i H' _ hPv => sqL (hPv.1 _ _ ha)) (fun i x H' hx hPv => ?_) (fun H' hPv => ?_)
    · obtain ⟨sm, acc, hacc, hpl⟩ := hPv
      have hi : i < xs.length := (List.getElem?_eq_some_iff.mp hx).1
      have hlen := hp.len
      obtain ⟨_, hx2⟩ := hp.at hx
      refine ⟨rfl, yes ?_⟩
      refine ⟨_, rfl, _, rfl, x, u, _, c, rfl, hx2.same sm, hu.same sm, bp i, bc, trivial, fun t ht => ?_⟩
      have st := same_upd (o := .tup (fr (BD.cf p i * c))) ht
      have hacc2 := st _ _ hacc
      have e : (BD.rscale c p)[i]? = some (BD.cf p i * c) := by
        unfold BD.rscale
        rw [List.getElem?_map, cf_some (by omega)]
        show some (c * BD.cf p i) = _
        rw [Rat.mul_comm]
      refine ⟨acc, hacc2, ?_, same_grow (sm.trans st) hD, acc ++ [.ref t], upd_same, ?_⟩
      · rw [hpl.len, List.length_take]
        exact small1000 (by have := BD.rscale_len c p; omega)
      · rw [take_more e]
        exact Paired.snoc ((hpl.same st).beside hacc2) (rtA_new.beside hacc2)
    · obtain ⟨sm, acc, hacc, hpl⟩ := hPv
      rw [List.take_of_length_le (by rw [BD.rscale_len, hp.len]; exact Nat.le_refl _)] at hpl
      exact k H' D acc sm hD hacc hpl
def spRaised (K : PySem.W.Frag) : Sp := fun vs H Q _ => ∃ (v : V) (p : List Rat) (n : Nat), vs = [v, .int n] ∧ PoA K H v p ∧ n ≤ 1000 ∧ p.length ≤ 1000 ∧ NewP K H (List.replicate n 0 ++ p) Q
theorem ok_raised {f : Addr} {fd : FuncData} {k : Nat} (F : Fun K "raised" "raised" sRaised f fd) (c : Con K mg z o) : FnOk P w K mg base CX0 (k + 1) f fd ["polynomial", "steps"] (spRaised K) := by
  refine F.ok scRaised (fun vs H Q E h => ?_) (fun cdv A outer s H vs Q E hr h => ?_)
  · obtain ⟨v, p, n, rfl, _⟩ := h; rfl
  · obtain ⟨v, p, n, rfl, ⟨a, xs, rfl, ha, hp⟩, ln, lp, k⟩ := h
    refine ⟨_, pss_one (ps_ret (pe_op op_cat (pe_op op_rep (pe_lst (pa_cons (pe_glob (v := .ref z) (by rfl) c.mz rfl) pa_nil)) (pv 1)) (pv 0))), ?_⟩
    refine ⟨by show 1 ≤ sizeLine; decide, fun l hl => ⟨_, rfl, l, (n : Int), [.ref z], rfl, rfl, upd_same, by omega, by omega, ?_, fun m hm => ?_⟩⟩
    · show 1 * ((n : Int)).toNat ≤ sizeLine
      have := small1000 ln
      omega
    · have s1 := same_upd (o := .lst [.ref z]) hl
      have s2 := same_upd (o := .lst (List.replicate ((n : Int)).toNat [V.ref z]).flatten) hm
      refine ⟨_, rfl, m, a, _, xs, rfl, rfl, upd_same, s2 _ _ (s1 _ _ ha), ?_, fun d hd => ?_⟩
      · rw [flat_rep, List.length_replicate, hp.len, Int.toNat_natCast]
        have := small1000 (n := 1000) (Nat.le_refl _)
        have h2 : 2000 ≤ sizeLine := by decide
        omega
      · have s3 := same_upd (o := .lst ((List.replicate ((n : Int)).toNat [V.ref z]).flatten ++ xs)) hd
        refine k _ d _ ((s1.trans s2).trans s3) ((s1.trans s2).free hd) upd_same ?_
        have hh := hp.same ((s1.trans s2).trans s3)
        have e : (List.replicate ((n : Int)).toNat [V.ref z]).flatten = List.replicate n (V.ref z) := by rw [flat_rep, Int.toNat_natCast]
        generalize upd (upd (upd H l (HO.lst [V.ref z])) m (HO.lst (List.replicate ((n : Int)).toNat [V.ref z]).flatten)) d (HO.lst ((List.replicate ((n : Int)).toNat [V.ref z]).flatten ++ xs)) = HH at hh ⊢
        rw [e]
        exact PlA.app (PlA.rep (c.zero _) n) hh
/-! ### trimmed -/
def spTrimmed (K : PySem.W.Frag) : Sp := fun vs H Q _ => ∃ (v : V) (p : List Rat), vs = [v] ∧ PoA K H v p ∧ p.length ≤ 1000 ∧ NewP K H (BD.rtrim p) Q
theorem eq_zero (x : Rat) : PyData.eqv (.tuple [.int x.num, .int ((x.den : Nat) : Int)]) (.tuple [.int 0, .int 1]) = decide (x = 0) := by
  show ((x.num == 0) && (((x.den : Nat) : Int) == 1 && true)) = decide (x = 0)
  by_cases h : x = 0
  · subst h; rfl
  · rw [decide_eq_false h]
    have : (x.num == 0) = false := beq_eq_false_iff_ne.mpr fun z => h (Rat.num_eq_zero.mp z)
    rw [this]; rfl
theorem trim_take {p : List Rat} {n : Nat} (h : n ≤ p.length) (hz : ∀ k, n ≤ k → BD.cf p k = 0) (hn : n = 0 ∨ BD.cf p (n - 1) ≠ 0) : BD.rtrim p = p.take n := by
  have lt : (p.take n).length = n := by rw [List.length_take]; omega
  have ct : ∀ i, i < n → BD.cf (p.take n) i = BD.cf p i := fun i hi => by
    unfold BD.cf
    rw [List.getD_eq_getElem?_getD, List.getD_eq_getElem?_getD, List.getElem?_take_of_lt hi]
  have e : p = BD.toL p.length (BD.cf p) := BD.eq_toL rfl fun _ _ => rfl
  have tr : BD.Tr (p.take n) := by
    rcases hn with h0 | h0
    · left; rw [h0]; rfl
    · by_cases c : n = 0
      · left; rw [c]; rfl
      · right; rw [lt, ct _ (by omega)]; exact h0
  conv => lhs; rw [e]
  refine BD.rtrim_toL tr (by omega) fun i hi => ?_
  by_cases c : i < n
  · exact ct i c
  · rw [BD.cf_low (by omega), hz i (by omega)]
theorem ok_trimmed {f : Addr} {fd : FuncData} {k : Nat} (F : Fun K "trimmed" "trimmed" sTrimmed f fd) (c : Con K mg z o) : FnOk P w K mg base CX0 (k + 1) f fd ["polynomial"] (spTrimmed K) := by
  refine F.ok scTrimmed (fun vs H Q E h => ?_) (fun cdv A outer s H vs Q E hr h => ?_)
  · obtain ⟨v, p, rfl, _⟩ := h; rfl
  · obtain ⟨v, p, rfl, ⟨a, xs, rfl, ha, hp⟩, lp, k⟩ := h
    refine ⟨_, pss_cons (ps_set (i := 1) scTrimmed.nd rfl (.inl rfl) (pe_callB call_len_seq (by rfl) c.len PySem.boot_len (pa_cons (pv 0) pa_nil)))
      (pss_cons (ps_while PassesOwn.never (PW.pt (pw_and (pt_cmpR op_gt (pv 1) pe_int (nomark _)) (pw_and1 (pt_cmpR (op_eqD hr.units) (pe_ix ix_list (pv 0) (pe_op op_sub (pv 1) pe_int) (fun _ _ => rfl)) (pe_glob (v := .ref z) (by rfl) c.mz rfl) (nomark _)))))
        (pss_one (ps_set (i := 1) scTrimmed.nd rfl (.inl rfl) (pe_op op_sub (pv 1) pe_int))))
      (pss_one (ps_ret (pe_slice sl_list (pv 0) po_none (po_some (pv 1)))))), ?_⟩
    have hlen := hp.len
    refine ⟨_, rfl, a, xs, rfl, .inl (sqL ha), ?_⟩
    refine ⟨fun m σ H1 => m ≤ p.length ∧ σ = [some (.ref a), some (.int m)] ∧ H1 = H ∧ ∀ k, m ≤ k → BD.cf p k = 0, ⟨p.length, Nat.le_refl _, by rw [← hlen]; rfl, rfl, fun k hk => BD.cf_low hk⟩, ?_⟩
    rintro m σ H1 ⟨hm, rfl, rfl, hz⟩
    -- where the loop ends
    by_cases c0 : m = 0
    · refine ⟨_, rfl, _, _, rfl, rfl, _, rfl, ?_⟩
      subst c0
      refine iteF ?_
      refine iteF ?_
      refine ⟨_, rfl, _, rfl, _, rfl, a, xs, rfl, sqL ha, fun d hd => ?_⟩
      refine k _ d _ (same_upd hd) hd upd_same ?_
      rw [show (((0 : Nat) : Int)) = ((0 : Nat) : Int) from rfl, cut_to (by omega), trim_take hm hz (.inl rfl)]
      exact (hp.take 0).same (same_upd hd)
    · obtain ⟨u, hu, hru⟩ := hp.get (k := m - 1) (by omega)
      obtain ⟨t, rfl, ht⟩ := hru
      refine ⟨_, rfl, _, _, rfl, rfl, _, rfl, ?_⟩
      have g0 : decide ((0 : Int) < (m : Int)) = true := decide_eq_true (by omega)
      rw [g0]
      refine iteT ?_
      refine ⟨_, rfl, _, rfl, _, _, rfl, rfl, a, xs, _, .ref t, rfl, rfl, sqL ha, ?_, .tuple [.int (BD.cf p (m - 1)).num, .int (((BD.cf p (m - 1)).den : Nat) : Int)], .tuple [.int 0, .int 1], .tup ht (.cons (.int _) (.cons (.int _) .nil)), .tup (c.sz _) (.cons (.int _) (.cons (.int _) .nil)), rfl, rfl, _, rfl, ?_⟩
      · rw [show (m : Int) - 1 = ((m - 1 : Nat) : Int) by omega]
        exact atI_nat hu
      · rw [eq_zero]
        by_cases cz : BD.cf p (m - 1) = 0
        · rw [decide_eq_true cz]
          refine iteT ?_
          refine ⟨fun σ' H' => σ' = [some (.ref a), some (.int ((m - 1 : Nat) : Int))] ∧ H' = H1, ?_, ?_⟩
          · rintro σ' H' ⟨rfl, rfl⟩
            refine ⟨m - 1, by omega, by omega, rfl, rfl, fun j hj => ?_⟩
            by_cases cj : j = m - 1
            · rw [cj]; exact cz
            · exact hz j (by omega)
          · refine ⟨_, rfl, _, _, rfl, rfl, ?_, rfl⟩
            show [some (V.ref a), some (V.int ((m : Int) - 1))] = _
            rw [show (m : Int) - 1 = ((m - 1 : Nat) : Int) by omega]
        · rw [decide_eq_false cz]
          refine iteF ?_
          refine ⟨_, rfl, _, rfl, _, rfl, a, xs, rfl, sqL ha, fun d hd => ?_⟩
          refine k _ d _ (same_upd hd) hd upd_same ?_
          rw [cut_to (by omega), trim_take hm hz (.inr cz)]
          exact (hp.take m).same (same_upd hd)
end
end BP
set_option Elab.async false
set_option linter.all false
set_option maxRecDepth 100000
set_option maxHeartbeats 2000000
namespace BP
open PySem PySem.Spec PyProof.Rows L2
theorem atI_neg1 {xs : List V} {v : V} (h : xs[xs.length - 1]? = some v) : atI xs (-1) = some v := by
  have hl : xs.length - 1 < xs.length := (List.getElem?_eq_some_iff.mp h).1
  have e : ixN xs.length (-1) = some (xs.length - 1) := by
    unfold ixN
    rw [if_neg (by decide), if_pos (by omega)]
    congr 1
    omega
  unfold atI
  rw [e]
  exact h
theorem PlA.last {K : PySem.W.Frag} {H : Hp} {vs : List V} {p : List Rat} (h : PlA K H vs p) (hp : p ≠ []) : ∃ v, atI vs (-1) = some v ∧ RtA K H v (BD.cf p (p.length - 1)) := by
  have : 0 < p.length := List.length_pos_iff.mpr hp
  obtain ⟨v, h1, h2⟩ := h.get (k := p.length - 1) (by omega)
  exact ⟨v, atI_neg1 (by rw [h.len]; exact h1), h2⟩
/-! ### the division's steps -/
theorem rtrim_short {f : Nat → Rat} {m : Nat} (h : f m = 0) : (BD.rtrim (BD.toL (m + 1) f)).length ≤ m := by
  rw [BD.toL_succ, BD.rtrim_snoc, if_pos h]
  exact (BD.rtrim_len m _ (BD.toL_len _ _)).1
theorem rstep_len {p q : List Rat} (hq : BD.cf q (q.length - 1) ≠ 0) (hl : q.length ≤ p.length) : (BD.rstep p q).length < p.length := by
  have hq0 : q ≠ [] := fun z => by subst z; exact hq rfl
  have l1 : 0 < q.length := List.length_pos_iff.mpr hq0
  have hp0 : p ≠ [] := fun z => by
    subst z
    have : q.length ≤ 0 := hl
    omega
  have e : p.length = (p.length - 1) + 1 := by omega
  unfold BD.rstep
  rw [BD.lastD_cf p hp0, BD.lastD_cf q hq0]
  have key : ∀ (f : Nat → Rat) (n : Nat), n = (n - 1) + 1 → f (n - 1) = 0 → (BD.rtrim (BD.toL n f)).length < n := fun f n hn hf => by
    rw [hn]
    have := rtrim_short (f := f) (m := n - 1) hf
    omega
  refine key _ _ e ?_
  show (if p.length - 1 < p.length - q.length then BD.cf p (p.length - 1) else BD.cf p (p.length - 1) - BD.cf p (p.length - 1) / BD.cf q (q.length - 1) * BD.cf q (p.length - 1 - (p.length - q.length))) = 0
  rw [if_neg (by omega), show p.length - 1 - (p.length - q.length) = q.length - 1 by omega]
  grind
theorem rrest_fuel {q : List Rat} (hq : BD.cf q (q.length - 1) ≠ 0) : ∀ (n : Nat) (r : List Rat) (f g : Nat), r.length ≤ n → r.length + 1 ≤ f → r.length + 1 ≤ g → BD.rrest f r q = BD.rrest g r q
  | n, r, f, g, hn, hf, hg => by
    match f, g, hf, hg with
    | f + 1, g + 1, hf, hg =>
      unfold BD.rrest
      by_cases c : r.length < q.length ∨ q = []
      · rw [if_pos c, if_pos c]
      · rw [if_neg c, if_neg c]
        have hl : q.length ≤ r.length := by
          by_cases z : r.length < q.length
          · exact absurd (.inl z) c
          · omega
        have hs := rstep_len hq hl
        cases n with
        | zero => omega
        | succ n => exact rrest_fuel hq n _ f g (by omega) (by omega) (by omega)
theorem cf_app (p q : List Rat) (i : Nat) : BD.cf (p ++ q) i = if i < p.length then BD.cf p i else BD.cf q (i - p.length) := by
  unfold BD.cf
  rw [List.getD_eq_getElem?_getD, List.getElem?_append, List.getD_eq_getElem?_getD, List.getD_eq_getElem?_getD]
  by_cases c : i < p.length
  · rw [if_pos c, if_pos c]
  · rw [if_neg c, if_neg c]
theorem cf_rep (n i : Nat) : BD.cf (List.replicate n 0) i = 0 := by
  unfold BD.cf
  rw [List.getD_eq_getElem?_getD, List.getElem?_replicate]
  by_cases h : i < n
  · rw [if_pos h]; rfl
  · rw [if_neg h]; rfl
theorem cf_raise (n : Nat) (q : List Rat) (i : Nat) : BD.cf (List.replicate n 0 ++ q) i = if i < n then 0 else BD.cf q (i - n) := by
  rw [cf_app, List.length_replicate, cf_rep]
/-- the program's step is the specification's -/
theorem step_eq {p q : List Rat} (hq0 : q ≠ []) (hl : q.length ≤ p.length) : BD.rtrim (BD.radd p (BD.rscale (-(BD.cf p (p.length - 1) / BD.cf q (q.length - 1))) (List.replicate (p.length - q.length) 0 ++ q))) = BD.rstep p q := by
  have hp0 : p ≠ [] := fun z => by
    subst z
    have : 0 < q.length := List.length_pos_iff.mpr hq0
    have : q.length ≤ 0 := hl
    omega
  unfold BD.rstep
  rw [BD.lastD_cf p hp0, BD.lastD_cf q hq0]
  congr 1
  refine BD.eq_toL ?_ fun i hi => ?_
  · rw [BD.radd_len, BD.rscale_len, List.length_append, List.length_replicate]; omega
  · rw [BD.cf_radd, BD.cf_rscale, cf_raise]
    by_cases c : i < p.length - q.length
    · rw [if_pos c, if_pos c]; grind
    · rw [if_neg c, if_neg c]; grind
theorem rstep_sz {n m : Nat} {p q : List Rat} (hp : SzP n p) (hq : SzP m q) (hq0 : q ≠ []) (hz : BD.cf q (q.length - 1) ≠ 0) (hl : q.length ≤ p.length) : SzP (2 * n + 2 * m + 1) (BD.rstep p q) := by
  rw [← step_eq hq0 hl]
  intro k
  rw [(BD.rtrim_len _ _ rfl).2 k, BD.cf_radd, BD.cf_rscale, cf_raise]
  have hc : Sz (n + m) (-(BD.cf p (p.length - 1) / BD.cf q (q.length - 1))) := (Sz.div hz (hp _) (hq _)).neg
  have hx : Sz m (if k < p.length - q.length then 0 else BD.cf q (k - (p.length - q.length))) := by
    by_cases c : k < p.length - q.length
    · rw [if_pos c, ← BD.cf_low (p := q) (Nat.le_refl _)]
      exact hq _
    · rw [if_neg c]; exact hq _
  exact ((hp k).add (hc.mul hx)).mono (by omega)
section
variable {P : Program} {w : World} {K : PySem.W.Frag} {mg : Str → Option Value} {base : Heap} {z o : Addr}
/-! ### value_at -/
def spValueAt (K : PySem.W.Frag) : Sp := fun vs H Q _ => ∃ (v u : V) (p : List Rat) (x : Rat), vs = [v, u] ∧ PoA K H v p ∧ RtA K H u x ∧ p.length ≤ 1000 ∧ BgP p ∧ Bg x ∧ (∀ i, Bg (BD.ev x (p.drop i)) ∧ Bg (BD.ev x (p.drop i) * x)) ∧
  ∀ (H' : Hp) (u' : V), Same H H' → RtA K H' u' (BD.ev x p) → Q u' H'
theorem ev_drop (x : Rat) : ∀ {p : List Rat} {k : Nat}, k < p.length → BD.ev x (p.drop k) = BD.ev x (p.drop (k + 1)) * x + BD.cf p k
  | c :: p, 0, _ => rfl
  | c :: p, k + 1, h => ev_drop x (p := p) (k := k) (by simpa using h)
theorem ok_valueAt {f : Addr} {fd : FuncData} (F : Fun K "value_at" "value_at" sValueAt f fd) (c : Con K mg z o) (C1 : Cal P w K mg base 41 "plus" ["one", "other"] (spPlus K)) (C2 : Cal P w K mg base 41 "times" ["one", "other"] (spTimes K)) : FnOk P w K mg base CX0 42 f fd ["polynomial", "place"] (spValueAt K) := by
  refine F.ok scValueAt (fun vs H Q E h => ?_) (fun cdv A outer s H vs Q E hr h => ?_)
  · obtain ⟨v, u, p, x, rfl, _⟩ := h; rfl
  · obtain ⟨v, u, p, x, rfl, hv, hu, lp, bp, bx, bh, k⟩ := h
    have hv0 := hv
    obtain ⟨a, xs, rfl, ha, hp⟩ := hv
    have hlen := hp.len
    refine ⟨_, pss_cons (ps_set (i := 2) scValueAt.nd rfl (.inl rfl) (pe_glob (v := .ref z) (by rfl) c.mz rfl))
      (pss_cons (ps_for PassesOwn.never rfl (pi_range3 (by rfl) c.range (pa_cons (pe_op op_sub (pe_callB call_len_seq (by rfl) c.len PySem.boot_len (pa_cons (pv 0) pa_nil)) pe_int) (pa_cons (pe_un un_neg pe_int) (pa_cons (pe_un un_neg pe_int) pa_nil))))
          (pg_name (i := 3) scValueAt.nd rfl (.inl rfl))
        (pss_one (ps_set (i := 2) scValueAt.nd rfl (.inl rfl) (pe_cal C1 hr (pa_cons (pe_cal C2 hr (pa_cons (pv 2) (pa_cons (pv 1) pa_nil))) (pa_cons (pe_ix ix_list (pv 0) (pv 3) (fun _ _ => rfl)) pa_nil))))))
      (pss_one (ps_ret (pv 2)))), ?_⟩
    refine ⟨_, rfl, a, xs, rfl, .inl (sqL ha), _, _, rfl, rfl, _, rfl, _, rfl, _, _, _, _, rfl, RgC.neg (by omega) (by omega) (by decide) (by decide), ?_⟩
    have en : ((xs.length : Int) - 1 - -1).toNat = p.length := by omega
    rw [en]
    refine for_rangeC (lo := (xs.length : Int) - 1) (c := -1) (n := p.length) (fun i σ H' => ∃ (y : V) (y3 : Option V), σ = [some (.ref a), some u, some y, y3] ∧ Same H H' ∧ RtA K H' y (BD.ev x (p.drop (p.length - i))))
      ⟨_, none, rfl, fun _ _ e => e, by rw [Nat.sub_zero, List.drop_length]; exact c.zero H⟩ (fun i σ H' hi hPv => ?_) (fun σ H' hPv => ?_)
    · obtain ⟨y, y3, rfl, sm, hy⟩ := hPv
      have hk : p.length - 1 - i < p.length := by omega
      obtain ⟨t, ht, hrt⟩ := hp.get hk
      refine ⟨_, rfl, _, rfl, y, u, _, x, rfl, hy, hu.same sm, (bh _).1, bx, trivial, fun t1 n1 => ?_⟩
      have s1 := same_upd (o := .tup (fr (BD.ev x (p.drop (p.length - i)) * x))) n1
      refine ⟨_, rfl, _, rfl, a, xs, _, t, rfl, rfl, sqL (s1 _ _ (sm _ _ ha)), ?_, ?_⟩
      · rw [show (xs.length : Int) - 1 + (i : Nat) * -1 = ((p.length - 1 - i : Nat) : Int) by omega]
        exact atI_nat ht
      · refine ⟨.ref t1, t, _, _, rfl, rtA_new, (hrt.same sm).same s1, (bh _).2, bp _, trivial, fun t2 n2 => ?_⟩
        have s2 := same_upd (o := .tup (fr (BD.ev x (p.drop (p.length - i)) * x + BD.cf p (p.length - 1 - i)))) n2
        refine ⟨.ref t2, _, rfl, (sm.trans s1).trans s2, ?_⟩
        have e := ev_drop x hk
        rw [show p.length - 1 - i + 1 = p.length - i by omega] at e
        rw [show p.length - (i + 1) = p.length - 1 - i by omega, e]
        exact rtA_new
    · obtain ⟨y, y3, rfl, sm, hy⟩ := hPv
      rw [Nat.sub_self] at hy
      exact ⟨_, rfl, k H' y sm hy⟩
/-! ### derivative -/
def spDerivative (K : PySem.W.Frag) : Sp := fun vs H Q _ => ∃ (v : V) (p : List Rat), vs = [v] ∧ PoA K H v p ∧ p.length ≤ 1000 ∧ p ≠ [] ∧ BgP p ∧ NewP K H (BD.rslope p) Q
theorem fr_nat (n : Nat) : fr ((n : Nat) : Rat) = [.int (n : Int), .int 1] := rfl
theorem bg_nat {n : Nat} (h : n ≤ 1000) : Bg ((n : Nat) : Rat) := by
  have : Sz 10 ((n : Nat) : Rat) := ⟨by show n < 2 ^ 10; omega, by show 1 < 2 ^ 10; decide⟩
  exact this.bg (by decide)
theorem ok_derivative {f : Addr} {fd : FuncData} (F : Fun K "derivative" "derivative" sDerivative f fd) (c : Con K mg z o) (C2 : Cal P w K mg base 41 "times" ["one", "other"] (spTimes K)) : FnOk P w K mg base CX0 42 f fd ["polynomial"] (spDerivative K) := by
  refine F.ok scDerivative (fun vs H Q E h => ?_) (fun cdv A outer s H vs Q E hr h => ?_)
  · obtain ⟨v, p, rfl, _⟩ := h; rfl
  · obtain ⟨v, p, rfl, ⟨a, xs, rfl, ha, hp⟩, lp, np, bp, k⟩ := h
    have hlen := hp.len
    have l0 : 0 < p.length := List.length_pos_iff.mpr np
    refine ⟨_, pss_one (ps_ret (pe_lc (own := [("power", 1)]) (g := gName 1) (tt := tYes) rfl scDerivative.nd (pi_range2 (by rfl) c.range (pa_cons pe_int (pa_cons (pe_callB call_len_seq (by rfl) c.len PySem.boot_len (pa_cons (pv 0) pa_nil)) pa_nil))) (blkOk_by (own := [("power", 1)]) (N := ["polynomial", "power"]) (sc := defScope sDerivative) (by decide +kernel))
        (fun _ _ _ _ _ => pg_name (i := 1) scDerivative.nd rfl (Or.inl rfl)) (fun _ _ _ _ _ => pts_nil)
        (fun _ _ _ _ _ => pe_cal C2 hr (pa_cons (pe_ix (r := rIxL K) ix_list (pv 0) (pv 1) (fun _ _ => rfl)) (pa_cons (pe_tup (pa_cons (pv 1) (pa_cons pe_int pa_nil))) pa_nil))))), ?_⟩
    refine ⟨_, rfl, a, xs, rfl, .inl (sqL ha), _, _, rfl, ⟨by decide, by decide, by omega, by omega⟩, fun D hD => ?_⟩
    rw [show ((xs.length : Int) - 1).toNat = p.length - 1 by omega]
    refine lc_range (lo := 1) (n := p.length - 1) (fun i H' => Same H H' ∧ ∃ acc, H' D = some (.lst acc) ∧ PlA K H' acc (BD.toL i fun j => ((j + 1 : Nat) : Rat) * BD.cf p (j + 1))) ⟨same_upd hD, [], upd_same, .nil⟩ (fun i H' hi hPv => ?_) (fun H' hPv => ?_)
    · obtain ⟨sm, acc, hacc, hpl⟩ := hPv
      obtain ⟨t, ht, hrt⟩ := hp.get (k := i + 1) (by omega)
      have e1 : (1 : Int) + (i : Nat) = ((i + 1 : Nat) : Int) := by omega
      refine ⟨rfl, yes ?_⟩
      rw [e1]
      refine ⟨_, rfl, _, rfl, a, xs, _, t, rfl, rfl, sqL (sm _ _ ha), atI_nat ht, _, rfl, by show 2 ≤ sizeLine; decide, fun t1 n1 => ?_⟩
      have s1 := same_upd (o := .tup (fr ((i + 1 : Nat) : Rat))) n1
      refine ⟨t, .ref t1, _, ((i + 1 : Nat) : Rat), rfl, (hrt.same sm).same s1, rtA_new (r := ((i + 1 : Nat) : Rat)), bp _, bg_nat (by omega), trivial, fun t2 n2 => ?_⟩
      have s2 := same_upd (o := .tup (fr (BD.cf p (i + 1) * ((i + 1 : Nat) : Rat)))) n2
      have st := s1.trans s2
      have hacc2 := st _ _ hacc
      refine ⟨acc, hacc2, ?_, same_grow (sm.trans st) hD, acc ++ [.ref t2], upd_same, ?_⟩
      · rw [hpl.len, BD.toL_len]
        exact small1000 (by omega)
      · rw [BD.toL_succ, Rat.mul_comm ((i + 1 : Nat) : Rat)]
        exact Paired.snoc ((hpl.same st).beside hacc2) (rtA_new.beside hacc2)
    · obtain ⟨sm, acc, hacc, hpl⟩ := hPv
      exact k H' D acc sm hD hacc hpl
/-! ### remainder -/
def spRemainder (K : PySem.W.Frag) : Sp := fun vs H Q _ => ∃ (v u : V) (p q : List Rat) (n m : Nat), vs = [v, u] ∧ PoA K H v p ∧ PoA K H u q ∧ q ≠ [] ∧ BD.cf q (q.length - 1) ≠ 0 ∧ p.length ≤ q.length + 1 ∧ q.length ≤ 100 ∧ SzP n p ∧ SzP m q ∧ 4 * n + 6 * m + 3 ≤ LIM ∧
  ∀ (H' : Hp) (u' : V), Same H H' → PoA K H' u' (BD.rrest (p.length + 1) p q) → Q u' H'
theorem NewP.poA {K : PySem.W.Frag} {H : Hp} {r : List Rat} {Q : VK} (h : ∀ (H' : Hp) (d : Addr), Same H H' → PoA K H' (.ref d) r → Q (.ref d) H') : NewP K H r Q := fun H' d acc sm _ hd hpl => h H' d sm ⟨d, acc, rfl, hd, hpl⟩
theorem ok_remainder {f : Addr} {fd : FuncData} (F : Fun K "remainder" "remainder" sRemainder f fd) (c : Con K mg z o) (CD : Cal P w K mg base 41 "divided" ["one", "other"] (spDivided K)) (CO : Cal P w K mg base 1 "opposite" ["one"] (spOpposite K))
    (CR : Cal P w K mg base 1 "raised" ["polynomial", "steps"] (spRaised K)) (CS : Cal P w K mg base 42 "scaled" ["polynomial", "number"] (spScaled K)) (CA : Cal P w K mg base 42 "added" ["one", "other"] (spAdded K)) (CT : Cal P w K mg base 1 "trimmed" ["polynomial"] (spTrimmed K)) :
    FnOk P w K mg base CX0 43 f fd ["one", "other"] (spRemainder K) := by
  refine F.ok scRemainder (fun vs H Q E h => ?_) (fun cdv A outer s H vs Q E hr h => ?_)
  · obtain ⟨v, u, p, q, n, m, rfl, _⟩ := h; rfl
  · obtain ⟨v, u, p, q, n, m, rfl, hv, hu, hq0, hqz, lpq, lq, sp, sq, hlim, k⟩ := h
    refine ⟨_, pss_cons (ps_set (i := 2) scRemainder.nd rfl (.inl rfl) (pv 0))
      (pss_cons (ps_while PassesOwn.never (pt_cmpR op_ge (pe_callB call_len_seq (by rfl) c.len PySem.boot_len (pa_cons (pv 2) pa_nil)) (pe_callB call_len_seq (by rfl) c.len PySem.boot_len (pa_cons (pv 1) pa_nil)) (nomark _))
        (pss_cons (ps_set (i := 3) scRemainder.nd rfl (.inl rfl) (pe_cal CD (hr.mono (by decide)) (pa_cons (pe_ix ix_list (pv 2) (pe_un un_neg pe_int) (fun _ _ => rfl)) (pa_cons (pe_ix ix_list (pv 1) (pe_un un_neg pe_int) (fun _ _ => rfl)) pa_nil))))
        (pss_cons (ps_set (i := 4) scRemainder.nd rfl (.inl rfl) (pe_cal CS hr (pa_cons (pe_cal CR (hr.mono (by decide)) (pa_cons (pv 1) (pa_cons (pe_op op_sub (pe_callB call_len_seq (by rfl) c.len PySem.boot_len (pa_cons (pv 2) pa_nil)) (pe_callB call_len_seq (by rfl) c.len PySem.boot_len (pa_cons (pv 1) pa_nil))) pa_nil))) (pa_cons (pe_cal CO (hr.mono (by decide)) (pa_cons (pv 3) pa_nil)) pa_nil))))
        (pss_one (ps_set (i := 2) scRemainder.nd rfl (.inl rfl) (pe_cal CT (hr.mono (by decide)) (pa_cons (pe_cal CA hr (pa_cons (pv 2) (pa_cons (pv 4) pa_nil))) pa_nil)))))))
      (pss_one (ps_ret (pv 2)))), ?_⟩
    refine ⟨_, rfl, ?_⟩
    let bd : Nat → Nat := fun j => if j = 0 then n else if j = 1 then 2 * n + 2 * m + 1 else 4 * n + 6 * m + 3
    refine ⟨fun t σ H1 => ∃ (y : V) (y3 y4 : Option V) (r : List Rat) (j : Nat), σ = [some v, some u, some y, y3, y4] ∧ Same H H1 ∧ PoA K H1 y r ∧ t = r.length ∧ BD.rrest (r.length + 1) r q = BD.rrest (p.length + 1) p q ∧ j ≤ 2 ∧ r.length + j ≤ q.length + 1 ∧ SzP (bd j) r,
      ⟨_, v, none, none, p, 0, rfl, Same.refl H, hv, rfl, rfl, by omega, by omega, sp⟩, ?_⟩
    rintro t σ H1 ⟨y, y3, y4, r, j, rfl, sm, hy, rfl, hR, hj, hlj, hs⟩
    have hy0 := hy
    obtain ⟨ar, xr, rfl, har, hpr⟩ := hy
    obtain ⟨aq, xq, rfl, haq, hpq⟩ := hu.same sm
    have hu1 : PoA K H1 (.ref aq) q := ⟨aq, xq, rfl, haq, hpq⟩
    have lr := hpr.len
    have lqq := hpq.len
    refine ⟨_, rfl, ar, xr, rfl, .inl (sqL har), _, rfl, aq, xq, rfl, .inl (sqL haq), _, _, rfl, rfl, _, rfl, ite2 (fun e => ?_) (fun e => ?_)⟩
    · have hge : q.length ≤ r.length := by
        have : (xq.length : Int) ≤ (xr.length : Int) := of_decide_eq_true e
        omega
      have l1 : 0 < q.length := List.length_pos_iff.mpr hq0
      have hr0 : r ≠ [] := fun z => by
        subst z
        have : q.length ≤ 0 := hge
        omega
      have hj1 : j ≤ 1 := by omega
      have bds : bd (j + 1) = 2 * bd j + 2 * m + 1 := by
        match j, hj1 with
        | 0, _ => rfl
        | 1, _ => show 4 * n + 6 * m + 3 = 2 * (2 * n + 2 * m + 1) + 2 * m + 1; omega
      have bdl : bd (j + 1) ≤ LIM := by
        match j, hj1 with
        | 0, _ => show 2 * n + 2 * m + 1 ≤ LIM; omega
        | 1, _ => exact hlim
      refine ⟨fun σ' H' => ∃ (y : V) (y3 y4 : Option V), σ' = [some v, some (.ref aq), some y, y3, y4] ∧ Same H H' ∧ PoA K H' y (BD.rstep r q), ?_, ?_⟩
      · rintro σ' H' ⟨y', y3', y4', rfl, sm', hy'⟩
        have hlt := rstep_len hqz hge
        refine ⟨_, hlt, y', y3', y4', BD.rstep r q, j + 1, rfl, sm', hy', rfl, ?_, by omega, by omega, ?_⟩
        · rw [← hR]
          have e1 : BD.rrest (r.length + 1) r q = BD.rrest r.length (BD.rstep r q) q := by
            show (if r.length < q.length ∨ q = [] then r else _) = _
            rw [if_neg (fun z => by
              rcases z with z | z
              · omega
              · exact hq0 z)]
          rw [e1]
          exact rrest_fuel hqz _ _ _ _ (Nat.le_refl _) (Nat.le_refl _) (by omega)
        · rw [bds]
          exact rstep_sz hs sq hq0 hqz hge
      · obtain ⟨vr, ivr, hvr⟩ := hpr.last hr0
        obtain ⟨vq, ivq, hvq⟩ := hpq.last hq0
        have sd : Sz (bd j + m) (BD.cf r (r.length - 1) / BD.cf q (q.length - 1)) := Sz.div hqz (hs _) (sq _)
        have hm1 : 0 < m := by
          have := (sq (q.length)).2
          rw [BD.cf_low (Nat.le_refl _)] at this
          have h2 : 1 < 2 ^ m := this
          by_cases c0 : m = 0
          · subst c0; exact absurd h2 (by decide)
          · omega
        -- share
        refine ⟨_, rfl, _, rfl, ar, xr, _, vr, rfl, rfl, sqL har, ivr, _, rfl, _, rfl, aq, xq, _, vq, rfl, rfl, sqL haq, ivq, ?_⟩
        refine ⟨vr, vq, _, _, rfl, hvr, hvq, (hs _).bg (by omega), (sq _).bg (by omega), hqz, fun t1 n1 => ?_⟩
        have s1 := same_upd (o := .tup (fr (BD.cf r (r.length - 1) / BD.cf q (q.length - 1)))) n1
        -- raised
        refine ⟨_, rfl, _, rfl, ar, xr, rfl, .inl (sqL (s1 _ _ har)), _, rfl, aq, xq, rfl, .inl (sqL (s1 _ _ haq)), _, _, rfl, rfl, ?_⟩
        refine ⟨.ref aq, q, r.length - q.length, by show [V.ref aq, V.int ((xr.length : Int) - (xq.length : Int))] = _; rw [show (xr.length : Int) - (xq.length : Int) = ((r.length - q.length : Nat) : Int) by omega], hu1.same s1, by omega, by omega, NewP.poA fun H2 d2 s2 hd2 => ?_⟩
        -- opposite
        refine ⟨_, rfl, .ref t1, _, rfl, rtA_new.same s2, fun t3 n3 => ?_⟩
        have s3 := same_upd (o := .tup (fr (-(BD.cf r (r.length - 1) / BD.cf q (q.length - 1))))) n3
        have sraise : SzP m (List.replicate (r.length - q.length) 0 ++ q) := fun i => by
          rw [cf_raise]
          by_cases c0 : i < r.length - q.length
          · rw [if_pos c0]; exact sz_zero m hm1
          · rw [if_neg c0]; exact sq _
        refine ⟨.ref d2, .ref t3, _, _, rfl, hd2.same s3, rtA_new, fun i => (sraise i).bg (by omega), sd.neg.bg (by omega), by rw [List.length_append, List.length_replicate]; omega, NewP.poA fun H4 d4 s4 hd4 => ?_⟩
        -- added, trimmed
        have st := ((s1.trans s2).trans s3).trans s4
        refine ⟨_, rfl, _, rfl, .ref ar, .ref d4, r, _, rfl, hy0.same st, hd4, fun i => (hs i).bg (by omega), fun i => (SzP.scale sd.neg sraise i).bg (by omega), by omega, by rw [BD.rscale_len, List.length_append, List.length_replicate]; omega, NewP.poA fun H5 d5 s5 hd5 => ?_⟩
        refine ⟨.ref d5, _, rfl, hd5, by rw [BD.radd_len, BD.rscale_len, List.length_append, List.length_replicate]; omega, NewP.poA fun H6 d6 s6 hd6 => ?_⟩
        rw [step_eq hq0 hge] at hd6
        exact ⟨.ref d6, _, _, rfl, ((sm.trans st).trans s5).trans s6, hd6⟩
    · have hlt : r.length < q.length := by
        have : ¬ (xq.length : Int) ≤ (xr.length : Int) := fun z => e (decide_eq_true z)
        omega
      have e1 : BD.rrest (r.length + 1) r q = r := by
        show (if r.length < q.length ∨ q = [] then r else _) = _
        rw [if_pos (.inl hlt)]
      rw [← hR, e1] at k
      exact ⟨_, rfl, k H1 _ sm hy0⟩
end
end BP
set_option Elab.async false
set_option linter.all false
set_option maxRecDepth 100000
set_option maxHeartbeats 2000000
namespace BP
open PySem PySem.Spec PyProof.Rows L2
abbrev sSturm : Stmt := topS 28
abbrev sSignChanges : Stmt := topS 29
abbrev sChangesAt : Stmt := topS 30
abbrev sFarRight : Stmt := topS 31
abbrev sSignFarLeft : Stmt := topS 32
abbrev sFarLeft : Stmt := topS 33
abbrev sBetween : Stmt := topS 34
abbrev sAbove : Stmt := topS 35
abbrev sEverywhere : Stmt := topS 36
theorem scSturm : FnScope ["polynomial", "chain", "following", "factor"] ["polynomial"] (defScope sSturm) := ⟨rfl, rfl, rfl, by decide +kernel, rfl, by decide +kernel, by decide +kernel⟩
theorem scSignChanges : FnScope ["signs", "changes", "last", "here"] ["signs"] (defScope sSignChanges) := ⟨rfl, rfl, rfl, by decide +kernel, rfl, by decide +kernel, by decide +kernel⟩
theorem scChangesAt : FnScope ["chain", "place", "member"] ["chain", "place"] (defScope sChangesAt) := ⟨rfl, rfl, rfl, by decide +kernel, rfl, by decide +kernel, by decide +kernel⟩
theorem scFarRight : FnScope ["chain", "member"] ["chain"] (defScope sFarRight) := ⟨rfl, rfl, rfl, by decide +kernel, rfl, by decide +kernel, by decide +kernel⟩
theorem scSignFarLeft : FnScope ["polynomial", "far_right"] ["polynomial"] (defScope sSignFarLeft) := ⟨rfl, rfl, rfl, by decide +kernel, rfl, by decide +kernel, by decide +kernel⟩
theorem scFarLeft : FnScope ["chain", "member"] ["chain"] (defScope sFarLeft) := ⟨rfl, rfl, rfl, by decide +kernel, rfl, by decide +kernel, by decide +kernel⟩
theorem scBetween : FnScope ["polynomial", "left", "right", "chain"] ["polynomial", "left", "right"] (defScope sBetween) := ⟨rfl, rfl, rfl, by decide +kernel, rfl, by decide +kernel, by decide +kernel⟩
theorem scAbove : FnScope ["polynomial", "left", "chain"] ["polynomial", "left"] (defScope sAbove) := ⟨rfl, rfl, rfl, by decide +kernel, rfl, by decide +kernel, by decide +kernel⟩
theorem scEverywhere : FnScope ["polynomial", "chain"] ["polynomial"] (defScope sEverywhere) := ⟨rfl, rfl, rfl, by decide +kernel, rfl, by decide +kernel, by decide +kernel⟩
/-! ### sizes along a chain -/
def cb (N : Nat) : Nat → Nat
  | 0 => N
  | 1 => N + 10
  | j + 2 => 4 * cb N j + 6 * cb N (j + 1) + 3
theorem cb_mono (N : Nat) : ∀ j, cb N j ≤ cb N (j + 1)
  | 0 => by show N ≤ N + 10; omega
  | 1 => by show N + 10 ≤ 4 * N + 6 * (N + 10) + 3; omega
  | j + 2 => by
    show 4 * cb N j + 6 * cb N (j + 1) + 3 ≤ 4 * cb N (j + 1) + 6 * cb N (j + 1 + 1) + 3
    have := cb_mono N j
    have := cb_mono N (j + 1)
    omega
theorem cb_le (N : Nat) {i j : Nat} (h : i ≤ j) : cb N i ≤ cb N j := by
  induction j with
  | zero => rw [show i = 0 by omega]; exact Nat.le_refl _
  | succ j ih =>
    by_cases c : i = j + 1
    · rw [c]; exact Nat.le_refl _
    · exact Nat.le_trans (ih (by omega)) (cb_mono N j)
theorem rrest_sz {n m : Nat} {p q : List Rat} (hp : SzP n p) (hq : SzP m q) (hq0 : q ≠ []) (hz : BD.cf q (q.length - 1) ≠ 0) (hl : p.length ≤ q.length + 1) (f : Nat) : SzP (4 * n + 6 * m + 3) (BD.rrest f p q) := by
  match f with
  | 0 => exact hp.mono (by omega)
  | f + 1 =>
    unfold BD.rrest
    by_cases c : p.length < q.length ∨ q = []
    · rw [if_pos c]; exact hp.mono (by omega)
    · rw [if_neg c]
      have h1 : q.length ≤ p.length := by
        by_cases y : p.length < q.length
        · exact absurd (.inl y) c
        · omega
      have s1 := rstep_sz hp hq hq0 hz h1
      have l1 := rstep_len hz h1
      match f with
      | 0 => exact s1.mono (by omega)
      | f + 1 =>
        unfold BD.rrest
        by_cases c2 : (BD.rstep p q).length < q.length ∨ q = []
        · rw [if_pos c2]; exact s1.mono (by omega)
        · rw [if_neg c2]
          have h2 : q.length ≤ (BD.rstep p q).length := by
            by_cases y : (BD.rstep p q).length < q.length
            · exact absurd (.inl y) c2
            · omega
          have s2 := rstep_sz s1 hq hq0 hz h2
          have l2 := rstep_len hz h2
          have e : BD.rrest f (BD.rstep (BD.rstep p q) q) q = BD.rstep (BD.rstep p q) q := by
            cases f with
            | zero => rfl
            | succ f => unfold BD.rrest; rw [if_pos (.inl (by omega))]
          rw [e]
          exact s2.mono (by omega)
theorem neg_neg_scale (r : List Rat) : BD.rscale (-1) (BD.rscale (-1) r) = r := by
  unfold BD.rscale
  rw [List.map_map]
  conv => rhs; rw [← List.map_id r]
  refine List.map_congr_left fun x _ => ?_
  show -1 * (-1 * x) = x
  grind
theorem SzP.negs {n : Nat} {p : List Rat} (h : SzP n p) : SzP n (BD.rscale (-1) p) := fun k => by
  rw [BD.cf_rscale, show -1 * BD.cf p k = -BD.cf p k by grind]
  exact (h k).neg
/-- the next one of a chain -/
theorem reg_next {Pq Q : List Rat} {L : List (List Rat)} (h : BD.RegC (Pq :: Q :: L)) : BD.rrest (Pq.length + 1) Pq Q = BD.rscale (-1) (L.headD []) ∧ Q ≠ [] ∧ BD.cf Q (Q.length - 1) ≠ 0 ∧ Pq.length = Q.length + 1 := by
  cases h with
  | cons al be ha h1 h2 h3 hr hc =>
    have hQ := (BD.reg_head hc).2
    have tR : BD.Tr (L.headD []) := by
      cases hc with
      | one _ _ => exact .inl rfl
      | cons al' be' ha' h1' h2' h3' hr' hc' => exact BD.reg_tr hc'
    refine ⟨?_, hQ, h3, h1⟩
    have l : 0 < Q.length := List.length_pos_iff.mpr hQ
    rw [show Pq.length + 1 = (Q.length - 1) + 3 by omega]
    exact BD.rrest_reg h1 h2 h3 hr tR _
theorem reg_tail {Pq : List Rat} {L : List (List Rat)} (h : BD.RegC (Pq :: L)) : L = [] ∨ BD.RegC L := by
  cases h with
  | one _ _ => exact .inl rfl
  | cons al be ha h1 h2 h3 hr hc => exact .inr hc
theorem chain_sz {N : Nat} : ∀ {Pq Q : List Rat} {L : List (List Rat)} {j : Nat}, BD.RegC (Pq :: Q :: L) → SzP (cb N j) Pq → SzP (cb N (j + 1)) Q → ∀ k q, (Pq :: Q :: L)[k]? = some q → SzP (cb N (j + k)) q
  | Pq, Q, L, j, h, s1, s2, 0, q, e => by
    have e := Option.some.inj e
    subst e; exact s1
  | Pq, Q, L, j, h, s1, s2, 1, q, e => by
    have e := Option.some.inj e
    subst e; exact s2
  | Pq, Q, [], j, h, s1, s2, k + 2, q, e => by cases e
  | Pq, Q, R :: L, j, h, s1, s2, k + 2, q, e => by
    obtain ⟨h1, h2, h3, h4⟩ := reg_next h
    have sR : SzP (cb N (j + 2)) R := by
      have := (rrest_sz s1 s2 h2 h3 (by omega) (Pq.length + 1)).negs
      rw [h1, neg_neg_scale] at this
      exact this
    have hc : BD.RegC (Q :: R :: L) := by
      rcases reg_tail h with z | z
      · cases z
      · exact z
    have := chain_sz (N := N) (j := j + 1) hc s2 sR (k + 1) q e
    rw [show j + (k + 2) = j + 1 + (k + 1) by omega]
    exact this
theorem slope_sz {N : Nat} {p : List Rat} (h : SzP N p) (hl : p.length ≤ 1000) : SzP (N + 10) (BD.rslope p) := fun k => by
  unfold BD.rslope
  rw [BD.cf_toL (fun k hk => by rw [BD.cf_low (p := p) (by omega)]; grind)]
  by_cases c : k + 1 < p.length
  · have : Sz 10 ((k + 1 : Nat) : Rat) := ⟨by show k + 1 < 2 ^ 10; omega, by show 1 < 2 ^ 10; decide⟩
    exact (this.mul (h (k + 1))).mono (by omega)
  · rw [BD.cf_low (p := p) (by omega), show ((k + 1 : Nat) : Rat) * 0 = 0 by grind]
    exact sz_zero _ (by omega)
/-! ### a chain in the heap -/
/-- polynomials, none of them at D -/
def PoX (K : PySem.W.Frag) (H : Hp) (D : Addr) (v : V) (p : List Rat) : Prop := ∃ a vs, a ≠ D ∧ v = .ref a ∧ H a = some (.lst vs) ∧ PlA K H vs p
theorem PoX.poA {K : PySem.W.Frag} {H : Hp} {D : Addr} {v : V} {p : List Rat} (h : PoX K H D v p) : PoA K H v p := by
  obtain ⟨a, vs, _, h1, h2, h3⟩ := h
  exact ⟨a, vs, h1, h2, h3⟩
theorem PoX.same {K : PySem.W.Frag} {H H' : Hp} {D : Addr} {v : V} {p : List Rat} (h : PoX K H D v p) (e : Same H H') : PoX K H' D v p := by
  obtain ⟨a, vs, h0, h1, h2, h3⟩ := h
  exact ⟨a, vs, h0, h1, e _ _ h2, h3.same e⟩
theorem PoX.beside {K : PySem.W.Frag} {H : Hp} {D : Addr} {v : V} {p : List Rat} {acc acc' : List V} (h : PoX K H D v p) (hd : H D = some (.lst acc)) : PoX K (upd H D (.lst acc')) D v p := by
  obtain ⟨a, vs, h0, h1, h2, h3⟩ := h
  exact ⟨a, vs, h0, h1, by rw [upd_ne h0]; exact h2, h3.beside hd⟩
def PcA (K : PySem.W.Frag) (H : Hp) (v : V) (L : List (List Rat)) : Prop := ∃ a vs, v = .ref a ∧ H a = some (.lst vs) ∧ Paired (PoA K H) vs L
theorem PcA.same {K : PySem.W.Frag} {H H' : Hp} {v : V} {L : List (List Rat)} (h : PcA K H v L) (e : Same H H') : PcA K H' v L := by
  obtain ⟨a, vs, h1, h2, h3⟩ := h
  exact ⟨a, vs, h1, e _ _ h2, pairedMap (fun _ _ x => x.same e) h3⟩
theorem paired_len {α β : Type} {F : α → β → Prop} : ∀ {l₁ : List α} {l₂ : List β}, Paired F l₁ l₂ → l₁.length = l₂.length
  | _, _, .nil => rfl
  | _, _, .cons _ t => congrArg (· + 1) (paired_len t)
theorem paired_at {α β : Type} {F : α → β → Prop} : ∀ {l₁ : List α} {l₂ : List β} {k : Nat} {x : α}, Paired F l₁ l₂ → l₁[k]? = some x → ∃ y, l₂[k]? = some y ∧ F x y
  | _, _, k, x, .nil, h => by simp at h
  | _, _, 0, x, .cons r t, h => by
    have e := Option.some.inj h
    subst e
    exact ⟨_, rfl, r⟩
  | _, _, k + 1, x, .cons r t, h => paired_at (k := k) t h
theorem paired_get {α β : Type} {F : α → β → Prop} : ∀ {l₁ : List α} {l₂ : List β} {k : Nat} {y : β}, Paired F l₁ l₂ → l₂[k]? = some y → ∃ x, l₁[k]? = some x ∧ F x y
  | _, _, k, x, .nil, h => by simp at h
  | _, _, 0, x, .cons r t, h => by
    have e := Option.some.inj h
    subst e
    exact ⟨_, rfl, r⟩
  | _, _, k + 1, x, .cons r t, h => paired_get (k := k) t h
theorem atI_neg2 {xs : List V} {v : V} (h0 : 2 ≤ xs.length) (h : xs[xs.length - 2]? = some v) : atI xs (-2) = some v := by
  have e : ixN xs.length (-2) = some (xs.length - 2) := by
    unfold ixN
    rw [if_neg (by decide), if_pos (by omega)]
    congr 1
    omega
  unfold atI
  rw [e]
  exact h
section
variable {P : Program} {w : World} {K : PySem.W.Frag} {mg : Str → Option Value} {base : Heap} {z o : Addr}
def spSturm (K : PySem.W.Frag) : Sp := fun vs H Q _ => ∃ (v : V) (p : List Rat) (L : List (List Rat)) (N : Nat), vs = [v] ∧ PoA K H v p ∧ BD.IsCh p L ∧ p.length ≤ 100 ∧ SzP N p ∧ 0 < N ∧ cb N (L.length) ≤ LIM ∧ ∀ (H' : Hp) (u' : V), Same H H' → PcA K H' u' L → Q u' H'
theorem ok_sturm {f : Addr} {fd : FuncData} (F : Fun K "sturm_chain" "sturm_chain" sSturm f fd) (c : Con K mg z o) (CD : Cal P w K mg base 42 "derivative" ["polynomial"] (spDerivative K)) (CO : Cal P w K mg base 1 "opposite" ["one"] (spOpposite K)) (CR : Cal P w K mg base 43 "remainder" ["one", "other"] (spRemainder K)) :
    FnOk P w K mg base CX0 44 f fd ["polynomial"] (spSturm K) := by
  refine F.ok scSturm (fun vs H Q E h => ?_) (fun cdv A outer s H vs Q E hr h => ?_)
  · obtain ⟨v, p, L, N, rfl, _⟩ := h; rfl
  · obtain ⟨v, p, L, N, rfl, hv, hL, lp, sp, hN, hlim, k⟩ := h
    refine ⟨_, pss_cons (ps_set (i := 1) scSturm.nd rfl (.inl rfl) (pe_lst (pa_cons (pv 0) pa_nil)))
      (pss_cons (ps_set (i := 2) scSturm.nd rfl (.inl rfl) (pe_cal CD (hr.mono (by decide)) (pa_cons (pv 0) pa_nil)))
      (pss_cons (ps_while PassesOwn.never (pt_cmpR op_gt (pe_callB call_len_seq (by rfl) c.len PySem.boot_len (pa_cons (pv 2) pa_nil)) pe_int (nomark _))
        (pss_cons (ps_expr (pe_bm PySem.F.plainAttrs_list PySem.F.slot_list_append PySem.F.type_list_append mt_append (pv 1) (pa_cons (pv 2) pa_nil)))
        (pss_one (ps_setLc (i := 2) (own := [("factor", 3)]) (g := gName 3) (tt := tYes) rfl scSturm.nd rfl rfl (sw_true rfl rfl rfl (by decide +kernel)) (pi_list (pe_cal CR hr (pa_cons (pe_ix ix_list (pv 1) (pe_un un_neg pe_int) (fun _ _ => rfl)) (pa_cons (pv 2) pa_nil))))
            (blkOk_by (own := [("factor", 3)]) (N := ["polynomial", "chain", "following", "factor"]) (sc := defScope sSturm) (by decide +kernel))
            (fun _ _ _ _ _ => pg_name (i := 3) scSturm.nd rfl (Or.inl rfl)) (fun _ _ _ _ _ => pts_nil)
            (fun _ _ _ _ _ => pe_cal CO (hr.mono (by decide)) (pa_cons (pv 3) pa_nil))))))
      (pss_one (ps_ret (pv 1))))), ?_⟩
    obtain ⟨hreg, hshape⟩ := hL
    have tp : p ≠ [] := by
      rcases hshape with ⟨h1, _⟩ | ⟨h1, _⟩
      · intro z; subst z; simp at h1
      · intro z; subst z; simp at h1
    -- chain = [polynomial]; following = derivative(polynomial)
    refine ⟨_, rfl, by show 1 ≤ sizeLine; decide, fun D hD => ?_⟩
    have s0 := same_upd (o := .lst [v]) hD
    have bp : BgP p := fun i => (sp i).bg (Nat.le_trans (cb_le N (Nat.zero_le L.length)) hlim)
    refine ⟨_, rfl, v, p, rfl, hv.same s0, by omega, tp, bp, fun H1 d1 ac1 s1 n1 hd1 hp1 => ?_⟩
    have dD : d1 ≠ D := fun e => by rw [e, upd_same] at n1; cases n1
    have hvX : PoX K H1 D v p := by
      obtain ⟨a, xs, e1, e2, e3⟩ := hv
      exact ⟨a, xs, ne_of_none e2 hD, e1, s1 _ _ (s0 _ _ e2), (e3.same s0).same s1⟩
    have hstart : ∃ rest, L = p :: rest ∧ rest.headD [] = BD.rslope p := by
      rcases hshape with ⟨h1, h2⟩ | ⟨h1, L', h2⟩
      · refine ⟨[], h2, ?_⟩
        unfold BD.rslope
        rw [h1]; rfl
      · exact ⟨_, h2, rfl⟩
    obtain ⟨rest0, eL0, eh0⟩ := hstart
    refine ⟨fun t σ H2 => ∃ (d' : List (List Rat)) (Pq : List Rat) (rest : List (List Rat)) (xs : List V) (y : V) (y3 : Option V), L = d' ++ Pq :: rest ∧ t = rest.length ∧ σ = [some v, some (.ref D), some y, y3] ∧ Same H H2 ∧ H2 D = some (.lst xs) ∧ Paired (PoX K H2 D) xs (d' ++ [Pq]) ∧ PoX K H2 D y (rest.headD []) ∧
        BD.RegC (Pq :: rest) ∧ SzP (cb N d'.length) Pq ∧ SzP (cb N (d'.length + 1)) (rest.headD []), ⟨_, [], p, rest0, [v], .ref d1, none, eL0, rfl, rfl, s0.trans s1, s1 _ _ upd_same, .cons hvX .nil, ?_, by rw [← eL0]; exact hreg, sp, ?_⟩, ?_⟩
    · rw [eh0]
      exact ⟨d1, ac1, dD, rfl, hd1, hp1⟩
    · rw [eh0]
      exact slope_sz sp (by omega)
    rintro t σ H2 ⟨d', Pq, rest, xs, y, y3, eL, rfl, rfl, sm, hxs, hpx, hy, hrg, sP, sQ⟩
    have hlx : xs.length = d'.length + 1 := by rw [paired_len hpx, List.length_append]; rfl
    have hy0 := hy
    obtain ⟨ay, vy, ny, rfl, hay, hpy⟩ := hy
    refine ⟨_, rfl, ay, vy, rfl, .inl (sqL hay), _, _, rfl, rfl, _, rfl, ite2 (fun e => ?_) (fun e => ?_)⟩
    · have h0 : 0 < (rest.headD []).length := by
        have : (0 : Int) < (vy.length : Int) := of_decide_eq_true e
        rw [hpy.len] at this
        omega
      match rest, h0, eL, hrg, sQ, hpy, hy0 with
      | Qq :: rest', h0, eL, hrg, sQ, hpy, hy0 =>
        obtain ⟨rn, q0, qz, lpq⟩ := reg_next hrg
        have sQ : SzP (cb N (d'.length + 1)) Qq := sQ
        have hy0 : PoX K H2 D (V.ref ay) Qq := hy0
        have lL : L.length = d'.length + 2 + rest'.length := by rw [eL, List.length_append]; show d'.length + (rest'.length + 1 + 1) = _; omega
        have lP : Pq.length ≤ 100 ∧ L.length ≤ 100 := by
          have key : ∀ {L : List (List Rat)} {Pq : List Rat} {M : List (List Rat)}, BD.RegC (Pq :: M) → Pq.length = M.length + 1 := by
            intro L Pq M hh
            have gen : ∀ (M : List (List Rat)) (Pq : List Rat), BD.RegC (Pq :: M) → Pq.length = M.length + 1 := by
              intro M
              induction M with
              | nil =>
                intro Pq hh
                cases hh with
                | one h1 _ => exact h1
              | cons Q M ih =>
                intro Pq hh
                cases hh with
                | cons al be ha h1 h2 h3 hr hc =>
                  rw [h1, ih Q hc]; rfl
            exact gen M Pq hh
          have e1 := key (L := L) hrg
          have hreg' := hreg
          rw [eL0] at hreg'
          have e2 := key (L := L) hreg'
          have e3 : L.length = rest0.length + 1 := by rw [eL0]; rfl
          have e4 : (Qq :: rest').length = rest'.length + 1 := rfl
          omega
        refine ⟨fun σ' H' => ∃ (xs' : List V) (y' : V) (y3' : Option V), σ' = [some v, some (.ref D), some y', y3'] ∧ Same H H' ∧ H' D = some (.lst xs') ∧ Paired (PoX K H' D) xs' (d' ++ [Pq] ++ [Qq]) ∧ PoX K H' D y' (rest'.headD []), ?_, ?_⟩
        · rintro σ' H' ⟨xs', y', y3', rfl, sm', hxs', hpx', hy'⟩
          have hrg' : BD.RegC (Qq :: rest') := by
            rcases reg_tail hrg with z | z
            · cases z
            · exact z
          refine ⟨rest'.length, by show rest'.length < rest'.length + 1; omega, d' ++ [Pq], Qq, rest', xs', y', y3', by rw [eL]; simp, rfl, rfl, sm', hxs', hpx', hy', hrg', ?_, ?_⟩
          · rw [List.length_append]; exact sQ
          · rw [List.length_append]
            have h1 := (rrest_sz sP sQ q0 qz (by omega) (Pq.length + 1)).negs
            rw [rn, neg_neg_scale] at h1
            exact h1
        · -- chain.append(following)
          refine ⟨_, rfl, .inl ⟨rfl, _, sqL hxs⟩, _, rfl, D, xs, _, rfl, rfl, hxs, by rw [hlx]; exact small1000 (by omega), ?_⟩
          have hxs3 : (upd H2 D (.lst (xs ++ [V.ref ay]))) D = some (.lst (xs ++ [V.ref ay])) := upd_same
          have hpx3 : Paired (PoX K (upd H2 D (.lst (xs ++ [V.ref ay]))) D) (xs ++ [V.ref ay]) (d' ++ [Pq] ++ [Qq]) := Paired.snoc (pairedMap (fun _ _ x => x.beside hxs) hpx) (hy0.beside hxs)
          have sm3 : Same H (upd H2 D (.lst (xs ++ [V.ref ay]))) := same_grow sm hD
          generalize upd H2 D (.lst (xs ++ [V.ref ay])) = H3 at hxs3 hpx3 sm3 ⊢
          -- remainder(chain[-2], following)
          obtain ⟨vP, ivP, hvP⟩ := paired_get (k := d'.length) (y := Pq) hpx3 (by simp)
          obtain ⟨vQ, ivQ, hvQ⟩ := paired_get (k := d'.length + 1) (y := Qq) hpx3 (by simp)
          have evQ : vQ = .ref ay := by
            rw [← hlx] at ivQ
            simpa using ivQ.symm
          subst evQ
          have ll : (xs ++ [V.ref ay]).length = d'.length + 2 := by simp [hlx]
          refine ⟨_, rfl, _, rfl, D, _, _, vP, rfl, rfl, sqL hxs3, atI_neg2 (by omega) (by rw [ll]; exact ivP), _, rfl, ?_⟩
          refine ⟨vP, .ref ay, Pq, Qq, cb N d'.length, cb N (d'.length + 1), rfl, hvP.poA, hvQ.poA, q0, qz, by omega, by omega, sP, sQ, Nat.le_trans (cb_le N (show d'.length + 2 ≤ L.length by omega)) hlim, fun H4 u4 s4 hu4 => ?_⟩
          rw [rn] at hu4
          obtain ⟨a4, x4, rfl, ha4, hp4⟩ := hu4
          refine ⟨a4, rfl, ⟨_, sqL ha4⟩, fun D2 hD2 => ?_⟩
          refine lc_list (K := K) (a := a4) (xs := x4) (fun i H' => Same H4 H' ∧ ∃ acc, H' D2 = some (.lst acc) ∧ PlA K H' acc ((rest'.headD []).take i)) ⟨same_upd hD2, [], upd_same, .nil⟩ (fun i H' _ hPv => sqL (hPv.1 _ _ ha4)) (fun i x H' hx hPv => ?_) (fun H' hPv => ?_)
          · obtain ⟨sm5, acc, hacc, hpl⟩ := hPv
            obtain ⟨hxe, hxr⟩ := hp4.at hx
            refine ⟨rfl, yes ?_⟩
            refine ⟨_, rfl, x, _, rfl, hxr.same sm5, fun t ht => ?_⟩
            have st := same_upd (o := .tup (fr (-BD.cf (BD.rscale (-1) (rest'.headD [])) i))) ht
            have hacc2 := st _ _ hacc
            have ei : (rest'.headD [])[i]? = some (-BD.cf (BD.rscale (-1) (rest'.headD [])) i) := by
              have hi : i < (rest'.headD []).length := by
                have h1 := (List.getElem?_eq_some_iff.mp hxe).1
                rw [BD.rscale_len] at h1
                exact h1
              rw [BD.cf_rscale, cf_some hi]
              congr 1
              grind
            refine ⟨acc, hacc2, ?_, same_grow (sm5.trans st) hD2, acc ++ [.ref t], upd_same, ?_⟩
            · rw [hpl.len, List.length_take]
              have h1 := (List.getElem?_eq_some_iff.mp hxe).1
              rw [BD.rscale_len] at h1
              refine small1000 ?_
              have : (rest'.headD []).length ≤ 100 := by
                have h2 : BD.rscale (-1) (rest'.headD []) = BD.rrest (Pq.length + 1) Pq Qq := rn.symm
                have h3 : (BD.rscale (-1) (rest'.headD [])).length = (rest'.headD []).length := BD.rscale_len _ _
                cases hrg with
                | cons al be ha h1' h2' h3' hr' hc' => omega
              omega
            · rw [take_more ei]
              exact Paired.snoc ((hpl.same st).beside hacc2) (rtA_new.beside hacc2)
          · obtain ⟨sm5, acc, hacc, hpl⟩ := hPv
            have e5 : x4.length = (rest'.headD []).length := by rw [hp4.len, BD.rscale_len]
            rw [e5, List.take_length] at hpl
            have st := s4.trans sm5
            have n2 : D2 ≠ D := fun e => by
              have := s4 _ _ hxs3
              rw [← e, hD2] at this
              cases this
            exact ⟨_, _, _, rfl, sm3.trans st, st _ _ hxs3, pairedMap (fun _ _ x => x.same st) hpx3, D2, acc, n2, rfl, hacc, hpl⟩
    · have h0 : (rest.headD []).length = 0 := by
        have : ¬ (0 : Int) < (vy.length : Int) := fun z => e (decide_eq_true z)
        rw [hpy.len] at this
        omega
      have hr0 : rest = [] := by
        cases rest with
        | nil => rfl
        | cons Q rest' =>
          exfalso
          have := (reg_next hrg).2.1
          exact this (List.length_eq_zero_iff.mp h0)
      subst hr0
      refine ⟨_, rfl, k H2 _ sm ⟨D, xs, rfl, hxs, ?_⟩⟩
      rw [eL]
      exact pairedMap (fun _ _ x => x.poA) hpx
end
end BP
set_option Elab.async false
set_option linter.all false
set_option maxRecDepth 100000
set_option maxHeartbeats 2000000
namespace BP
open PySem PySem.Spec PyProof.Rows L2
/-! ### turns, as the loop counts them -/
def scan (s : Int × Int) (h : Int) : Int × Int := (if h * s.2 < 0 then s.1 + 1 else s.1, if h ≠ 0 then h else s.2)
theorem scan_turns : ∀ (ss : List Int) (c l : Int), (ss.foldl scan (c, l)).1 = c + (Sr71.turns ((if l ≠ 0 then [l] else []) ++ ss.filter fun s => decide (s ≠ 0)) : Nat)
  | [], c, l => by
    show c = c + (Sr71.turns ((if l ≠ 0 then [l] else []) ++ []) : Nat)
    by_cases h : l ≠ 0
    · rw [if_pos h]; show c = c + ((0 : Nat) : Int); omega
    · rw [if_neg h]; show c = c + ((0 : Nat) : Int); omega
  | h :: r, c, l => by
    rw [List.foldl_cons]
    show (r.foldl scan (if h * l < 0 then c + 1 else c, if h ≠ 0 then h else l)).1 = _
    rw [scan_turns r, List.filter_cons]
    by_cases h0 : h = 0
    · subst h0
      rw [if_neg (show ¬ ((0 : Int) * l < 0) by omega), if_neg (show ¬ ((0 : Int) ≠ 0) by omega), if_neg (show ¬ (decide ((0 : Int) ≠ 0) = true) by decide)]
    · rw [if_pos (show h ≠ 0 from h0), if_pos (show h ≠ 0 from h0), if_pos (decide_eq_true (show h ≠ 0 from h0))]
      by_cases l0 : l = 0
      · subst l0
        rw [if_neg (show ¬ (h * (0 : Int) < 0) by omega), if_neg (show ¬ ((0 : Int) ≠ 0) by omega)]
        rfl
      · rw [if_pos (show l ≠ 0 from l0)]
        show _ = c + (((if l * h < 0 then 1 else 0) + Sr71.turns (h :: r.filter fun s => decide (s ≠ 0)) : Nat) : Int)
        have e : [h] ++ (r.filter fun s => decide (s ≠ 0)) = h :: r.filter fun s => decide (s ≠ 0) := rfl
        rw [e, Int.mul_comm l h]
        by_cases hn : h * l < 0
        · rw [if_pos hn, if_pos hn]; omega
        · rw [if_neg hn, if_neg hn]; omega
theorem scan_all (ss : List Int) : (ss.foldl scan (0, 0)).1 = (Sr71.turnsBy ss : Int) := by
  rw [scan_turns]
  show 0 + ((Sr71.turns ([] ++ ss.filter fun s => decide (s ≠ 0)) : Nat) : Int) = _
  rw [Int.zero_add]; rfl
theorem fold_more {ss : List Int} {i : Nat} {h : Int} (e : ss[i]? = some h) : (ss.take (i + 1)).foldl scan (0, 0) = scan ((ss.take i).foldl scan (0, 0)) h := by
  rw [take_more e, List.foldl_append]; rfl
theorem sg_bd (x : Rat) : -1 ≤ BD.sg x ∧ BD.sg x ≤ 1 := by
  unfold BD.sg
  split
  · exact ⟨by decide, by decide⟩
  · split
    · exact ⟨by decide, by decide⟩
    · exact ⟨by decide, by decide⟩
theorem map_at {ss : List Int} {i : Nat} {y : V} (h : (ss.map V.int)[i]? = some y) : ∃ s, ss[i]? = some s ∧ y = .int s := by
  rw [List.getElem?_map] at h
  cases e : ss[i]? with
  | none => rw [e] at h; cases h
  | some s => rw [e] at h; exact ⟨s, rfl, (Option.some.inj h).symm⟩
/-! ### values of a chain's members -/
def VOk (x : Rat) (q : List Rat) : Prop := q.length ≤ 1000 ∧ BgP q ∧ ∀ i, Bg (BD.ev x (q.drop i)) ∧ Bg (BD.ev x (q.drop i) * x)
theorem ev_sz {n : Nat} {x : Rat} (hx : Sz 10 x) : ∀ {q : List Rat}, (∀ c ∈ q, Sz n c) → Sz (1 + (n + 11) * q.length) (BD.ev x q)
  | [], _ => sz_zero 1 (by decide)
  | c :: q, h => by
    have ih := ev_sz hx (q := q) fun d hd => h d (List.mem_cons_of_mem _ hd)
    have := (ih.mul hx).add (h c (List.mem_cons_self ..))
    refine this.mono ?_
    show 1 + (n + 11) * q.length + 10 + n + 1 ≤ 1 + (n + 11) * (q.length + 1)
    rw [Nat.mul_add]
    omega
theorem vok_of {n : Nat} {x : Rat} {q : List Rat} (hx : Sz 10 x) (hq : SzP n q) (hl : q.length ≤ 5) (hb : (n + 11) * 5 + 20 ≤ LIM) : VOk x q := by
  refine ⟨by omega, fun i => (hq i).bg (by omega), fun i => ?_⟩
  have hm : ∀ c ∈ q.drop i, Sz n c := fun c hc => by
    obtain ⟨j, hj, e⟩ := List.getElem_of_mem (List.mem_of_mem_drop hc)
    have := hq j
    unfold BD.cf at this
    rw [List.getD_eq_getElem?_getD, List.getElem?_eq_getElem hj] at this
    rw [← e]
    exact this
  have h1 := ev_sz hx hm
  have h2 : (n + 11) * (q.drop i).length ≤ (n + 11) * 5 := Nat.mul_le_mul_left _ (by rw [List.length_drop]; omega)
  exact ⟨h1.bg (by omega), (h1.mul hx).bg (by omega)⟩
section
variable {P : Program} {w : World} {K : PySem.W.Frag} {mg : Str → Option Value} {base : Heap} {z o : Addr}
def spSignChanges : Sp := fun vs H Q _ => ∃ (a : Addr) (ss : List Int), vs = [.ref a] ∧ H a = some (.lst (ss.map V.int)) ∧ (∀ s ∈ ss, -1 ≤ s ∧ s ≤ 1) ∧ Q (.int (Sr71.turnsBy ss : Int)) H
theorem ok_signChanges {f : Addr} {fd : FuncData} {k : Nat} (F : Fun K "sign_changes" "sign_changes" sSignChanges f fd) : FnOk P w K mg base CX0 (k + 1) f fd ["signs"] spSignChanges := by
  refine F.ok scSignChanges (fun vs H Q E h => ?_) (fun cdv A outer s H vs Q E hr h => ?_)
  · obtain ⟨a, ss, rfl, _⟩ := h; rfl
  · obtain ⟨a, ss, rfl, ha, hb, q⟩ := h
    refine ⟨_, pss_cons (ps_set (i := 1) scSignChanges.nd rfl (.inl rfl) pe_int)
      (pss_cons (ps_set (i := 2) scSignChanges.nd rfl (.inl rfl) pe_int)
      (pss_cons (ps_for PassesOwn.never rfl (pi_list (pv 0)) (pg_name (i := 3) scSignChanges.nd rfl (.inl rfl))
        (pss_cons (ps_if (pt_cmpR op_lt (pe_op op_mul (pv 3) (pv 2)) pe_int (nomark _)) (pss_one (ps_set (i := 1) scSignChanges.nd rfl (.inl rfl) (pe_op op_add (pv 1) pe_int))) pss_nil)
        (pss_one (ps_if (pt_cmpR op_ne (pv 3) pe_int (nomark _)) (pss_one (ps_set (i := 2) scSignChanges.nd rfl (.inl rfl) (pv 3))) pss_nil))))
      (pss_one (ps_ret (pv 1))))), ?_⟩
    refine ⟨_, rfl, a, rfl, ⟨_, sqL ha⟩, for_list (K := K) (a := a) (xs := ss.map V.int) (fun i σ H' => ∃ y3 : Option V, σ = [some (.ref a), some (.int ((ss.take i).foldl scan (0, 0)).1), some (.int ((ss.take i).foldl scan (0, 0)).2), y3] ∧ H' = H) ⟨none, rfl, rfl⟩ (fun i σ H' _ ⟨_, _, e⟩ => by rw [e]; exact sqL ha) ?_ ?_⟩
    · rintro i y σ H' hi ⟨y3, rfl, rfl⟩
      obtain ⟨h, hh, rfl⟩ := map_at hi
      have hb' := hb h (List.mem_of_getElem? hh)
      have fm := fold_more hh
      generalize (ss.take i).foldl scan (0, 0) = st at fm ⊢
      refine ⟨_, rfl, _, rfl, _, _, rfl, rfl, .inl ⟨by omega, by omega⟩, _, _, rfl, rfl, _, rfl, ite2 (fun e => ?_) (fun e => ?_)⟩
      · have e1 : h * st.2 < 0 := of_decide_eq_true e
        refine ⟨_, rfl, _, _, rfl, rfl, ?_⟩
        refine ⟨_, rfl, rfl, _, rfl, ite2 (fun e => ?_) (fun e => ?_)⟩
        · have h0 : h ≠ 0 := fun z => by subst z; exact absurd e (by decide)
          refine ⟨_, rfl, some (.int h), ?_, rfl⟩
          rw [fm]
          unfold scan
          rw [if_pos e1, if_pos h0]; rfl
        · have h0 : h = 0 := by
            by_cases z : h = 0
            · exact z
            · exact absurd (by show (!decide (V.int h = V.int 0)) = true; rw [decide_eq_false (fun y => z (V.int.inj y))]; rfl) e
          subst h0
          exact absurd e1 (by omega)
      · have e1 : ¬ h * st.2 < 0 := fun z => e (decide_eq_true z)
        refine ⟨_, rfl, rfl, _, rfl, ite2 (fun e => ?_) (fun e => ?_)⟩
        · have h0 : h ≠ 0 := fun z => by subst z; exact absurd e (by decide)
          refine ⟨_, rfl, some (.int h), ?_, rfl⟩
          rw [fm]
          unfold scan
          rw [if_neg e1, if_pos h0]; rfl
        · have h0 : h = 0 := by
            by_cases z : h = 0
            · exact z
            · exact absurd (by show (!decide (V.int h = V.int 0)) = true; rw [decide_eq_false (fun y => z (V.int.inj y))]; rfl) e
          refine ⟨some (.int h), ?_, rfl⟩
          rw [fm]
          unfold scan
          rw [if_neg e1, if_neg (fun z => z h0)]; rfl
    · rintro σ H' ⟨y3, rfl, rfl⟩
      rw [List.length_map, List.take_length]
      refine ⟨_, rfl, ?_⟩
      rw [scan_all]
      exact q
/-- the signs of a chain's members, by g -/
def spChanges (C : List Rat → Prop) (g : List Rat → Int) (K : PySem.W.Frag) : Sp := fun vs H Q _ => ∃ (v : V) (L : List (List Rat)), vs = [v] ∧ PcA K H v L ∧ L.length ≤ 100 ∧ (∀ q ∈ L, C q) ∧ ∀ H', Same H H' → Q (.int (Sr71.turnsBy (L.map g) : Int)) H'
def spChangesAt (K : PySem.W.Frag) : Sp := fun vs H Q _ => ∃ (v u : V) (L : List (List Rat)) (x : Rat), vs = [v, u] ∧ PcA K H v L ∧ RtA K H u x ∧ L.length ≤ 100 ∧ Bg x ∧ (∀ q ∈ L, VOk x q) ∧ ∀ H', Same H H' → Q (.int (Sr71.turnsBy (L.map fun q => BD.sg (BD.ev x q)) : Int)) H'
theorem map_snoc {L : List (List Rat)} {i : Nat} {q : List Rat} {g : List Rat → Int} (h : L[i]? = some q) : ((L.map g).take (i + 1)).map V.int = ((L.map g).take i).map V.int ++ [V.int (g q)] := by
  rw [take_more (show (L.map g)[i]? = some (g q) by rw [List.getElem?_map, h]; rfl), List.map_append]; rfl
theorem ok_changesAt {f : Addr} {fd : FuncData} (F : Fun K "changes_at" "changes_at" sChangesAt f fd) (CC : Cal P w K mg base 1 "sign_changes" ["signs"] spSignChanges) (CS : Cal P w K mg base 1 "sign" ["one"] (spSign K)) (CV : Cal P w K mg base 42 "value_at" ["polynomial", "place"] (spValueAt K)) :
    FnOk P w K mg base CX0 43 f fd ["chain", "place"] (spChangesAt K) := by
  refine F.ok scChangesAt (fun vs H Q E h => ?_) (fun cdv A outer s H vs Q E hr h => ?_)
  · obtain ⟨v, u, L, x, rfl, _⟩ := h; rfl
  · obtain ⟨v, u, L, x, rfl, ⟨a, xs, rfl, ha, hp⟩, hu, lL, bx, hV, k⟩ := h
    refine ⟨_, pss_one (ps_ret (pe_cal CC (hr.mono (by decide)) (pa_cons (pe_lc (own := [("member", 2)]) (g := gName 2) (tt := tYes) rfl scChangesAt.nd (pi_list (pv 0)) (blkOk_by (own := [("member", 2)]) (N := ["chain", "place", "member"]) (sc := defScope sChangesAt) (by decide +kernel))
        (fun _ _ _ _ _ => pg_name (i := 2) scChangesAt.nd rfl (Or.inl rfl)) (fun _ _ _ _ _ => pts_nil)
        (fun _ _ _ _ _ => pe_cal CS (hr.mono (by decide)) (pa_cons (pe_cal CV hr (pa_cons (pv 2) (pa_cons (pv 1) pa_nil))) pa_nil))) pa_nil))), ?_⟩
    refine ⟨_, rfl, a, rfl, ⟨_, sqL ha⟩, fun D hD => ?_⟩
    refine lc_list (K := K) (a := a) (xs := xs) (fun i H' => Same H H' ∧ H' D = some (.lst (((L.map fun q => BD.sg (BD.ev x q)).take i).map V.int))) ⟨same_upd hD, upd_same⟩ (fun i H' _ hPv => sqL (hPv.1 _ _ ha)) (fun i y H' hy hPv => ?_) (fun H' hPv => ?_)
    · obtain ⟨sm, hacc⟩ := hPv
      obtain ⟨q, hq, hyq⟩ := paired_at hp hy
      obtain ⟨v1, v2, v3⟩ := hV q (List.mem_of_getElem? hq)
      refine ⟨rfl, yes ?_⟩
      refine ⟨_, rfl, _, rfl, y, u, q, x, rfl, hyq.same sm, hu.same sm, v1, v2, bx, v3, fun H2 u2 s2 hu2 => ?_⟩
      refine ⟨u2, _, rfl, hu2, ?_⟩
      have hacc2 := s2 _ _ hacc
      refine ⟨_, hacc2, ?_, same_grow (sm.trans s2) hD, ?_⟩
      · rw [List.length_map, List.length_take]
        exact small1000 (by rw [List.length_map]; omega)
      · rw [upd_same, map_snoc hq]
    · obtain ⟨sm, hacc⟩ := hPv
      rw [List.take_of_length_le (by rw [List.length_map, paired_len hp]; exact Nat.le_refl _)] at hacc
      refine ⟨D, _, rfl, hacc, fun s hs => ?_, k H' sm⟩
      obtain ⟨q, _, rfl⟩ := List.mem_map.mp hs
      exact sg_bd _
theorem ok_farRight {f : Addr} {fd : FuncData} {k0 : Nat} (F : Fun K "changes_far_right" "changes_far_right" sFarRight f fd) (CC : Cal P w K mg base 1 "sign_changes" ["signs"] spSignChanges) (CS : Cal P w K mg base 1 "sign" ["one"] (spSign K)) :
    FnOk P w K mg base CX0 (k0 + 2) f fd ["chain"] (spChanges (· ≠ []) (fun q => BD.sg (BD.ld q)) K) := by
  refine F.ok scFarRight (fun vs H Q E h => ?_) (fun cdv A outer s H vs Q E hr h => ?_)
  · obtain ⟨v, L, rfl, _⟩ := h; rfl
  · obtain ⟨v, L, rfl, ⟨a, xs, rfl, ha, hp⟩, lL, hV, k⟩ := h
    refine ⟨_, pss_one (ps_ret (pe_cal CC (hr.mono (by omega)) (pa_cons (pe_lc (own := [("member", 1)]) (g := gName 1) (tt := tYes) rfl scFarRight.nd (pi_list (pv 0)) (blkOk_by (own := [("member", 1)]) (N := ["chain", "member"]) (sc := defScope sFarRight) (by decide +kernel))
        (fun _ _ _ _ _ => pg_name (i := 1) scFarRight.nd rfl (Or.inl rfl)) (fun _ _ _ _ _ => pts_nil)
        (fun _ _ _ _ _ => pe_cal CS (hr.mono (by omega)) (pa_cons (pe_ix (r := rIxL K) ix_list (pv 1) (pe_un un_neg pe_int) (fun _ _ => rfl)) pa_nil))) pa_nil))), ?_⟩
    refine ⟨_, rfl, a, rfl, ⟨_, sqL ha⟩, fun D hD => ?_⟩
    refine lc_list (K := K) (a := a) (xs := xs) (fun i H' => Same H H' ∧ H' D = some (.lst (((L.map fun q => BD.sg (BD.ld q)).take i).map V.int))) ⟨same_upd hD, upd_same⟩ (fun i H' _ hPv => sqL (hPv.1 _ _ ha)) (fun i y H' hy hPv => ?_) (fun H' hPv => ?_)
    · obtain ⟨sm, hacc⟩ := hPv
      obtain ⟨q, hq, hyq⟩ := paired_at hp hy
      have q0 := hV q (List.mem_of_getElem? hq)
      obtain ⟨ay, vy, rfl, hay, hpy⟩ := hyq.same sm
      obtain ⟨vl, ivl, hvl⟩ := hpy.last q0
      have el : BD.ld q = BD.cf q (q.length - 1) := BD.lastD_cf q q0 0
      refine ⟨rfl, yes ?_⟩
      refine ⟨_, rfl, _, rfl, ay, vy, _, vl, rfl, rfl, sqL hay, ivl, vl, _, rfl, hvl, ?_⟩
      refine ⟨_, hacc, ?_, same_grow sm hD, ?_⟩
      · rw [List.length_map, List.length_take]
        exact small1000 (by rw [List.length_map]; omega)
      · rw [upd_same, map_snoc hq, el]
    · obtain ⟨sm, hacc⟩ := hPv
      rw [List.take_of_length_le (by rw [List.length_map, paired_len hp]; exact Nat.le_refl _)] at hacc
      refine ⟨D, _, rfl, hacc, fun s hs => ?_, k H' sm⟩
      obtain ⟨q, _, rfl⟩ := List.mem_map.mp hs
      exact sg_bd _
def spSignFarLeft (K : PySem.W.Frag) : Sp := fun vs H Q _ => ∃ (v : V) (p : List Rat), vs = [v] ∧ PoA K H v p ∧ p ≠ [] ∧ Q (.int (BD.sg (BD.le' p))) H
theorem ok_signFarLeft {f : Addr} {fd : FuncData} {k0 : Nat} (F : Fun K "sign_far_left" "sign_far_left" sSignFarLeft f fd) (c : Con K mg z o) (CS : Cal P w K mg base 1 "sign" ["one"] (spSign K)) :
    FnOk P w K mg base CX0 (k0 + 2) f fd ["polynomial"] (spSignFarLeft K) := by
  refine F.ok scSignFarLeft (fun vs H Q E h => ?_) (fun cdv A outer s H vs Q E hr h => ?_)
  · obtain ⟨v, p, rfl, _⟩ := h; rfl
  · obtain ⟨v, p, rfl, ⟨a, xs, rfl, ha, hp⟩, p0, q⟩ := h
    refine ⟨_, pss_cons (ps_set (i := 1) scSignFarLeft.nd rfl (.inl rfl) (pe_cal CS (hr.mono (by omega)) (pa_cons (pe_ix ix_list (pv 0) (pe_un un_neg pe_int) (fun _ _ => rfl)) pa_nil)))
      (pss_one (ps_ret (pe_ifExp (pt_cmpR op_eq (pe_op op_mod (pe_callB call_len_seq (by rfl) c.len PySem.boot_len (pa_cons (pv 0) pa_nil)) pe_int) pe_int (nomark _)) (pe_un un_neg (pv 1)) (pv 1)))), ?_⟩
    obtain ⟨vl, ivl, hvl⟩ := hp.last p0
    have el : BD.ld p = BD.cf p (p.length - 1) := BD.lastD_cf p p0 0
    refine ⟨_, rfl, _, rfl, a, xs, _, vl, rfl, rfl, sqL ha, ivl, vl, _, rfl, hvl, ?_⟩
    refine ⟨_, rfl, a, xs, rfl, .inl (sqL ha), _, _, rfl, rfl, by show (0 : Int) < 2; decide, rfl, _, rfl, ite2 (fun e => ?_) (fun e => ?_)⟩
    · have e1 : (xs.length : Int) % 2 = 0 := V.int.inj (of_decide_eq_true e)
      have e2 : ¬ p.length % 2 = 1 := by have := hp.len; omega
      refine ⟨_, rfl, _, rfl, ?_⟩
      have : BD.sg (BD.le' p) = -BD.sg (BD.cf p (p.length - 1)) := by
        unfold BD.le'
        rw [if_neg e2, el, BD.sg_neg]
      rw [this] at q
      exact q
    · have e1 : ¬ (xs.length : Int) % 2 = 0 := fun z => e (decide_eq_true (congrArg V.int z))
      have e2 : p.length % 2 = 1 := by have := hp.len; omega
      have : BD.sg (BD.le' p) = BD.sg (BD.cf p (p.length - 1)) := by
        unfold BD.le'
        rw [if_pos e2, el]
      rw [this] at q
      exact ⟨_, rfl, q⟩
theorem ok_farLeft {f : Addr} {fd : FuncData} {k0 : Nat} (F : Fun K "changes_far_left" "changes_far_left" sFarLeft f fd) (CC : Cal P w K mg base 1 "sign_changes" ["signs"] spSignChanges) (CS : Cal P w K mg base 2 "sign_far_left" ["polynomial"] (spSignFarLeft K)) :
    FnOk P w K mg base CX0 (k0 + 3) f fd ["chain"] (spChanges (· ≠ []) (fun q => BD.sg (BD.le' q)) K) := by
  refine F.ok scFarLeft (fun vs H Q E h => ?_) (fun cdv A outer s H vs Q E hr h => ?_)
  · obtain ⟨v, L, rfl, _⟩ := h; rfl
  · obtain ⟨v, L, rfl, ⟨a, xs, rfl, ha, hp⟩, lL, hV, k⟩ := h
    refine ⟨_, pss_one (ps_ret (pe_cal CC (hr.mono (by omega)) (pa_cons (pe_lc (own := [("member", 1)]) (g := gName 1) (tt := tYes) rfl scFarLeft.nd (pi_list (pv 0)) (blkOk_by (own := [("member", 1)]) (N := ["chain", "member"]) (sc := defScope sFarLeft) (by decide +kernel))
        (fun _ _ _ _ _ => pg_name (i := 1) scFarLeft.nd rfl (Or.inl rfl)) (fun _ _ _ _ _ => pts_nil)
        (fun _ _ _ _ _ => pe_cal CS (hr.mono (by omega)) (pa_cons (pv 1) pa_nil))) pa_nil))), ?_⟩
    refine ⟨_, rfl, a, rfl, ⟨_, sqL ha⟩, fun D hD => ?_⟩
    refine lc_list (K := K) (a := a) (xs := xs) (fun i H' => Same H H' ∧ H' D = some (.lst (((L.map fun q => BD.sg (BD.le' q)).take i).map V.int))) ⟨same_upd hD, upd_same⟩ (fun i H' _ hPv => sqL (hPv.1 _ _ ha)) (fun i y H' hy hPv => ?_) (fun H' hPv => ?_)
    · obtain ⟨sm, hacc⟩ := hPv
      obtain ⟨q, hq, hyq⟩ := paired_at hp hy
      refine ⟨rfl, yes ?_⟩
      refine ⟨_, rfl, y, q, rfl, hyq.same sm, hV q (List.mem_of_getElem? hq), ?_⟩
      refine ⟨_, hacc, ?_, same_grow sm hD, ?_⟩
      · rw [List.length_map, List.length_take]
        exact small1000 (by rw [List.length_map]; omega)
      · rw [upd_same, map_snoc hq]
    · obtain ⟨sm, hacc⟩ := hPv
      rw [List.take_of_length_le (by rw [List.length_map, paired_len hp]; exact Nat.le_refl _)] at hacc
      refine ⟨D, _, rfl, hacc, fun s hs => ?_, k H' sm⟩
      obtain ⟨q, _, rfl⟩ := List.mem_map.mp hs
      exact sg_bd _
end
end BP
set_option Elab.async false
set_option linter.all false
set_option maxRecDepth 100000
set_option maxHeartbeats 2000000
namespace BP
open PySem PySem.Spec PyProof.Rows L2
theorem reg_len : ∀ {L : List (List Rat)} {Pq : List Rat}, BD.RegC (Pq :: L) → Pq.length = L.length + 1
  | [], Pq, h => by
    cases h with
    | one h1 _ => exact h1
  | Q :: L, Pq, h => by
    cases h with
    | cons al be ha h1 h2 h3 hr hc => rw [h1, reg_len hc]; rfl
theorem reg_lens : ∀ {L : List (List Rat)} {k : Nat} {q : List Rat}, BD.RegC L → L[k]? = some q → q.length + k = L.length ∧ q ≠ []
  | [], k, q, h, e => by simp at e
  | Pq :: L, 0, q, h, e => by
    have e := Option.some.inj e
    subst e
    exact ⟨reg_len h, (BD.reg_head h).2⟩
  | Pq :: L, k + 1, q, h, e => by
    rcases reg_tail h with z | z
    · subst z; cases e
    · obtain ⟨h1, h2⟩ := reg_lens (k := k) z e
      exact ⟨by show q.length + (k + 1) = L.length + 1; omega, h2⟩
def SzOk (N : Nat) : Prop := 0 < N ∧ cb N 5 ≤ LIM ∧ (cb N 4 + 11) * 5 + 20 ≤ LIM
/-- what is known of a polynomial's chain -/
theorem chain_ok {p : List Rat} {L : List (List Rat)} {N : Nat} (hL : BD.IsCh p L) (hp : p.length ≤ 5) (sp : SzP N p) : L.length ≤ 5 ∧ (∀ q ∈ L, q ≠ [] ∧ q.length ≤ 5 ∧ SzP (cb N 4) q) := by
  obtain ⟨L', e⟩ := BD.isch_head hL
  have hl : p.length = L.length := by
    have := hL.1
    rw [e] at this
    rw [reg_len this, e]; rfl
  refine ⟨by omega, fun q hq => ?_⟩
  obtain ⟨k, hk, ek⟩ := List.getElem_of_mem hq
  have e2 : L[k]? = some q := by rw [List.getElem?_eq_getElem hk, ek]
  obtain ⟨h1, h2⟩ := reg_lens hL.1 e2
  refine ⟨h2, by omega, ?_⟩
  rcases hL.2 with ⟨h3, h4⟩ | ⟨h3, L2, h4⟩
  · rw [h4] at e2
    cases k with
    | zero =>
      have e3 := Option.some.inj e2
      subst e3
      exact sp.mono (cb_le N (Nat.zero_le 4))
    | succ k => cases e2
  · have hr := hL.1
    rw [h4] at hr e2
    have := chain_sz (N := N) (j := 0) hr sp (slope_sz sp (by omega)) k q e2
    rw [Nat.zero_add] at this
    exact this.mono (cb_le N (by omega))
theorem turnsAt {p : List Rat} {L : List (List Rat)} (hL : BD.IsCh p L) (x : Rat) : Sr71.turnsBy (L.map fun q => BD.sg (BD.ev x q)) = Sr71.turnsBy ((Sr71.chainOf (BD.fl p)).map fun q => Sr71.signOf (Sr71.valueAt q (BD.ofR x))) := by
  rw [BD.chainOf_R hL, BD.turns_at, ← BD.turnsBy_vv]
  congr 1
  unfold BD.vals
  rw [List.map_map]; rfl
theorem turnsTop {p : List Rat} {L : List (List Rat)} (hL : BD.IsCh p L) : Sr71.turnsBy (L.map fun q => BD.sg (BD.ld q)) = Sr71.turnsBy ((Sr71.chainOf (BD.fl p)).map Sr71.atTop) := by
  rw [BD.chainOf_R hL, BD.tops, ← BD.turnsBy_vv]
  congr 1
  rw [List.map_map]; rfl
theorem turnsEnd {p : List Rat} {L : List (List Rat)} (hL : BD.IsCh p L) : Sr71.turnsBy (L.map fun q => BD.sg (BD.le' q)) = Sr71.turnsBy ((Sr71.chainOf (BD.fl p)).map Sr71.atEnd) := by
  rw [BD.chainOf_R hL, BD.ends, ← BD.turnsBy_vv]
  congr 1
  rw [List.map_map]; rfl
section
variable {P : Program} {w : World} {K : PySem.W.Frag} {mg : Str → Option Value} {base : Heap} {z o : Addr}
/-- a polynomial whose zeros may be counted -/
structure Cnt (K : PySem.W.Frag) (H : Hp) (v : V) (p : List Rat) : Prop where
  at_ : PoA K H v p
  reg : BD.Regular p
  len : p.length ≤ 5
  sz : ∃ N, SzP N p ∧ SzOk N
def spBetween (K : PySem.W.Frag) : Sp := fun vs H Q _ => ∃ (v l r : V) (p : List Rat) (x y : Rat), vs = [v, l, r] ∧ Cnt K H v p ∧ RtA K H l x ∧ RtA K H r y ∧ Sz 10 x ∧ Sz 10 y ∧ x < y ∧ ∀ H', Same H H' → Q (.int ((Sr71.between (BD.fl p) (BD.ofR x) (BD.ofR y) : Nat) : Int)) H'
theorem ok_between {f : Addr} {fd : FuncData} (F : Fun K "zeros_between" "zeros_between" sBetween f fd) (CT : Cal P w K mg base 44 "sturm_chain" ["polynomial"] (spSturm K)) (CA : Cal P w K mg base 43 "changes_at" ["chain", "place"] (spChangesAt K)) :
    FnOk P w K mg base CX0 45 f fd ["polynomial", "left", "right"] (spBetween K) := by
  refine F.ok scBetween (fun vs H Q E h => ?_) (fun cdv A outer s H vs Q E hr h => ?_)
  · obtain ⟨v, l, r, p, x, y, rfl, _⟩ := h; rfl
  · obtain ⟨v, l, r, p, x, y, rfl, ⟨hv, hreg, lp, N, sp, sN⟩, hl, hr', sx, sy, hxy, k⟩ := h
    obtain ⟨L, hL⟩ := BD.ch_of hreg
    obtain ⟨lL, hm⟩ := chain_ok hL lp sp
    have hV : ∀ {x : Rat}, Sz 10 x → ∀ q ∈ L, VOk x q := fun hx q hq => vok_of hx (hm q hq).2.2 (hm q hq).2.1 sN.2.2
    refine ⟨_, pss_cons (ps_set (i := 3) scBetween.nd rfl (.inl rfl) (pe_cal CT hr (pa_cons (pv 0) pa_nil)))
      (pss_one (ps_ret (pe_op op_sub (pe_cal CA (hr.mono (by decide)) (pa_cons (pv 3) (pa_cons (pv 1) pa_nil))) (pe_cal CA (hr.mono (by decide)) (pa_cons (pv 3) (pa_cons (pv 2) pa_nil)))))), ?_⟩
    refine ⟨_, rfl, v, p, L, N, rfl, hv, hL, by omega, sp, sN.1, Nat.le_trans (cb_le N lL) sN.2.1, fun H1 u1 s1 hc => ?_⟩
    refine ⟨_, rfl, _, rfl, u1, l, L, x, rfl, hc, hl.same s1, by omega, sx.bg (by decide), hV sx, fun H2 s2 => ?_⟩
    refine ⟨_, rfl, _, rfl, u1, r, L, y, rfl, hc.same s2, (hr'.same s1).same s2, by omega, sy.bg (by decide), hV sy, fun H3 s3 => ?_⟩
    refine ⟨_, _, rfl, rfl, ?_⟩
    show Q (.int (_ - _)) H3
    rw [turnsAt hL, turnsAt hL, ← BD.between_R hreg hxy]
    exact k H3 ((s1.trans s2).trans s3)
def spAbove (K : PySem.W.Frag) : Sp := fun vs H Q _ => ∃ (v l : V) (p : List Rat), vs = [v, l] ∧ Cnt K H v p ∧ RtA K H l 0 ∧ ∀ H', Same H H' → Q (.int ((Sr71.rootsAbove (BD.fl p) : Nat) : Int)) H'
theorem ok_above {f : Addr} {fd : FuncData} (F : Fun K "zeros_above" "zeros_above" sAbove f fd) (CT : Cal P w K mg base 44 "sturm_chain" ["polynomial"] (spSturm K)) (CA : Cal P w K mg base 43 "changes_at" ["chain", "place"] (spChangesAt K)) (CR : Cal P w K mg base 2 "changes_far_right" ["chain"] (spChanges (· ≠ []) (fun q => BD.sg (BD.ld q)) K)) :
    FnOk P w K mg base CX0 45 f fd ["polynomial", "left"] (spAbove K) := by
  refine F.ok scAbove (fun vs H Q E h => ?_) (fun cdv A outer s H vs Q E hr h => ?_)
  · obtain ⟨v, l, p, rfl, _⟩ := h; rfl
  · obtain ⟨v, l, p, rfl, ⟨hv, hreg, lp, N, sp, sN⟩, hl, k⟩ := h
    obtain ⟨L, hL⟩ := BD.ch_of hreg
    obtain ⟨lL, hm⟩ := chain_ok hL lp sp
    have sx : Sz 10 (0 : Rat) := sz_zero 10 (by decide)
    refine ⟨_, pss_cons (ps_set (i := 2) scAbove.nd rfl (.inl rfl) (pe_cal CT hr (pa_cons (pv 0) pa_nil)))
      (pss_one (ps_ret (pe_op op_sub (pe_cal CA (hr.mono (by decide)) (pa_cons (pv 2) (pa_cons (pv 1) pa_nil))) (pe_cal CR (hr.mono (by decide)) (pa_cons (pv 2) pa_nil))))), ?_⟩
    refine ⟨_, rfl, v, p, L, N, rfl, hv, hL, by omega, sp, sN.1, Nat.le_trans (cb_le N lL) sN.2.1, fun H1 u1 s1 hc => ?_⟩
    refine ⟨_, rfl, _, rfl, u1, l, L, 0, rfl, hc, hl.same s1, by omega, sx.bg (by decide), fun q hq => vok_of sx (hm q hq).2.2 (hm q hq).2.1 sN.2.2, fun H2 s2 => ?_⟩
    refine ⟨_, rfl, u1, L, rfl, hc.same s2, by omega, fun q hq => (hm q hq).1, fun H3 s3 => ?_⟩
    refine ⟨_, _, rfl, rfl, ?_⟩
    show Q (.int (_ - _)) H3
    rw [turnsAt hL, turnsTop hL, ← BD.rootsAbove_R hreg]
    exact k H3 ((s1.trans s2).trans s3)
def spEverywhere (K : PySem.W.Frag) : Sp := fun vs H Q _ => ∃ (v : V) (p : List Rat), vs = [v] ∧ Cnt K H v p ∧ ∀ H', Same H H' → Q (.int ((Sr71.roots (BD.fl p) : Nat) : Int)) H'
theorem ok_everywhere {f : Addr} {fd : FuncData} (F : Fun K "zeros_everywhere" "zeros_everywhere" sEverywhere f fd) (CT : Cal P w K mg base 44 "sturm_chain" ["polynomial"] (spSturm K)) (CL : Cal P w K mg base 3 "changes_far_left" ["chain"] (spChanges (· ≠ []) (fun q => BD.sg (BD.le' q)) K)) (CR : Cal P w K mg base 2 "changes_far_right" ["chain"] (spChanges (· ≠ []) (fun q => BD.sg (BD.ld q)) K)) :
    FnOk P w K mg base CX0 45 f fd ["polynomial"] (spEverywhere K) := by
  refine F.ok scEverywhere (fun vs H Q E h => ?_) (fun cdv A outer s H vs Q E hr h => ?_)
  · obtain ⟨v, p, rfl, _⟩ := h; rfl
  · obtain ⟨v, p, rfl, ⟨hv, hreg, lp, N, sp, sN⟩, k⟩ := h
    obtain ⟨L, hL⟩ := BD.ch_of hreg
    obtain ⟨lL, hm⟩ := chain_ok hL lp sp
    refine ⟨_, pss_cons (ps_set (i := 1) scEverywhere.nd rfl (.inl rfl) (pe_cal CT hr (pa_cons (pv 0) pa_nil)))
      (pss_one (ps_ret (pe_op op_sub (pe_cal CL (hr.mono (by decide)) (pa_cons (pv 1) pa_nil)) (pe_cal CR (hr.mono (by decide)) (pa_cons (pv 1) pa_nil))))), ?_⟩
    refine ⟨_, rfl, v, p, L, N, rfl, hv, hL, by omega, sp, sN.1, Nat.le_trans (cb_le N lL) sN.2.1, fun H1 u1 s1 hc => ?_⟩
    refine ⟨_, rfl, u1, L, rfl, hc, by omega, fun q hq => (hm q hq).1, fun H2 s2 => ?_⟩
    refine ⟨_, rfl, u1, L, rfl, hc.same s2, by omega, fun q hq => (hm q hq).1, fun H3 s3 => ?_⟩
    refine ⟨_, _, rfl, rfl, ?_⟩
    show Q (.int (_ - _)) H3
    rw [turnsEnd hL, turnsTop hL, ← BD.roots_R hreg]
    exact k H3 ((s1.trans s2).trans s3)
end
end BP
set_option Elab.async false
set_option linter.all false
set_option maxRecDepth 100000
set_option maxHeartbeats 2000000
namespace BP
open PySem PySem.Spec PyProof.Rows L2
/-! ### sizes of a string's polynomials -/
/-- gaps below 2^G, beads below 2^200: upper, lower -/
def ul (G : Nat) : Nat → Nat × Nat
  | 0 => (G, 1)
  | n + 1 => (G + ((ul G n).2 + (200 + (ul G n).1) + 1) + (ul G n).1 + 1, (ul G n).2 + (200 + (ul G n).1) + 1)
theorem ul_pos {G : Nat} (h : 0 < G) : ∀ n, 0 < (ul G n).1
  | 0 => h
  | n + 1 => by show 0 < G + _ + _ + 1; omega
theorem SzP.sh {n : Nat} {p : List Rat} (h : SzP n p) (h0 : 0 < n) : ∀ k, Sz n (BD.sh (BD.cf p) k)
  | 0 => sz_zero n h0
  | k + 1 => h k
theorem szP_one {n : Nat} {x : Rat} (h : Sz n x) (h0 : 0 < n) : SzP n [x] := fun k => by
  cases k with
  | zero => exact h
  | succ k => exact sz_zero n h0
theorem rans_sz {G : Nat} (hG : 0 < G) : ∀ (bs ls : List Rat), ls.length = bs.length + 1 → (∀ x ∈ ls, Sz G x) → (∀ x ∈ bs, Sz 200 x) → SzP (ul G bs.length).1 (BD.rans ls bs).1 ∧ SzP (ul G bs.length).2 (BD.rans ls bs).2
  | [], [l], _, hl, _ => ⟨szP_one (hl l (by simp)) hG, szP_one (n := 1) ⟨by show 1 < 2 ^ 1; decide, by show 1 < 2 ^ 1; decide⟩ (by decide)⟩
  | b :: bs, l :: m :: ls, h, hl, hb => by
    have h' : (m :: ls).length = bs.length + 1 := by simpa using h
    obtain ⟨i1, i2⟩ := rans_sz hG bs (m :: ls) h' (fun x hx => hl x (List.mem_cons_of_mem _ hx)) (fun x hx => hb x (List.mem_cons_of_mem _ hx))
    have lo : SzP (ul G (bs.length + 1)).2 (BD.rans (l :: m :: ls) (b :: bs)).2 := fun k => by
      rw [BD.rans2, show BD.cf (BD.rans (m :: ls) bs).2 k - b * BD.sh (BD.cf (BD.rans (m :: ls) bs).1) k = BD.cf (BD.rans (m :: ls) bs).2 k + (-b) * BD.sh (BD.cf (BD.rans (m :: ls) bs).1) k by grind]
      exact (i2 k).add ((hb b (by simp)).neg.mul (i1.sh (ul_pos hG _) k))
    refine ⟨fun k => ?_, lo⟩
    rw [BD.rans1]
    exact ((hl l (by simp)).mul (lo k)).add (i1 k)
/-- a string as the program keeps it: what is known of its sizes -/
structure Good (ls bs : List Rat) : Prop where
  len : ls.length = bs.length + 1
  most : bs.length ≤ 4
  lp : ∀ x ∈ ls, 0 < x
  bp : ∀ x ∈ bs, 0 < x
  ls : ∀ x ∈ ls, Sz (201 * (5 - bs.length)) x
  bs : ∀ x ∈ bs, Sz 200 x
theorem Good.sz {ls bs : List Rat} (g : Good ls bs) : SzP (ul (201 * (5 - bs.length)) bs.length).1 (BD.rans ls bs).1 ∧ SzP (ul (201 * (5 - bs.length)) bs.length).2 (BD.rans ls bs).2 :=
  rans_sz (by have := g.most; omega) bs ls g.len g.ls g.bs
theorem sz_all (n : Nat) (h : n ≤ 4) : SzOk (ul (201 * (5 - n)) n).1 ∧ (ul (201 * (5 - n)) n).2 ≤ (ul (201 * (5 - n)) n).1 ∧ (ul (201 * (5 - n)) n).1 ≤ 17800 := by
  match n, h with
  | 0, _ => exact ⟨⟨by decide, by decide, by decide⟩, by decide, by decide⟩
  | 1, _ => exact ⟨⟨by decide, by decide, by decide⟩, by decide, by decide⟩
  | 2, _ => exact ⟨⟨by decide, by decide, by decide⟩, by decide, by decide⟩
  | 3, _ => exact ⟨⟨by decide, by decide, by decide⟩, by decide, by decide⟩
  | 4, _ => exact ⟨⟨by decide, by decide, by decide⟩, by decide, by decide⟩
theorem Good.up {ls bs : List Rat} (g : Good ls bs) {K : PySem.W.Frag} {H : Hp} {v : V} (h : PoA K H v (BD.rans ls bs).1) : Cnt K H v (BD.rans ls bs).1 :=
  ⟨h, BD.reg_up g.len g.most g.lp g.bp, by rw [(BD.rans_len bs ls g.len).1]; have := g.most; omega, _, g.sz.1, (sz_all _ g.most).1⟩
theorem Good.lo {ls bs : List Rat} (g : Good ls bs) {K : PySem.W.Frag} {H : Hp} {v : V} (h : PoA K H v (BD.rans ls bs).2) : Cnt K H v (BD.rans ls bs).2 :=
  ⟨h, BD.reg_lo g.len g.most g.lp g.bp, by rw [(BD.rans_len bs ls g.len).2]; have := g.most; omega, _, g.sz.2.mono (sz_all _ g.most).2.1, (sz_all _ g.most).1⟩
end BP
set_option Elab.async false
set_option linter.all false
set_option maxRecDepth 100000
set_option maxHeartbeats 2000000
namespace BP
open PySem PySem.Spec PyProof.Rows L2
abbrev sLies : Stmt := topS 46
abbrev sIsPlace : Stmt := topS 47
abbrev sTold : Stmt := topS 48
abbrev sSetPart : Stmt := topS 53
abbrev sToldParts : Stmt := topS 49
theorem scToldParts : FnScope ["gaps", "beads"] ["gaps", "beads"] (defScope sToldParts) := ⟨rfl, rfl, rfl, by decide +kernel, rfl, by decide +kernel, by decide +kernel⟩
theorem scLies : FnScope ["number", "least", "most"] ["number", "least", "most"] (defScope sLies) := ⟨rfl, rfl, rfl, by decide +kernel, rfl, by decide +kernel, by decide +kernel⟩
theorem scIsPlace : FnScope ["above", "below"] ["above", "below"] (defScope sIsPlace) := ⟨rfl, rfl, rfl, by decide +kernel, rfl, by decide +kernel, by decide +kernel⟩
theorem scTold : FnScope ["fractions", "numbers", "fraction"] ["fractions"] (defScope sTold) := ⟨rfl, rfl, rfl, by decide +kernel, rfl, by decide +kernel, by decide +kernel⟩
theorem scSetPart : FnScope ["parts", "i", "above", "below", "before"] ["parts", "i", "above", "below"] (defScope sSetPart) := ⟨rfl, rfl, rfl, by decide +kernel, rfl, by decide +kernel, by decide +kernel⟩
/-- the module's whole numbers -/
structure Nms (mg : Str → Option Value) : Prop where
  there : ∃ t, mg "NOT_THERE" = some (.int (-2) t)
  nlet : ∃ t, mg "NOT_LET" = some (.int (-22) t)
  beads : ∃ t, mg "MOST_BEADS" = some (.int 4 t)
  part : ∃ t, mg "MOST_OF_A_PART" = some (.int 99 t)
  place : ∃ t, mg "MOST_OF_A_PLACE" = some (.int 999 t)
section
variable {X : Cx}
theorem pe_num {x : Str} {i : Int} {pos : Pos} (hm : ∃ t, X.mg x = some (.int i t)) (hg : Gl X x := by rfl) (hd : (x == ("__debug__" : Str)) = false := by decide) : PE X (.Name x pos) (tC (.int i)) := by
  obtain ⟨t, hm⟩ := hm
  exact pe_glob (hd := hd) hg hm ⟨t, rfl⟩
end
theorem PlA.set {K : PySem.W.Frag} {H : Hp} {v : V} {r : Rat} (h : RtA K H v r) : ∀ {vs : List V} {p : List Rat} (i : Nat), PlA K H vs p → PlA K H (vs.set i v) (p.set i r)
  | _, _, _, .nil => .nil
  | _, _, 0, .cons _ t => .cons h t
  | _, _, i + 1, .cons q t => .cons q (PlA.set h i t)
theorem nums_snoc (p : List Rat) (r : Rat) : BD.nums (p ++ [r]) = BD.nums p ++ [r.num, ((r.den : Nat) : Int)] := by rw [BD.nums_app]; rfl
theorem nums_len : ∀ p : List Rat, (BD.nums p).length = 2 * p.length
  | [] => rfl
  | r :: p => by
    show (BD.nums p).length + 1 + 1 = 2 * (p.length + 1)
    rw [nums_len p]; omega
section
variable {P : Program} {w : World} {K : PySem.W.Frag} {mg : Str → Option Value} {base : Heap} {z o : Addr}
def spLies : Sp := fun vs H Q _ => ∃ n lo hi : Int, vs = [.int n, .int lo, .int hi] ∧ Q (.bl (decide (lo ≤ n ∧ n ≤ hi))) H
theorem ok_lies {f : Addr} {fd : FuncData} {k : Nat} (F : Fun K "lies_within" "lies_within" sLies f fd) : FnOk P w K mg base CX0 (k + 1) f fd ["number", "least", "most"] spLies := by
  refine F.ok scLies (fun vs H Q E h => ?_) (fun cdv A outer s H vs Q E hr h => ?_)
  · obtain ⟨n, lo, hi, rfl, _⟩ := h; rfl
  · obtain ⟨n, lo, hi, rfl, q⟩ := h
    refine ⟨_, pss_one (ps_ret (pe_and (pe_cmpR op_le (pv 1) (pv 0) (nomark _)) (pe_one (pe_cmpR op_le (pv 0) (pv 2) (nomark _))))), ?_⟩
    refine ⟨_, rfl, _, rfl, _, _, rfl, rfl, _, rfl, ite2 (fun e => ?_) (fun e => ?_)⟩
    · have h1 : lo ≤ n := of_decide_eq_true e
      refine ⟨_, rfl, _, rfl, _, _, rfl, rfl, ?_⟩
      have e2 : decide (lo ≤ n ∧ n ≤ hi) = decide (n ≤ hi) := decide_eq_decide.mpr ⟨fun y => y.2, fun y => ⟨h1, y⟩⟩
      rw [e2] at q
      exact q
    · have h1 : ¬ lo ≤ n := fun y => e (decide_eq_true y)
      have e2 : decide (lo ≤ n ∧ n ≤ hi) = false := decide_eq_false fun y => h1 y.1
      rw [e2] at q
      exact q
def okPl (a b : Int) : Prop := (-999 ≤ a ∧ a ≤ 999) ∧ 1 ≤ b ∧ b ≤ 999
instance (a b : Int) : Decidable (okPl a b) := by unfold okPl; infer_instance
def spIsPlace : Sp := fun vs H Q _ => ∃ a b : Int, vs = [.int a, .int b] ∧ Q (.bl (decide (okPl a b))) H
theorem ok_isPlace {f : Addr} {fd : FuncData} {k : Nat} (F : Fun K "is_place" "is_place" sIsPlace f fd) (N : Nms mg) (C1 : Cal P w K mg base 1 "lies_within" ["number", "least", "most"] spLies) : FnOk P w K mg base CX0 (k + 2) f fd ["above", "below"] spIsPlace := by
  refine F.ok scIsPlace (fun vs H Q E h => ?_) (fun cdv A outer s H vs Q E hr h => ?_)
  · obtain ⟨a, b, rfl, _⟩ := h; rfl
  · obtain ⟨a, b, rfl, q⟩ := h
    refine ⟨_, pss_one (ps_ret (pe_and (pe_cal C1 (hr.mono (by omega)) (pa_cons (pv 0) (pa_cons (pe_un un_neg (pe_num N.place)) (pa_cons (pe_num N.place) pa_nil)))) (pe_one (pe_cal C1 (hr.mono (by omega)) (pa_cons (pv 1) (pa_cons pe_int (pa_cons (pe_num N.place) pa_nil))))))), ?_⟩
    refine ⟨_, rfl, _, rfl, a, _, _, rfl, _, rfl, ite2 (fun e => ?_) (fun e => ?_)⟩
    · have h1 : -999 ≤ a ∧ a ≤ 999 := of_decide_eq_true e
      refine ⟨_, rfl, b, _, _, rfl, ?_⟩
      have e2 : decide (okPl a b) = decide (1 ≤ b ∧ b ≤ 999) := decide_eq_decide.mpr ⟨fun y => y.2, fun y => ⟨h1, y⟩⟩
      rw [e2] at q
      exact q
    · have h1 : ¬ (-999 ≤ a ∧ a ≤ 999) := fun y => e (decide_eq_true y)
      have e2 : decide (okPl a b) = false := decide_eq_false fun y => h1 y.1
      rw [e2] at q
      exact q
/-- a new list of whole numbers -/
def NewL (H : Hp) (ns : List Int) (Q : VK) : Prop := ∀ (H' : Hp) (d : Addr), Same H H' → H d = none → H' d = some (.lst (ns.map V.int)) → Q (.ref d) H'
def spTold (K : PySem.W.Frag) : Sp := fun vs H Q _ => ∃ (v : V) (p : List Rat), vs = [v] ∧ PoA K H v p ∧ p.length ≤ 1000 ∧ NewL H (BD.nums p) Q
theorem ok_told {f : Addr} {fd : FuncData} {k : Nat} (F : Fun K "told_fractions" "told_fractions" sTold f fd) : FnOk P w K mg base CX0 (k + 1) f fd ["fractions"] (spTold K) := by
  refine F.ok scTold (fun vs H Q E h => ?_) (fun cdv A outer s H vs Q E hr h => ?_)
  · obtain ⟨v, p, rfl, _⟩ := h; rfl
  · obtain ⟨v, p, rfl, ⟨a, xs, rfl, ha, hp⟩, lp, k⟩ := h
    refine ⟨_, pss_cons (ps_set (i := 1) scTold.nd rfl (.inl rfl) (pe_lst pa_nil))
      (pss_cons (ps_for PassesOwn.never rfl (pi_list (pv 0)) (pg_name (i := 2) scTold.nd rfl (.inl rfl))
        (pss_one (ps_expr (pe_bm PySem.F.plainAttrs_list PySem.F.slot_list_extend PySem.F.type_list_extend mt_extend (pv 1) (pa_cons (pe_lst (pa_cons (pe_ix ix_tup (pv 2) pe_int (fun _ _ => rfl)) (pa_cons (pe_ix ix_tup (pv 2) pe_int (fun _ _ => rfl)) pa_nil))) pa_nil)))))
      (pss_one (ps_ret (pv 1)))), ?_⟩
    refine ⟨Nat.zero_le _, fun D hD => ?_⟩
    have s0 := same_upd (o := .lst []) hD
    refine ⟨_, rfl, a, rfl, ⟨_, sqL (s0 _ _ ha)⟩, for_list (K := K) (a := a) (xs := xs) (fun i σ H' => ∃ y : Option V, σ = [some (.ref a), some (.ref D), y] ∧ Same H H' ∧ H' D = some (.lst ((BD.nums (p.take i)).map V.int))) ⟨none, rfl, s0, upd_same⟩ (fun i σ H' _ ⟨_, _, sm, _⟩ => sqL (sm _ _ ha)) ?_ ?_⟩
    · rintro i y σ H' hi ⟨y2, rfl, sm, hD'⟩
      obtain ⟨hpi, t, rfl, ht⟩ := hp.at hi
      have ht' := seqT sm ht
      refine ⟨_, rfl, .inl ⟨rfl, _, sqL hD'⟩, _, rfl, t, _, _, _, rfl, rfl, ht', rfl, _, rfl, t, _, _, _, rfl, rfl, ht', rfl, by show 2 ≤ sizeLine; decide, fun l hl => ?_⟩
      have s1 := same_upd (o := .lst [V.int (BD.cf p i).num, V.int (((BD.cf p i).den : Nat) : Int)]) hl
      refine ⟨D, l, _, _, rfl, rfl, s1 _ _ hD', upd_same, ?_, ?_⟩
      · rw [List.length_map, nums_len, List.length_take]
        show 2 * min i p.length + 2 ≤ sizeLine
        have : 2002 ≤ sizeLine := by decide
        omega
      · refine ⟨_, rfl, same_grow (sm.trans s1) hD, ?_⟩
        rw [upd_same, take_more hpi, nums_snoc, List.map_append]; rfl
    · rintro σ H' ⟨y2, rfl, sm, hD'⟩
      rw [List.take_of_length_le (by rw [hp.len]; exact Nat.le_refl _)] at hD'
      exact ⟨_, rfl, k H' D sm hD hD'⟩
/-! ### told_parts -/
def spToldParts (K : PySem.W.Frag) : Sp := fun vs H Q _ => ∃ (v u : V) (p q : List Rat), vs = [v, u] ∧ PoA K H v p ∧ PoA K H u q ∧ p.length ≤ 100 ∧ q.length ≤ 100 ∧ NewL H ((q.length : Int) :: BD.nums (p ++ q)) Q
theorem ok_toldParts {f : Addr} {fd : FuncData} {k0 : Nat} (F : Fun K "told_parts" "told_parts" sToldParts f fd) (c : Con K mg z o) (CT : Cal P w K mg base 1 "told_fractions" ["fractions"] (spTold K)) :
    FnOk P w K mg base CX0 (k0 + 2) f fd ["gaps", "beads"] (spToldParts K) := by
  refine F.ok scToldParts (fun vs H Q E h => ?_) (fun cdv A outer s H vs Q E hr h => ?_)
  · obtain ⟨v, u, p, q, rfl, _⟩ := h; rfl
  · obtain ⟨v, u, p, q, rfl, ⟨g, xg, rfl, hg, pg⟩, ⟨d, xd, rfl, hd, pd⟩, lp, lq, k⟩ := h
    refine ⟨_, pss_one (ps_ret (pe_op op_cat (pe_op op_cat (pe_lst (pa_cons (pe_callB call_len_seq (by rfl) c.len PySem.boot_len (pa_cons (pv 1) pa_nil)) pa_nil)) (pe_cal CT (hr.mono (by omega)) (pa_cons (pv 0) pa_nil))) (pe_cal CT (hr.mono (by omega)) (pa_cons (pv 1) pa_nil)))), ?_⟩
    refine ⟨_, rfl, d, xd, rfl, .inl (sqL hd), by show 1 ≤ sizeLine; decide, fun p1 n1 => ?_⟩
    have s1 := same_upd (o := .lst [V.int (xd.length : Int)]) n1
    refine ⟨_, rfl, .ref g, p, rfl, ⟨g, xg, rfl, s1 _ _ hg, pg.same s1⟩, by omega, fun H2 d2 s2 n2 h2 => ?_⟩
    refine ⟨p1, d2, _, _, rfl, rfl, s2 _ _ upd_same, h2, by rw [List.length_map, nums_len]; show 1 + _ ≤ sizeLine; exact Nat.le_trans (show _ ≤ 1000 by omega) (by decide), fun p3 n3 => ?_⟩
    have s3 := same_upd (o := .lst ([V.int (xd.length : Int)] ++ (BD.nums p).map V.int)) n3
    have s13 := (s1.trans s2).trans s3
    refine ⟨_, rfl, .ref d, q, rfl, ⟨d, xd, rfl, s13 _ _ hd, pd.same s13⟩, by omega, fun H4 d4 s4 n4 h4 => ?_⟩
    refine ⟨p3, d4, _, _, rfl, rfl, s4 _ _ upd_same, h4, by rw [List.length_append, List.length_map, List.length_map, nums_len, nums_len]; show 1 + _ + _ ≤ sizeLine; exact Nat.le_trans (show _ ≤ 1000 by omega) (by decide), fun p5 n5 => ?_⟩
    have s5 := same_upd (o := .lst ([V.int (xd.length : Int)] ++ (BD.nums p).map V.int ++ (BD.nums q).map V.int)) n5
    have s15 := (s13.trans s4).trans s5
    refine k _ p5 s15 ((s13.trans s4).free n5) ?_
    show _ = some (HO.lst (((q.length : Int) :: BD.nums (p ++ q)).map V.int))
    rw [upd_same, pd.len, BD.nums_app, List.map_cons, List.map_append]; rfl
/-! ### set_part -/
def okPart (x y : Int) : Prop := (1 ≤ x ∧ x ≤ 99) ∧ 1 ≤ y ∧ y ≤ 99
/-- all but the object at a is as it was -/
def But (a : Addr) (H H' : Hp) : Prop := ∀ b x, H b = some x → b ≠ a → H' b = some x
def spSetPart (K : PySem.W.Frag) : Sp := fun vs H Q _ => ∃ (a : Addr) (xs : List V) (ls : List Rat) (i x y : Int), vs = [.ref a, .int i, .int x, .int y] ∧ H a = some (.lst xs) ∧ PlA K H xs ls ∧ ls.length ≤ 1000 ∧
  (¬ (0 ≤ i ∧ i < (ls.length : Int)) → NewL H [-2] Q) ∧ (0 ≤ i ∧ i < (ls.length : Int) → ¬ okPart x y → NewL H [-22] Q) ∧
  (0 ≤ i ∧ i < (ls.length : Int) → okPart x y → ∀ (H' : Hp) (d : Addr) (xs' : List V), But a H H' → H' a = some (.lst xs') → PlA K H' xs' (ls.set i.toNat ((x : Rat) / (y : Rat))) → H d = none → H' d = some (.lst ((0 :: BD.nums [ls.getD i.toNat 0]).map V.int)) → Q (.ref d) H')
theorem newL_one {H : Hp} {n : Int} {Q : VK} (h : NewL H [n] Q) : ∀ p, H p = none → Q (.ref p) (upd H p (.lst [.int n])) := fun p hp => h _ p (same_upd hp) hp upd_same
theorem ok_setPart {f : Addr} {fd : FuncData} (F : Fun K "set_part" "set_part" sSetPart f fd) (c : Con K mg z o) (N : Nms mg) (C1 : Cal P w K mg base 1 "lies_within" ["number", "least", "most"] spLies) (C2 : Cal P w K mg base 40 "lowest" ["above", "below"] spLowest) (C3 : Cal P w K mg base 1 "told_fractions" ["fractions"] (spTold K)) :
    FnOk P w K mg base CX0 41 f fd ["parts", "i", "above", "below"] (spSetPart K) := by
  refine F.ok scSetPart (fun vs H Q E h => ?_) (fun cdv A outer s H vs Q E hr h => ?_)
  · obtain ⟨a, xs, ls, i, x, y, rfl, _⟩ := h; rfl
  · obtain ⟨a, xs, ls, i, x, y, rfl, ha, hp, ll, k1, k2, k3⟩ := h
    have hlen := hp.len
    refine ⟨_, pss_cons (ps_if (pt_not (pt_val (pe_cal C1 (hr.mono (by decide)) (pa_cons (pv 1) (pa_cons pe_int (pa_cons (pe_op op_sub (pe_callB call_len_seq (by rfl) c.len PySem.boot_len (pa_cons (pv 0) pa_nil)) pe_int) pa_nil)))))) (pss_one (ps_ret (pe_lst (pa_cons (pe_num N.there) pa_nil)))) pss_nil)
      (pss_cons (ps_if (pt_not (PW.pt (pw_and (pt_val (pe_cal C1 (hr.mono (by decide)) (pa_cons (pv 2) (pa_cons pe_int (pa_cons (pe_num N.part) pa_nil))))) (pw_and1 (pt_val (pe_cal C1 (hr.mono (by decide)) (pa_cons (pv 3) (pa_cons pe_int (pa_cons (pe_num N.part) pa_nil))))))))) (pss_one (ps_ret (pe_lst (pa_cons (pe_num N.nlet) pa_nil)))) pss_nil)
      (pss_cons (ps_set (i := 4) scSetPart.nd rfl (.inl rfl) (pe_ix ix_list (pv 0) (pv 1) (fun _ _ => rfl)))
      (pss_cons (ps_asg (pe_cal C2 hr (pa_cons (pv 2) (pa_cons (pv 3) pa_nil))) (pg_sub (pv 0) (pv 1) set_list))
      (pss_one (ps_ret (pe_op op_cat (pe_lst (pa_cons pe_int pa_nil)) (pe_cal C3 (hr.mono (by decide)) (pa_cons (pe_lst (pa_cons (pv 4) pa_nil)) pa_nil)))))))), ?_⟩
    refine ⟨_, rfl, _, rfl, a, xs, rfl, .inl (sqL ha), _, _, rfl, rfl, i, _, _, rfl, _, rfl, ite2 (fun e => ?_) (fun e => ?_)⟩
    · have hi : ¬ (0 ≤ i ∧ i < (ls.length : Int)) := fun y => by
        have e2 : decide (0 ≤ i ∧ i ≤ (xs.length : Int) - 1) = true := decide_eq_true (by omega)
        rw [e2] at e
        cases e
      exact ⟨by show 1 ≤ sizeLine; decide, fun p hp => newL_one (k1 hi) p hp⟩
    · have hi : 0 ≤ i ∧ i < (ls.length : Int) := by
        by_cases y : 0 ≤ i ∧ i ≤ (xs.length : Int) - 1
        · omega
        · exfalso
          refine e ?_
          rw [decide_eq_false y]; rfl
      refine ⟨_, rfl, x, _, _, rfl, _, rfl, ?_⟩
      by_cases hx : 1 ≤ x ∧ x ≤ 99
      · rw [decide_eq_true hx]
        refine iteT ?_
        refine ⟨_, rfl, y, _, _, rfl, _, rfl, ?_⟩
        by_cases hy : 1 ≤ y ∧ y ≤ 99
        · rw [decide_eq_true hy]
          refine iteF ?_
          -- before = parts[i]; parts[i] = lowest(above, below)
          obtain ⟨u, hu, hru⟩ := hp.get (k := i.toNat) (by omega)
          have ei : i = ((i.toNat : Nat) : Int) := by omega
          refine ⟨_, rfl, _, rfl, a, xs, _, u, rfl, rfl, sqL ha, by rw [ei]; exact atI_nat hu, ?_⟩
          refine ⟨_, rfl, _, rfl, x, y, rfl, by omega, fun t ht => ?_⟩
          have s1 := same_upd (o := .tup (fr ((x : Rat) / (y : Rat)))) ht
          have ha1 := s1 _ _ ha
          refine ⟨_, rfl, _, rfl, a, xs, i, i.toNat, rfl, rfl, ha1, ?_, ?_⟩
          · unfold ixN
            rw [if_pos hi.1, if_pos (by omega)]
          · -- [0] + told_fractions([before])
            have b1 : But a H (upd (upd H t (.tup (fr ((x : Rat) / (y : Rat))))) a (.lst (xs.set i.toNat (.ref t)))) := fun b q e ne => by
              rw [upd_ne ne]
              exact s1 _ _ e
            have h2a : (upd (upd H t (.tup (fr ((x : Rat) / (y : Rat))))) a (.lst (xs.set i.toNat (.ref t)))) a = some (.lst (xs.set i.toNat (.ref t))) := upd_same
            have hp2 : PlA K (upd (upd H t (.tup (fr ((x : Rat) / (y : Rat))))) a (.lst (xs.set i.toNat (.ref t)))) (xs.set i.toNat (.ref t)) (ls.set i.toNat ((x : Rat) / (y : Rat))) := PlA.set (rtA_new.beside ha1) _ ((hp.same s1).beside ha1)
            have hu2 : RtA K (upd (upd H t (.tup (fr ((x : Rat) / (y : Rat))))) a (.lst (xs.set i.toNat (.ref t)))) u (BD.cf ls i.toNat) := (hru.same s1).beside ha1
            have fr2 : ∀ d, (upd (upd H t (.tup (fr ((x : Rat) / (y : Rat))))) a (.lst (xs.set i.toNat (.ref t)))) d = none → H d = none := fun d hd => by
              have ne : d ≠ a := fun e => by rw [e, upd_same] at hd; cases hd
              rw [upd_ne ne] at hd
              exact s1.free hd
            generalize upd (upd H t (.tup (fr ((x : Rat) / (y : Rat))))) a (.lst (xs.set i.toNat (.ref t))) = H2 at b1 h2a hp2 hu2 fr2 ⊢
            refine ⟨by show 1 ≤ sizeLine; decide, fun l1 n1 => ?_⟩
            have s3 := same_upd (o := .lst [V.int 0]) n1
            refine ⟨_, rfl, by show 1 ≤ sizeLine; decide, fun l2 n2 => ?_⟩
            have s4 := same_upd (o := .lst [u]) n2
            refine ⟨.ref l2, [BD.cf ls i.toNat], rfl, ⟨l2, [u], rfl, upd_same, .cons ((hu2.same s3).same s4) .nil⟩, by show 1 ≤ 1000; decide, fun H5 l5 s5 n5 h5 => ?_⟩
            refine ⟨l1, l5, _, _, rfl, rfl, s5 _ _ (s4 _ _ upd_same), h5, by show 1 + 2 ≤ sizeLine; decide, fun d hd => ?_⟩
            have s6 := same_upd (o := .lst ([V.int 0] ++ (BD.nums [BD.cf ls i.toNat]).map V.int)) hd
            have st := ((s3.trans s4).trans s5).trans s6
            refine k3 hi ⟨hx, hy⟩ _ d _ (fun b q e ne => st _ _ (b1 b q e ne)) (st _ _ h2a) (hp2.same st) (fr2 d (((s3.trans s4).trans s5).free hd)) upd_same
        · rw [decide_eq_false hy]
          refine iteT ?_
          exact ⟨by show 1 ≤ sizeLine; decide, fun p hp => newL_one (k2 hi fun q => hy q.2) p hp⟩
      · rw [decide_eq_false hx]
        refine iteF ?_
        refine iteT ?_
        exact ⟨by show 1 ≤ sizeLine; decide, fun p hp => newL_one (k2 hi fun q => hx q.1) p hp⟩
end
end BP
set_option Elab.async false
set_option linter.all false
set_option maxRecDepth 100000
set_option maxHeartbeats 2000000
namespace BP
open PySem PySem.Spec PyProof.Rows L2
abbrev sStrand : Stmt := topS 54
abbrev mPoly : Stmt := inClass sStrand 5
abbrev mAnswer : Stmt := inClass sStrand 6
theorem scPoly : FnScope ["self", "upper", "lower", "i"] ["self"] (defScope mPoly) := ⟨rfl, rfl, rfl, by decide +kernel, rfl, by decide +kernel, by decide +kernel⟩
theorem scAnswer : FnScope ["self", "both"] ["self"] (defScope mAnswer) := ⟨rfl, rfl, rfl, by decide +kernel, rfl, by decide +kernel, by decide +kernel⟩
/-! ### the object -/
abbrev sF (b : Bool) (g d : Addr) : List (Str × V) := [("begun", .bl b), ("gaps", .ref g), ("beads", .ref d)]
structure StA (K : PySem.W.Frag) (C : Addr) (H : Hp) (a g d : Addr) (b : Bool) (ls bs : List Rat) : Prop where
  obj : ∃ dx, H a = some (.ins C dx (sF b g d))
  gaps : ∃ xs, H g = some (.lst xs) ∧ PlA K H xs ls
  beads : ∃ xs, H d = some (.lst xs) ∧ PlA K H xs bs
  ne : g ≠ d
theorem StA.same {K : PySem.W.Frag} {C : Addr} {H H' : Hp} {a g d : Addr} {b : Bool} {ls bs : List Rat} (h : StA K C H a g d b ls bs) (e : Same H H') : StA K C H' a g d b ls bs where
  obj := let ⟨dx, h1⟩ := h.obj; ⟨dx, e _ _ h1⟩
  gaps := let ⟨xs, h1, h2⟩ := h.gaps; ⟨xs, e _ _ h1, h2.same e⟩
  beads := let ⟨xs, h1, h2⟩ := h.beads; ⟨xs, e _ _ h1, h2.same e⟩
  ne := h.ne
structure Txt (K : PySem.W.Frag) (C : Addr) : Prop where
  cl : Cls K C
  nU : NoAttr K C "begun"
  nG : NoAttr K C "gaps"
  nB : NoAttr K C "beads"
theorem lk_here {k : Str} {v : V} {r : List (Str × V)} : List.lookup k ((k, v) :: r) = some v := by
  have e : (k == k) = true := beq_self_eq_true k
  simp only [List.lookup, e]
theorem lk_past {k g : Str} {v : V} {r : List (Str × V)} (h : (k == g) = false) : List.lookup k ((g, v) :: r) = List.lookup k r := by
  simp only [List.lookup, h]
theorem sF_begun (b : Bool) (g d : Addr) : (sF b g d).lookup ("begun" : Str) = some (.bl b) := lk_here
theorem sF_gaps (b : Bool) (g d : Addr) : (sF b g d).lookup ("gaps" : Str) = some (.ref g) := (lk_past (by decide +kernel)).trans lk_here
theorem sF_beads (b : Bool) (g d : Addr) : (sF b g d).lookup ("beads" : Str) = some (.ref d) := (lk_past (by decide +kernel)).trans ((lk_past (by decide +kernel)).trans lk_here)
/-! ### sizes of tails -/
theorem ul_mono (G : Nat) : ∀ n, (ul G n).1 ≤ (ul G (n + 1)).1 ∧ (ul G n).2 ≤ (ul G (n + 1)).2 := fun n => by
  constructor
  · show (ul G n).1 ≤ G + _ + (ul G n).1 + 1; omega
  · show (ul G n).2 ≤ (ul G n).2 + _ + 1; omega
theorem ul_le (G : Nat) {i j : Nat} (h : i ≤ j) : (ul G i).1 ≤ (ul G j).1 ∧ (ul G i).2 ≤ (ul G j).2 := by
  induction j with
  | zero => rw [show i = 0 by omega]; exact ⟨Nat.le_refl _, Nat.le_refl _⟩
  | succ j ih =>
    by_cases c : i = j + 1
    · rw [c]; exact ⟨Nat.le_refl _, Nat.le_refl _⟩
    · have := ih (by omega)
      have := ul_mono G j
      omega
theorem Good.tail {ls bs : List Rat} (g : Good ls bs) (i : Nat) : SzP 17800 (BD.rans (ls.drop i) (bs.drop i)).1 ∧ SzP 17800 (BD.rans (ls.drop i) (bs.drop i)).2 ∨ bs.length < i := by
  by_cases c : i ≤ bs.length
  · left
    have h1 := g.most
    have s := rans_sz (G := 201 * (5 - bs.length)) (by omega) (bs.drop i) (ls.drop i) (by rw [List.length_drop, List.length_drop, g.len]; omega) (fun x hx => g.ls x (List.mem_of_mem_drop hx)) (fun x hx => g.bs x (List.mem_of_mem_drop hx))
    have l := ul_le (201 * (5 - bs.length)) (show (bs.drop i).length ≤ bs.length by rw [List.length_drop]; omega)
    have a := sz_all _ g.most
    exact ⟨s.1.mono (by omega), s.2.mono (by omega)⟩
  · right; omega
theorem drop_cons {l : List Rat} {i : Nat} (h : i < l.length) : l.drop i = BD.cf l i :: l.drop (i + 1) := by
  rw [List.drop_eq_getElem_cons h]
  congr 1
  unfold BD.cf
  rw [List.getD_eq_getElem?_getD, List.getElem?_eq_getElem h]; rfl
theorem rans_step {l b : Rat} {ls bs : List Rat} (h : ls ≠ []) : BD.rans (l :: ls) (b :: bs) = (BD.radd (BD.rscale l (BD.radd (BD.rans ls bs).2 (BD.rscale (-b) (0 :: (BD.rans ls bs).1)))) (BD.rans ls bs).1, BD.radd (BD.rans ls bs).2 (BD.rscale (-b) (0 :: (BD.rans ls bs).1))) := by
  cases ls with
  | nil => exact absurd rfl h
  | cons m ls => rfl
theorem mem_cf {l : List Rat} {i : Nat} (h : i < l.length) : BD.cf l i ∈ l := by
  have := cf_some h
  exact List.mem_of_getElem? this
section
variable {P : Program} {w : World} {K : PySem.W.Frag} {mg : Str → Option Value} {base : Heap} {z o C : Addr}
def spPoly (K : PySem.W.Frag) (C : Addr) : Sp := fun vs H Q _ => ∃ (a g d : Addr) (b : Bool) (ls bs : List Rat), vs = [.ref a] ∧ StA K C H a g d b ls bs ∧ Good ls bs ∧
  ∀ (H' : Hp) (t : Addr) (u l : V), Same H H' → SqT K H' t [u, l] → PoA K H' u (BD.rans ls bs).1 → PoA K H' l (BD.rans ls bs).2 → Q (.ref t) H'
theorem ok_poly {f : Addr} {fd : FuncData} (F : Fun K "polynomials" "Strand.polynomials" mPoly f fd) (T : Txt K C) (c : Con K mg z o) (CO : Cal P w K mg base 1 "opposite" ["one"] (spOpposite K)) (CR : Cal P w K mg base 1 "raised" ["polynomial", "steps"] (spRaised K))
    (CS : Cal P w K mg base 42 "scaled" ["polynomial", "number"] (spScaled K)) (CA : Cal P w K mg base 42 "added" ["one", "other"] (spAdded K)) : FnOk P w K mg base CX0 43 f fd ["self"] (spPoly K C) := by
  refine F.ok scPoly (fun vs H Q E h => ?_) (fun cdv A outer s H vs Q E hr h => ?_)
  · obtain ⟨a, g, d, b, ls, bs, rfl, _⟩ := h; rfl
  · obtain ⟨a, g, d, b, ls, bs, rfl, hS, gd, k⟩ := h
    refine ⟨_, pss_cons (ps_set (i := 1) scPoly.nd rfl (.inl rfl) (pe_lst (pa_cons (pe_ix ix_list (pe_fld (pv 0) rfl) (pe_un un_neg pe_int) (fun _ _ => rfl)) pa_nil)))
      (pss_cons (ps_set (i := 2) scPoly.nd rfl (.inl rfl) (pe_lst (pa_cons (pe_glob (v := .ref o) (by rfl) c.mo rfl) pa_nil)))
      (pss_cons (ps_for PassesOwn.never rfl (pi_range3 (by rfl) c.range (pa_cons (pe_op op_sub (pe_callB call_len_seq (by rfl) c.len PySem.boot_len (pa_cons (pe_fld (pv 0) rfl) pa_nil)) pe_int) (pa_cons (pe_un un_neg pe_int) (pa_cons (pe_un un_neg pe_int) pa_nil))))
          (pg_name (i := 3) scPoly.nd rfl (.inl rfl))
        (pss_cons (ps_set (i := 2) scPoly.nd rfl (.inl rfl) (pe_cal CA hr (pa_cons (pv 2) (pa_cons (pe_cal CS hr (pa_cons (pe_cal CR (hr.mono (by decide)) (pa_cons (pv 1) (pa_cons pe_int pa_nil))) (pa_cons (pe_cal CO (hr.mono (by decide)) (pa_cons (pe_ix ix_list (pe_fld (pv 0) rfl) (pv 3) (fun _ _ => rfl)) pa_nil)) pa_nil))) pa_nil))))
        (pss_one (ps_set (i := 1) scPoly.nd rfl (.inl rfl) (pe_cal CA hr (pa_cons (pe_cal CS hr (pa_cons (pv 2) (pa_cons (pe_ix ix_list (pe_fld (pv 0) rfl) (pv 3) (fun _ _ => rfl)) pa_nil))) (pa_cons (pv 1) pa_nil)))))))
      (pss_one (ps_ret (pe_tup (pa_cons (pv 1) (pa_cons (pv 2) pa_nil))))))), ?_⟩
    obtain ⟨⟨dx, ho⟩, ⟨xg, hg, pg⟩, ⟨xd, hd, pd⟩, ne⟩ := hS
    have lg := pg.len
    have ld := pd.len
    have l0 := gd.len
    have l4 := gd.most
    have lsne : ls ≠ [] := fun z => by subst z; simp at l0
    obtain ⟨vl, ivl, hvl⟩ := pg.last lsne
    -- upper = [self.gaps[-1]]; lower = [ONE]
    refine ⟨_, rfl, a, C, dx, _, _, rfl, ho, T.cl, T.nG, sF_gaps b g d, _, rfl, g, xg, _, vl, rfl, rfl, sqL hg, ivl, by show 1 ≤ sizeLine; decide, fun u0 nu0 => ?_⟩
    have s1 := same_upd (o := .lst [vl]) nu0
    refine ⟨by show 1 ≤ sizeLine; decide, fun w0 nw0 => ?_⟩
    have s2 := same_upd (o := .lst [V.ref o]) nw0
    have s12 := s1.trans s2
    have hu0 : PoA K (upd (upd H u0 (.lst [vl])) w0 (.lst [V.ref o])) (.ref u0) (BD.rans (ls.drop bs.length) (bs.drop bs.length)).1 := by
      have e : BD.rans (ls.drop bs.length) (bs.drop bs.length) = ([BD.cf ls (ls.length - 1)], [1]) := by
        rw [drop_cons (show bs.length < ls.length by omega), List.drop_eq_nil_of_le (show ls.length ≤ bs.length + 1 by omega), List.drop_length, show ls.length - 1 = bs.length by omega]; rfl
      rw [e]
      exact ⟨u0, [vl], rfl, s2 _ _ upd_same, .cons (hvl.same s12) .nil⟩
    have hw0 : PoA K (upd (upd H u0 (.lst [vl])) w0 (.lst [V.ref o])) (.ref w0) (BD.rans (ls.drop bs.length) (bs.drop bs.length)).2 := by
      have e : BD.rans (ls.drop bs.length) (bs.drop bs.length) = ([BD.cf ls (ls.length - 1)], [1]) := by
        rw [drop_cons (show bs.length < ls.length by omega), List.drop_eq_nil_of_le (show ls.length ≤ bs.length + 1 by omega), List.drop_length, show ls.length - 1 = bs.length by omega]; rfl
      rw [e]
      exact ⟨w0, [.ref o], rfl, upd_same, .cons (c.one _) .nil⟩
    generalize upd (upd H u0 (.lst [vl])) w0 (.lst [V.ref o]) = H2 at s12 hu0 hw0 ⊢
    refine ⟨_, rfl, a, C, dx, _, _, rfl, s12 _ _ ho, T.cl, T.nB, sF_beads b g d, d, xd, rfl, .inl (sqL (s12 _ _ hd)), _, _, rfl, rfl, _, rfl, _, rfl, _, _, _, _, rfl, RgC.neg (by omega) (by omega) (by decide) (by decide), ?_⟩
    have en : ((xd.length : Int) - 1 - -1).toNat = bs.length := by omega
    rw [en]
    refine for_rangeC (lo := (xd.length : Int) - 1) (c := -1) (n := bs.length) (fun i σ H' => ∃ (u l : V) (y3 : Option V), σ = [some (.ref a), some u, some l, y3] ∧ Same H H' ∧ PoA K H' u (BD.rans (ls.drop (bs.length - i)) (bs.drop (bs.length - i))).1 ∧ PoA K H' l (BD.rans (ls.drop (bs.length - i)) (bs.drop (bs.length - i))).2)
      ⟨_, _, none, rfl, s12, hu0, hw0⟩ (fun i σ H' hi hPv => ?_) (fun σ H' hPv => ?_)
    · obtain ⟨u, l, y3, rfl, sm, hu, hl⟩ := hPv
      have hk : bs.length - 1 - i < bs.length := by omega
      have ek : bs.length - 1 - i + 1 = bs.length - i := by omega
      have dl := drop_cons (l := ls) (i := bs.length - 1 - i) (by omega)
      have db := drop_cons (l := bs) hk
      rw [ek] at dl db
      have tne : ls.drop (bs.length - i) ≠ [] := fun z => by
        have := congrArg List.length z
        rw [List.length_drop] at this
        have : ls.length - (bs.length - i) = 0 := this
        omega
      have st := rans_step (l := BD.cf ls (bs.length - 1 - i)) (b := BD.cf bs (bs.length - 1 - i)) (bs := bs.drop (bs.length - i)) tne
      rw [← dl, ← db] at st
      rw [show bs.length - (i + 1) = bs.length - 1 - i by omega]
      have z1 := gd.tail (bs.length - i)
      have z2 := gd.tail (bs.length - 1 - i)
      have len1 := BD.rans_len (bs.drop (bs.length - i)) (ls.drop (bs.length - i)) (by rw [List.length_drop, List.length_drop]; omega)
      have len2 := BD.rans_len (bs.drop (bs.length - 1 - i)) (ls.drop (bs.length - 1 - i)) (by rw [List.length_drop, List.length_drop]; omega)
      rw [List.length_drop] at len1 len2
      generalize BD.rans (ls.drop (bs.length - i)) (bs.drop (bs.length - i)) = Y at hu hl st z1 len1
      generalize BD.rans (ls.drop (bs.length - 1 - i)) (bs.drop (bs.length - 1 - i)) = Z at st z2 len2 ⊢
      have st1 : Z.2 = BD.radd Y.2 (BD.rscale (-BD.cf bs (bs.length - 1 - i)) (0 :: Y.1)) := congrArg Prod.snd st
      have st2 : Z.1 = BD.radd (BD.rscale (BD.cf ls (bs.length - 1 - i)) Z.2) Y.1 := by
        rw [st1]; exact congrArg Prod.fst st
      obtain ⟨zY1, zY2⟩ : SzP 17800 Y.1 ∧ SzP 17800 Y.2 := by
        rcases z1 with q | q
        · exact q
        · omega
      obtain ⟨zZ1, zZ2⟩ : SzP 17800 Z.1 ∧ SzP 17800 Z.2 := by
        rcases z2 with q | q
        · exact q
        · omega
      have szb : Sz 200 (BD.cf bs (bs.length - 1 - i)) := gd.bs _ (mem_cf hk)
      have szl : Sz 1005 (BD.cf ls (bs.length - 1 - i)) := (gd.ls _ (mem_cf (by omega))).mono (by omega)
      have szr : SzP 17800 (0 :: Y.1) := fun j => by
        rw [BD.cf_0]
        exact zY1.sh (by decide) j
      have L : ∀ n, n ≤ 100000 → n ≤ LIM := fun n hn => Nat.le_trans hn (by decide)
      obtain ⟨vb, ivb, hvb⟩ := pd.get hk
      obtain ⟨vg, ivg, hvg⟩ := pg.get (show bs.length - 1 - i < ls.length by omega)
      have ix : (xd.length : Int) - 1 + (i : Nat) * -1 = ((bs.length - 1 - i : Nat) : Int) := by omega
      -- lower = added(lower, scaled(raised(upper, 1), opposite(self.beads[i])))
      refine ⟨_, rfl, _, rfl, ?_⟩
      refine ⟨u, Y.1, 1, rfl, hu, by decide, by omega, NewP.poA fun H3 d3 s3 h3 => ?_⟩
      refine ⟨_, rfl, a, C, dx, _, _, rfl, s3 _ _ (sm _ _ ho), T.cl, T.nB, sF_beads b g d, _, rfl, d, xd, _, vb, rfl, rfl, sqL (s3 _ _ (sm _ _ hd)), by rw [ix]; exact atI_nat ivb, ?_⟩
      refine ⟨vb, _, rfl, (hvb.same sm).same s3, fun t4 n4 => ?_⟩
      have s4 := same_upd (o := .tup (fr (-BD.cf bs (bs.length - 1 - i)))) n4
      refine ⟨.ref d3, .ref t4, 0 :: Y.1, _, rfl, h3.same s4, rtA_new, fun j => (szr j).bg (L _ (by decide)), szb.neg.bg (L _ (by decide)), by rw [List.length_cons]; omega, NewP.poA fun H5 d5 s5 h5 => ?_⟩
      have s345 := (s3.trans s4).trans s5
      refine ⟨l, .ref d5, Y.2, _, rfl, hl.same s345, h5, fun j => (zY2 j).bg (L _ (by decide)), fun j => (SzP.scale szb.neg szr j).bg (L _ (by decide)), by omega, by rw [BD.rscale_len, List.length_cons]; omega, NewP.poA fun H6 d6 s6 h6 => ?_⟩
      rw [← st1] at h6
      have s36 := s345.trans s6
      -- upper = added(scaled(lower, self.gaps[i]), upper)
      refine ⟨_, rfl, _, rfl, a, C, dx, _, _, rfl, s36 _ _ (sm _ _ ho), T.cl, T.nG, sF_gaps b g d, _, rfl, g, xg, _, vg, rfl, rfl, sqL (s36 _ _ (sm _ _ hg)), by rw [ix]; exact atI_nat ivg, ?_⟩
      refine ⟨.ref d6, vg, Z.2, _, rfl, h6, (hvg.same sm).same s36, fun j => (zZ2 j).bg (L _ (by decide)), szl.bg (L _ (by decide)), by omega, NewP.poA fun H7 d7 s7 h7 => ?_⟩
      have s37 := s36.trans s7
      refine ⟨_, rfl, .ref d7, u, _, Y.1, rfl, h7, hu.same s37, fun j => (SzP.scale szl zZ2 j).bg (L _ (by decide)), fun j => (zY1 j).bg (L _ (by decide)), by rw [BD.rscale_len]; omega, by omega, NewP.poA fun H8 d8 s8 h8 => ?_⟩
      rw [← st2] at h8
      exact ⟨.ref d8, .ref d6, _, rfl, (sm.trans s37).trans s8, h8, (h6.same s7).same s8⟩
    · obtain ⟨u, l, y3, rfl, sm, hu, hl⟩ := hPv
      rw [Nat.sub_self, List.drop_zero, List.drop_zero] at hu hl
      refine ⟨_, rfl, _, rfl, by show 2 ≤ sizeLine; decide, fun t nt => ?_⟩
      have st := same_upd (o := .tup [u, l]) nt
      exact k _ t u l (sm.trans st) (.inl (.inl upd_same)) (hu.same st) (hl.same st)
end
end BP
set_option Elab.async false
set_option linter.all false
set_option maxRecDepth 100000
set_option maxHeartbeats 2000000
namespace BP
open PySem PySem.Spec PyProof.Rows L2
abbrev mParts : Stmt := inClass sStrand 4
abbrev mAt : Stmt := inClass sStrand 7
abbrev mRings : Stmt := inClass sStrand 8
abbrev mAll : Stmt := inClass sStrand 9
theorem scParts : FnScope ["self"] ["self"] (defScope mParts) := ⟨rfl, rfl, rfl, by decide +kernel, rfl, by decide +kernel, by decide +kernel⟩
theorem scAt : FnScope ["self", "above", "below", "place", "both", "lower_value"] ["self", "above", "below"] (defScope mAt) := ⟨rfl, rfl, rfl, by decide +kernel, rfl, by decide +kernel, by decide +kernel⟩
theorem scRings : FnScope ["self", "left_above", "left_below", "right_above", "right_below", "left", "right", "both"] ["self", "left_above", "left_below", "right_above", "right_below"] (defScope mRings) := ⟨rfl, rfl, rfl, by decide +kernel, rfl, by decide +kernel, by decide +kernel⟩
theorem scAll : FnScope ["self", "both", "above_zero"] ["self"] (defScope mAll) := ⟨rfl, rfl, rfl, by decide +kernel, rfl, by decide +kernel, by decide +kernel⟩
/-- a method that may be called -/
structure CalM (P : Program) (w : World) (K : PySem.W.Frag) (mg : Str → Option Value) (base : Heap) (C : Addr) (k : Nat) (m : Str) (ps : List Str) (sp : Sp) : Prop where
  ex : ∃ (f : Addr) (fd : FuncData), FnOk P w K mg base CX0 k f fd ps sp ∧ Meth K C m f ∧ Binds K fd ps []
section
variable {X : Cx} {C : Addr} {k : Nat} {m : Str} {ps : List Str} {sp : Sp} {pos apos : Pos} {ob e : Expr} {es : List Expr} {ta : TE} {t : TA}
theorem pe_calM0 {pl : Sem Bool} (c : CalM X.prog X.w X.K X.mg X.base C k m ps sp) (he : PE X ob ta) (cl : Cls X.K C) (hr : Room k X.A)
    (ht : eval (.Call (.Attribute ob m apos) [] [] pos) X.env = (do let ov ← eval ob X.env; standAt apos.atName; let (f, first) ← holding [ov] (getMethod ov m pl); callWith pos f first (backTo pos (starEach [] X.env)) (backToKw pos (keywordEach [] X.env))) := by rfl) :
    PE X (.Call (.Attribute ob m apos) [] [] pos) (tMeth C m sp [] E0 ta tNil) := by
  obtain ⟨f, fd, F, hm, b⟩ := c.ex
  exact pe_meth0 (pl := pl) he cl hm F hr b .nil pass0 ht
end
theorem place_sz {a b : Int} (h : okPl a b) : Sz 10 ((a : Rat) / (b : Rat)) := by
  have l := low_le (x := a) (y := b) (by have := h.2.1; omega)
  have h1 := h.1
  have h2 := h.2
  exact ⟨Nat.lt_of_le_of_lt l.1 (by show _ < 1024; omega), Nat.lt_of_le_of_lt l.2 (by show _ < 1024; omega)⟩
theorem Good.szU {ls bs : List Rat} (g : Good ls bs) : SzP 17800 (BD.rans ls bs).1 ∧ SzP 17800 (BD.rans ls bs).2 ∧ (BD.rans ls bs).1.length ≤ 5 ∧ (BD.rans ls bs).2.length ≤ 5 := by
  have l := BD.rans_len bs ls g.len
  have m := g.most
  rcases g.tail 0 with q | q
  · rw [List.drop_zero, List.drop_zero] at q
    exact ⟨q.1, q.2, by omega, by omega⟩
  · omega
theorem Good.vok {ls bs : List Rat} (g : Good ls bs) {x : Rat} (hx : Sz 10 x) : VOk x (BD.rans ls bs).1 ∧ VOk x (BD.rans ls bs).2 :=
  ⟨vok_of hx g.szU.1 g.szU.2.2.1 (by decide), vok_of hx g.szU.2.1 g.szU.2.2.2 (by decide)⟩
section
variable {P : Program} {w : World} {K : PySem.W.Frag} {mg : Str → Option Value} {base : Heap} {z o C : Addr}
/-- a string is there -/
structure Has (K : PySem.W.Frag) (C : Addr) (H : Hp) (a : Addr) (ls bs : List Rat) : Prop where
  at_ : ∃ g d, StA K C H a g d true ls bs
  good : Good ls bs
theorem Has.same {H H' : Hp} {a : Addr} {ls bs : List Rat} (h : Has K C H a ls bs) (e : Same H H') : Has K C H' a ls bs := by
  obtain ⟨⟨g, d, q⟩, gd⟩ := h
  exact ⟨⟨g, d, q.same e⟩, gd⟩
/-- a method that only answers -/
def spAns (K : PySem.W.Frag) (C : Addr) (ns : List Rat → List Rat → List Int) : Sp := fun vs H Q _ => ∃ (a : Addr) (ls bs : List Rat), vs = [.ref a] ∧ Has K C H a ls bs ∧ NewL H (ns ls bs) Q
theorem sF_none (b : Bool) (g d : Addr) {m : Str} (h1 : (m == ("begun" : Str)) = false) (h2 : (m == ("gaps" : Str)) = false) (h3 : (m == ("beads" : Str)) = false) : (sF b g d).lookup m = none :=
  (lk_past h1).trans ((lk_past h2).trans ((lk_past h3).trans rfl))
theorem cat_len {a b : List Int} (h : a.length + b.length ≤ 1000) : (a.map V.int).length + (b.map V.int).length ≤ sizeLine := by
  rw [List.length_map, List.length_map]
  exact Nat.le_trans h (by decide)
theorem map_cat (a b : List Int) : a.map V.int ++ b.map V.int = (a ++ b).map V.int := (List.map_append ..).symm
theorem ok_parts {f : Addr} {fd : FuncData} {k0 : Nat} (F : Fun K "all_parts" "Strand.all_parts" mParts f fd) (T : Txt K C) (CT : Cal P w K mg base 2 "told_parts" ["gaps", "beads"] (spToldParts K)) :
    FnOk P w K mg base CX0 (k0 + 3) f fd ["self"] (spAns K C fun ls bs => (bs.length : Int) :: BD.nums (ls ++ bs)) := by
  refine F.ok scParts (fun vs H Q E h => ?_) (fun cdv A outer s H vs Q E hr h => ?_)
  · obtain ⟨a, ls, bs, rfl, _⟩ := h; rfl
  · obtain ⟨a, ls, bs, rfl, ⟨⟨g, d, hS⟩, gd⟩, k⟩ := h
    obtain ⟨⟨dx, ho⟩, ⟨xg, hg, pg⟩, ⟨xd, hd, pd⟩, ne⟩ := hS
    have l1 := gd.len
    have l4 := gd.most
    refine ⟨_, pss_one (ps_ret (pe_cal CT (hr.mono (by omega)) (pa_cons (pe_fld (pv 0) rfl) (pa_cons (pe_fld (pv 0) rfl) pa_nil)))), ?_⟩
    refine ⟨_, rfl, a, C, dx, _, _, rfl, ho, T.cl, T.nG, sF_gaps true g d, _, rfl, a, C, dx, _, _, rfl, ho, T.cl, T.nB, sF_beads true g d, .ref g, .ref d, ls, bs, rfl, ⟨g, xg, rfl, hg, pg⟩, ⟨d, xd, rfl, hd, pd⟩, by omega, by omega, k⟩
theorem ok_answer {f : Addr} {fd : FuncData} (F : Fun K "answer" "Strand.answer" mAnswer f fd) (T : Txt K C) (c : Con K mg z o) (CP : CalM P w K mg base C 43 "polynomials" ["self"] (spPoly K C)) (CT : Cal P w K mg base 1 "told_fractions" ["fractions"] (spTold K)) :
    FnOk P w K mg base CX0 44 f fd ["self"] (spAns K C fun ls bs => (bs.length : Int) :: BD.nums ((BD.rans ls bs).1 ++ (BD.rans ls bs).2)) := by
  refine F.ok scAnswer (fun vs H Q E h => ?_) (fun cdv A outer s H vs Q E hr h => ?_)
  · obtain ⟨a, ls, bs, rfl, _⟩ := h; rfl
  · obtain ⟨a, ls, bs, rfl, ⟨⟨g, d, hS⟩, gd⟩, k⟩ := h
    have hS0 := hS
    obtain ⟨⟨dx, ho⟩, ⟨xg, hg, pg⟩, ⟨xd, hd, pd⟩, ne⟩ := hS
    have l4 := gd.szU
    refine ⟨_, pss_cons (ps_set (i := 1) scAnswer.nd rfl (.inl rfl) (pe_calM0 CP (pv 0) T.cl hr))
      (pss_one (ps_ret (pe_op op_cat (pe_op op_cat (pe_lst (pa_cons (pe_callB call_len_seq (by rfl) c.len PySem.boot_len (pa_cons (pe_fld (pv 0) rfl) pa_nil)) pa_nil)) (pe_cal CT (hr.mono (by decide)) (pa_cons (pe_ix ix_tup (pv 1) pe_int (fun _ _ => rfl)) pa_nil))) (pe_cal CT (hr.mono (by decide)) (pa_cons (pe_ix ix_tup (pv 1) pe_int (fun _ _ => rfl)) pa_nil))))), ?_⟩
    refine ⟨_, rfl, a, dx, _, rfl, ho, sF_none true g d (by decide +kernel) (by decide +kernel) (by decide +kernel), a, g, d, true, ls, bs, rfl, hS0, gd, fun H1 t u l s1 ht hu hl => ?_⟩
    refine ⟨_, rfl, a, C, dx, _, _, rfl, s1 _ _ ho, T.cl, T.nB, sF_beads true g d, d, xd, rfl, .inl (sqL (s1 _ _ hd)), by show 1 ≤ sizeLine; decide, fun p2 n2 => ?_⟩
    have s2 := same_upd (o := .lst [V.int (xd.length : Int)]) n2
    refine ⟨_, rfl, t, _, _, _, rfl, rfl, seqT s2 ht, rfl, u, _, rfl, hu.same s2, by omega, fun H3 d3 s3 n3 h3 => ?_⟩
    refine ⟨p2, d3, _, _, rfl, rfl, s3 _ _ upd_same, h3, by rw [List.length_map, nums_len]; show 1 + _ ≤ sizeLine; exact Nat.le_trans (show _ ≤ 1000 by omega) (by decide), fun p4 n4 => ?_⟩
    have s4 := same_upd (o := .lst ([V.int (xd.length : Int)] ++ (BD.nums (BD.rans ls bs).1).map V.int)) n4
    have s24 := (s2.trans s3).trans s4
    refine ⟨_, rfl, t, _, _, _, rfl, rfl, seqT s24 ht, rfl, l, _, rfl, hl.same s24, by omega, fun H5 d5 s5 n5 h5 => ?_⟩
    refine ⟨p4, d5, _, _, rfl, rfl, s5 _ _ upd_same, h5, by rw [List.length_append, List.length_map, List.length_map, nums_len, nums_len]; show 1 + _ + _ ≤ sizeLine; exact Nat.le_trans (show _ ≤ 1000 by omega) (by decide), fun p6 n6 => ?_⟩
    have s6 := same_upd (o := .lst ([V.int (xd.length : Int)] ++ (BD.nums (BD.rans ls bs).1).map V.int ++ (BD.nums (BD.rans ls bs).2).map V.int)) n6
    have s16 := ((s1.trans s24).trans s5).trans s6
    refine k _ p6 s16 (((s1.trans s24).trans s5).free n6) ?_
    show _ = some (HO.lst (((bs.length : Int) :: BD.nums ((BD.rans ls bs).1 ++ (BD.rans ls bs).2)).map V.int))
    rw [upd_same, pd.len, BD.nums_app, List.map_cons, List.map_append]; rfl
def spAt (K : PySem.W.Frag) (C : Addr) : Sp := fun vs H Q _ => ∃ (a : Addr) (ls bs : List Rat) (x y : Int), vs = [.ref a, .int x, .int y] ∧ Has K C H a ls bs ∧
  (¬ okPl x y → NewL H [-22] Q) ∧ (okPl x y → NewL H (if BD.ev ((x : Rat) / (y : Rat)) (BD.rans ls bs).2 = 0 then [0] else 1 :: BD.nums [BD.ev ((x : Rat) / (y : Rat)) (BD.rans ls bs).1 / BD.ev ((x : Rat) / (y : Rat)) (BD.rans ls bs).2]) Q)
theorem NewL.mono {H H1 : Hp} {ns : List Int} {Q : VK} (h : NewL H ns Q) (s : Same H H1) : NewL H1 ns Q := fun H' d sm hd h' => h H' d (s.trans sm) (s.free hd) h'
theorem ok_at {f : Addr} {fd : FuncData} (F : Fun K "answer_at" "Strand.answer_at" mAt f fd) (T : Txt K C) (c : Con K mg z o) (N : Nms mg) (C1 : Cal P w K mg base 2 "is_place" ["above", "below"] spIsPlace) (C2 : Cal P w K mg base 40 "lowest" ["above", "below"] spLowest)
    (CP : CalM P w K mg base C 43 "polynomials" ["self"] (spPoly K C)) (CV : Cal P w K mg base 42 "value_at" ["polynomial", "place"] (spValueAt K)) (CD : Cal P w K mg base 41 "divided" ["one", "other"] (spDivided K)) (CT : Cal P w K mg base 1 "told_fractions" ["fractions"] (spTold K)) :
    FnOk P w K mg base CX0 44 f fd ["self", "above", "below"] (spAt K C) := by
  refine F.ok scAt (fun vs H Q E h => ?_) (fun cdv A outer s H vs Q E hr h => ?_)
  · obtain ⟨a, ls, bs, x, y, rfl, _⟩ := h; rfl
  · obtain ⟨a, ls, bs, x, y, rfl, hH, k1, k2⟩ := h
    obtain ⟨⟨g, d, hS⟩, gd⟩ := hH
    have hS0 := hS
    obtain ⟨⟨dx, ho⟩, _, _, ne⟩ := hS
    refine ⟨_, pss_cons (ps_if (pt_not (pt_val (pe_cal C1 (hr.mono (by decide)) (pa_cons (pv 1) (pa_cons (pv 2) pa_nil))))) (pss_one (ps_ret (pe_lst (pa_cons (pe_num N.nlet) pa_nil)))) pss_nil)
      (pss_cons (ps_set (i := 3) scAt.nd rfl (.inl rfl) (pe_cal C2 (hr.mono (by decide)) (pa_cons (pv 1) (pa_cons (pv 2) pa_nil))))
      (pss_cons (ps_set (i := 4) scAt.nd rfl (.inl rfl) (pe_calM0 CP (pv 0) T.cl hr))
      (pss_cons (ps_set (i := 5) scAt.nd rfl (.inl rfl) (pe_cal CV (hr.mono (by decide)) (pa_cons (pe_ix ix_tup (pv 4) pe_int (fun _ _ => rfl)) (pa_cons (pv 3) pa_nil))))
      (pss_cons (ps_if (pt_cmpR (op_eqD hr.units) (pv 5) (pe_glob (v := .ref z) (by rfl) c.mz rfl) (nomark _)) (pss_one (ps_ret (pe_lst (pa_cons pe_int pa_nil)))) pss_nil)
      (pss_one (ps_ret (pe_op op_cat (pe_lst (pa_cons pe_int pa_nil)) (pe_cal CT (hr.mono (by decide)) (pa_cons (pe_lst (pa_cons (pe_cal CD (hr.mono (by decide)) (pa_cons (pe_cal CV (hr.mono (by decide)) (pa_cons (pe_ix ix_tup (pv 4) pe_int (fun _ _ => rfl)) (pa_cons (pv 3) pa_nil))) (pa_cons (pv 5) pa_nil))) pa_nil)) pa_nil))))))))), ?_⟩
    refine ⟨_, rfl, _, rfl, x, y, rfl, _, rfl, ?_⟩
    by_cases hp : okPl x y
    · rw [decide_eq_true hp]
      refine iteF ?_
      have k3 := k2 hp
      have sx := place_sz hp
      obtain ⟨vu, vl⟩ := gd.vok sx
      have zu := gd.szU
      refine ⟨_, rfl, _, rfl, x, y, rfl, by have := hp.2.1; omega, fun t1 n1 => ?_⟩
      generalize (x : Rat) / (y : Rat) = r at sx vu vl k3 ⊢
      have s1 := same_upd (o := .tup (fr r)) n1
      have hr1 : RtA K (upd H t1 (.tup (fr r))) (.ref t1) r := rtA_new
      refine ⟨_, rfl, a, dx, _, rfl, s1 _ _ ho, sF_none true g d (by decide +kernel) (by decide +kernel) (by decide +kernel), a, g, d, true, ls, bs, rfl, hS0.same s1, gd, fun H2 t u l s2 ht hu hl => ?_⟩
      refine ⟨_, rfl, t, _, _, _, rfl, rfl, ht, rfl, _, rfl, l, .ref t1, _, r, rfl, hl, hr1.same s2, vl.1, vl.2.1, sx.bg (by decide), vl.2.2, fun H3 u3 s3 h3 => ?_⟩
      have s13 := (s1.trans s2).trans s3
      obtain ⟨a3, e3, t3⟩ := id h3
      subst e3
      refine ⟨_, rfl, .tuple [.int (BD.ev r (BD.rans ls bs).2).num, .int (((BD.ev r (BD.rans ls bs).2).den : Nat) : Int)], .tuple [.int 0, .int 1], .tup t3 (.cons (.int _) (.cons (.int _) .nil)), .tup (c.sz _) (.cons (.int _) (.cons (.int _) .nil)), rfl, rfl, _, rfl, ?_⟩
      rw [eq_zero]
      have e0 := vl.2.2 0
      have e1 := vu.2.2 0
      rw [List.drop_zero] at e0 e1
      by_cases cz : BD.ev r (BD.rans ls bs).2 = 0
      · rw [decide_eq_true cz]
        refine iteT ?_
        rw [if_pos cz] at k3
        exact ⟨by show 1 ≤ sizeLine; decide, fun p hp => newL_one (k3.mono s13) p hp⟩
      · rw [decide_eq_false cz]
        refine iteF ?_
        rw [if_neg cz] at k3
        refine ⟨by show 1 ≤ sizeLine; decide, fun p4 n4 => ?_⟩
        have s4 := same_upd (o := .lst [V.int 1]) n4
        refine ⟨_, rfl, t, _, _, _, rfl, rfl, seqT (s3.trans s4) ht, rfl, _, rfl, u, .ref t1, _, r, rfl, hu.same (s3.trans s4), hr1.same ((s2.trans s3).trans s4), vu.1, vu.2.1, sx.bg (by decide), vu.2.2, fun H5 u5 s5 h5 => ?_⟩
        refine ⟨_, rfl, u5, .ref a3, _, _, rfl, h5, h3.same (s4.trans s5), e1.1, e0.1, cz, fun t6 n6 => ?_⟩
        have s6 := same_upd (o := .tup (fr (BD.ev r (BD.rans ls bs).1 / BD.ev r (BD.rans ls bs).2))) n6
        refine ⟨by show 1 ≤ sizeLine; decide, fun p7 n7 => ?_⟩
        have s7 := same_upd (o := .lst [V.ref t6]) n7
        refine ⟨.ref p7, [BD.ev r (BD.rans ls bs).1 / BD.ev r (BD.rans ls bs).2], rfl, ⟨p7, [.ref t6], rfl, upd_same, .cons (rtA_new.same s7) .nil⟩, by show 1 ≤ 1000; decide, fun H8 d8 s8 n8 h8 => ?_⟩
        have s48 := (((s4.trans s5).trans s6).trans s7).trans s8
        refine ⟨p4, d8, _, _, rfl, rfl, (((s5.trans s6).trans s7).trans s8) _ _ upd_same, h8, by show 1 + 2 ≤ sizeLine; decide, fun p9 n9 => ?_⟩
        have s9 := same_upd (o := .lst ([V.int 1] ++ (BD.nums [BD.ev r (BD.rans ls bs).1 / BD.ev r (BD.rans ls bs).2]).map V.int)) n9
        exact k3 _ p9 ((s13.trans s48).trans s9) ((s13.trans s48).free n9) upd_same
    · rw [decide_eq_false hp]
      refine iteT ?_
      exact ⟨by show 1 ≤ sizeLine; decide, fun p hp' => newL_one (k1 hp) p hp'⟩
def spRings (K : PySem.W.Frag) (C : Addr) : Sp := fun vs H Q _ => ∃ (a : Addr) (ls bs : List Rat) (x y u v : Int), vs = [.ref a, .int x, .int y, .int u, .int v] ∧ Has K C H a ls bs ∧
  (¬ (okPl x y ∧ okPl u v ∧ x * v < u * y) → NewL H [-22] Q) ∧ (okPl x y → okPl u v → x * v < u * y → NewL H [(Sr71.between (BD.fl (BD.rans ls bs).2) (BD.ofR ((x : Rat) / (y : Rat))) (BD.ofR ((u : Rat) / (v : Rat))) : Int), (Sr71.between (BD.fl (BD.rans ls bs).1) (BD.ofR ((x : Rat) / (y : Rat))) (BD.ofR ((u : Rat) / (v : Rat))) : Int)] Q)
theorem ok_rings {f : Addr} {fd : FuncData} (F : Fun K "rings" "Strand.rings" mRings f fd) (T : Txt K C) (c : Con K mg z o) (N : Nms mg) (C1 : Cal P w K mg base 2 "is_place" ["above", "below"] spIsPlace) (C2 : Cal P w K mg base 40 "lowest" ["above", "below"] spLowest)
    (CL : Cal P w K mg base 1 "is_less" ["one", "other"] (spIsLess K)) (CP : CalM P w K mg base C 43 "polynomials" ["self"] (spPoly K C)) (CB : Cal P w K mg base 45 "zeros_between" ["polynomial", "left", "right"] (spBetween K)) :
    FnOk P w K mg base CX0 46 f fd ["self", "left_above", "left_below", "right_above", "right_below"] (spRings K C) := by
  refine F.ok scRings (fun vs H Q E h => ?_) (fun cdv A outer s H vs Q E hr h => ?_)
  · obtain ⟨a, ls, bs, x, y, u, v, rfl, _⟩ := h; rfl
  · obtain ⟨a, ls, bs, x, y, u, v, rfl, hH, k1, k2⟩ := h
    obtain ⟨⟨g, d, hS⟩, gd⟩ := hH
    have hS0 := hS
    obtain ⟨⟨dx, ho⟩, _, _, ne⟩ := hS
    refine ⟨_, pss_cons (ps_if (pt_not (PW.pt (pw_and (pt_val (pe_cal C1 (hr.mono (by decide)) (pa_cons (pv 1) (pa_cons (pv 2) pa_nil)))) (pw_and1 (pt_val (pe_cal C1 (hr.mono (by decide)) (pa_cons (pv 3) (pa_cons (pv 4) pa_nil)))))))) (pss_one (ps_ret (pe_lst (pa_cons (pe_num N.nlet) pa_nil)))) pss_nil)
      (pss_cons (ps_set (i := 5) scRings.nd rfl (.inl rfl) (pe_cal C2 (hr.mono (by decide)) (pa_cons (pv 1) (pa_cons (pv 2) pa_nil))))
      (pss_cons (ps_set (i := 6) scRings.nd rfl (.inl rfl) (pe_cal C2 (hr.mono (by decide)) (pa_cons (pv 3) (pa_cons (pv 4) pa_nil))))
      (pss_cons (ps_if (pt_not (pt_val (pe_cal CL (hr.mono (by decide)) (pa_cons (pv 5) (pa_cons (pv 6) pa_nil))))) (pss_one (ps_ret (pe_lst (pa_cons (pe_num N.nlet) pa_nil)))) pss_nil)
      (pss_cons (ps_set (i := 7) scRings.nd rfl (.inl rfl) (pe_calM0 CP (pv 0) T.cl (hr.mono (by decide))))
      (pss_one (ps_ret (pe_lst (pa_cons (pe_cal CB hr (pa_cons (pe_ix ix_tup (pv 7) pe_int (fun _ _ => rfl)) (pa_cons (pv 5) (pa_cons (pv 6) pa_nil)))) (pa_cons (pe_cal CB hr (pa_cons (pe_ix ix_tup (pv 7) pe_int (fun _ _ => rfl)) (pa_cons (pv 5) (pa_cons (pv 6) pa_nil)))) pa_nil))))))))), ?_⟩
    refine ⟨_, rfl, _, rfl, x, y, rfl, _, rfl, ?_⟩
    by_cases h1 : okPl x y
    · rw [decide_eq_true h1]
      refine iteT ?_
      refine ⟨_, rfl, _, rfl, u, v, rfl, _, rfl, ?_⟩
      by_cases h2 : okPl u v
      · rw [decide_eq_true h2]
        refine iteF ?_
        have sx := place_sz h1
        have sy := place_sz h2
        refine ⟨_, rfl, _, rfl, x, y, rfl, by have := h1.2.1; omega, fun t1 n1 => ?_⟩
        have s1 := same_upd (o := .tup (fr ((x : Rat) / (y : Rat)))) n1
        have hr1 : RtA K (upd H t1 (.tup (fr ((x : Rat) / (y : Rat))))) (.ref t1) ((x : Rat) / (y : Rat)) := rtA_new
        refine ⟨_, rfl, _, rfl, u, v, rfl, by have := h2.2.1; omega, fun t2 n2 => ?_⟩
        have s2 := same_upd (o := .tup (fr ((u : Rat) / (v : Rat)))) n2
        have hr2 : RtA K (upd (upd H t1 (.tup (fr ((x : Rat) / (y : Rat))))) t2 (.tup (fr ((u : Rat) / (v : Rat))))) (.ref t2) ((u : Rat) / (v : Rat)) := rtA_new
        refine ⟨_, rfl, _, rfl, .ref t1, .ref t2, _, _, rfl, hr1.same s2, hr2, sx.bg (by decide), sy.bg (by decide), _, rfl, ?_⟩
        have iff := BD.less_R (a := x) (b := y) (c := u) (d := v) h1.2.1 h2.2.1
        by_cases h3 : x * v < u * y
        · rw [decide_eq_true (iff.mpr h3)]
          refine iteF ?_
          have k3 := k2 h1 h2 h3
          have s12 := s1.trans s2
          refine ⟨_, rfl, a, dx, _, rfl, s12 _ _ ho, sF_none true g d (by decide +kernel) (by decide +kernel) (by decide +kernel), a, g, d, true, ls, bs, rfl, hS0.same s12, gd, fun H3 t pu pl s3 ht hu hl => ?_⟩
          refine ⟨_, rfl, t, _, _, _, rfl, rfl, ht, rfl, _, rfl, _, rfl, pl, .ref t1, .ref t2, _, _, _, rfl, gd.lo hl, (hr1.same s2).same s3, hr2.same s3, sx, sy, iff.mpr h3, fun H4 s4 => ?_⟩
          refine ⟨_, rfl, t, _, _, _, rfl, rfl, seqT s4 ht, rfl, _, rfl, _, rfl, pu, .ref t1, .ref t2, _, _, _, rfl, gd.up (hu.same s4), ((hr1.same s2).same s3).same s4, (hr2.same s3).same s4, sx, sy, iff.mpr h3, fun H5 s5 => ?_⟩
          refine ⟨by show 2 ≤ sizeLine; decide, fun p np => ?_⟩
          have sp' := same_upd (o := .lst [V.int ((Sr71.between (BD.fl (BD.rans ls bs).2) (BD.ofR ((x : Rat) / (y : Rat))) (BD.ofR ((u : Rat) / (v : Rat))) : Nat) : Int), V.int ((Sr71.between (BD.fl (BD.rans ls bs).1) (BD.ofR ((x : Rat) / (y : Rat))) (BD.ofR ((u : Rat) / (v : Rat))) : Nat) : Int)]) np
          have st := ((s12.trans s3).trans s4).trans s5
          exact k3 _ p (st.trans sp') (st.free np) upd_same
        · rw [decide_eq_false (fun q => h3 (iff.mp q))]
          refine iteT ?_
          exact ⟨by show 1 ≤ sizeLine; decide, fun p hp => newL_one ((k1 fun q => h3 q.2.2).mono (s1.trans s2)) p hp⟩
      · rw [decide_eq_false h2]
        refine iteT ?_
        exact ⟨by show 1 ≤ sizeLine; decide, fun p hp => newL_one (k1 fun q => h2 q.2.1) p hp⟩
    · rw [decide_eq_false h1]
      refine iteF ?_
      refine iteT ?_
      exact ⟨by show 1 ≤ sizeLine; decide, fun p hp => newL_one (k1 fun q => h1 q.1) p hp⟩
theorem ok_all {f : Addr} {fd : FuncData} (F : Fun K "all_rings" "Strand.all_rings" mAll f fd) (T : Txt K C) (c : Con K mg z o) (CP : CalM P w K mg base C 43 "polynomials" ["self"] (spPoly K C)) (CA : Cal P w K mg base 45 "zeros_above" ["polynomial", "left"] (spAbove K)) (CE : Cal P w K mg base 45 "zeros_everywhere" ["polynomial"] (spEverywhere K)) :
    FnOk P w K mg base CX0 46 f fd ["self"] (spAns K C fun ls bs => [(Sr71.rootsAbove (BD.fl (BD.rans ls bs).2) : Int), (Sr71.rootsAbove (BD.fl (BD.rans ls bs).1) : Int), (Sr71.roots (BD.fl (BD.rans ls bs).2) : Int), (Sr71.roots (BD.fl (BD.rans ls bs).1) : Int)]) := by
  refine F.ok scAll (fun vs H Q E h => ?_) (fun cdv A outer s H vs Q E hr h => ?_)
  · obtain ⟨a, ls, bs, rfl, _⟩ := h; rfl
  · obtain ⟨a, ls, bs, rfl, ⟨⟨g, d, hS⟩, gd⟩, k⟩ := h
    have hS0 := hS
    obtain ⟨⟨dx, ho⟩, _, _, ne⟩ := hS
    refine ⟨_, pss_cons (ps_set (i := 1) scAll.nd rfl (.inl rfl) (pe_calM0 CP (pv 0) T.cl (hr.mono (by decide))))
      (pss_cons (ps_set (i := 2) scAll.nd rfl (.inl rfl) (pe_lst (pa_cons (pe_cal CA hr (pa_cons (pe_ix ix_tup (pv 1) pe_int (fun _ _ => rfl)) (pa_cons (pe_glob (v := .ref z) (by rfl) c.mz rfl) pa_nil))) (pa_cons (pe_cal CA hr (pa_cons (pe_ix ix_tup (pv 1) pe_int (fun _ _ => rfl)) (pa_cons (pe_glob (v := .ref z) (by rfl) c.mz rfl) pa_nil))) pa_nil))))
      (pss_one (ps_ret (pe_op op_cat (pv 2) (pe_lst (pa_cons (pe_cal CE hr (pa_cons (pe_ix ix_tup (pv 1) pe_int (fun _ _ => rfl)) pa_nil)) (pa_cons (pe_cal CE hr (pa_cons (pe_ix ix_tup (pv 1) pe_int (fun _ _ => rfl)) pa_nil)) pa_nil))))))), ?_⟩
    refine ⟨_, rfl, a, dx, _, rfl, ho, sF_none true g d (by decide +kernel) (by decide +kernel) (by decide +kernel), a, g, d, true, ls, bs, rfl, hS0, gd, fun H1 t u l s1 ht hu hl => ?_⟩
    refine ⟨_, rfl, t, _, _, _, rfl, rfl, ht, rfl, l, .ref z, _, rfl, gd.lo hl, c.zero _, fun H2 s2 => ?_⟩
    refine ⟨_, rfl, t, _, _, _, rfl, rfl, seqT s2 ht, rfl, u, .ref z, _, rfl, gd.up (hu.same s2), c.zero _, fun H3 s3 => ?_⟩
    refine ⟨by show 2 ≤ sizeLine; decide, fun p4 n4 => ?_⟩
    have s4 := same_upd (o := .lst [V.int ((Sr71.rootsAbove (BD.fl (BD.rans ls bs).2) : Nat) : Int), V.int ((Sr71.rootsAbove (BD.fl (BD.rans ls bs).1) : Nat) : Int)]) n4
    have s24 := (s2.trans s3).trans s4
    refine ⟨_, rfl, _, rfl, t, _, _, _, rfl, rfl, seqT s24 ht, rfl, l, _, rfl, gd.lo (hl.same s24), fun H5 s5 => ?_⟩
    refine ⟨_, rfl, t, _, _, _, rfl, rfl, seqT (s24.trans s5) ht, rfl, u, _, rfl, gd.up (hu.same (s24.trans s5)), fun H6 s6 => ?_⟩
    refine ⟨by show 2 ≤ sizeLine; decide, fun p7 n7 => ?_⟩
    have s7 := same_upd (o := .lst [V.int ((Sr71.roots (BD.fl (BD.rans ls bs).2) : Nat) : Int), V.int ((Sr71.roots (BD.fl (BD.rans ls bs).1) : Nat) : Int)]) n7
    have s57 := (s5.trans s6).trans s7
    refine ⟨p4, p7, _, _, rfl, rfl, s57 _ _ upd_same, upd_same, by show 2 + 2 ≤ sizeLine; decide, fun p8 n8 => ?_⟩
    have s8 := same_upd (o := .lst ([V.int ((Sr71.rootsAbove (BD.fl (BD.rans ls bs).2) : Nat) : Int), V.int ((Sr71.rootsAbove (BD.fl (BD.rans ls bs).1) : Nat) : Int)] ++ [V.int ((Sr71.roots (BD.fl (BD.rans ls bs).2) : Nat) : Int), V.int ((Sr71.roots (BD.fl (BD.rans ls bs).1) : Nat) : Int)])) n8
    have st := (s1.trans s24).trans s57
    exact k _ p8 (st.trans s8) (st.free n8) upd_same
end
end BP
set_option Elab.async false
set_option linter.all false
set_option maxRecDepth 100000
set_option maxHeartbeats 2000000
namespace BP
open PySem PySem.Spec PyProof.Rows L2
abbrev mInit : Stmt := inClass sStrand 0
abbrev mBegin : Stmt := inClass sStrand 1
abbrev mSetGap : Stmt := inClass sStrand 2
abbrev mSetBead : Stmt := inClass sStrand 3
theorem scInit : FnScope ["self"] ["self"] (defScope mInit) := ⟨rfl, rfl, rfl, by decide +kernel, rfl, by decide +kernel, by decide +kernel⟩
theorem scBegin : FnScope ["self", "n"] ["self", "n"] (defScope mBegin) := ⟨rfl, rfl, rfl, by decide +kernel, rfl, by decide +kernel, by decide +kernel⟩
theorem scSetGap : FnScope ["self", "i", "above", "below"] ["self", "i", "above", "below"] (defScope mSetGap) := ⟨rfl, rfl, rfl, by decide +kernel, rfl, by decide +kernel, by decide +kernel⟩
theorem scSetBead : FnScope ["self", "i", "above", "below"] ["self", "i", "above", "below"] (defScope mSetBead) := ⟨rfl, rfl, rfl, by decide +kernel, rfl, by decide +kernel, by decide +kernel⟩
theorem put_here {f : Str} {v x : V} {r : List (Str × V)} : putF f v ((f, x) :: r) = (f, v) :: r := if_pos rfl
theorem put_past {f g : Str} {v x : V} {r : List (Str × V)} (h : ¬ g = f) : putF f v ((g, x) :: r) = (g, x) :: putF f v r := if_neg h
theorem put_begun (b c : Bool) (g d : Addr) : putF "begun" (.bl c) (sF b g d) = sF c g d := put_here
theorem put_gaps (b : Bool) (g d e : Addr) : putF "gaps" (.ref e) (sF b g d) = sF b e d := (put_past (by decide +kernel)).trans (congrArg _ put_here)
theorem put_beads (b : Bool) (g d e : Addr) : putF "beads" (.ref e) (sF b g d) = sF b g e := (put_past (by decide +kernel)).trans (congrArg _ ((put_past (by decide +kernel)).trans (congrArg _ put_here)))
theorem put_new (g d : Addr) : putF "beads" (.ref d) (putF "gaps" (.ref g) (putF "begun" (.bl false) [])) = sF false g d := by
  have e1 : putF "begun" (.bl false) [] = [(("begun" : Str), V.bl false)] := rfl
  have e2 : putF "gaps" (.ref g) [(("begun" : Str), V.bl false)] = [(("begun" : Str), V.bl false), (("gaps" : Str), V.ref g)] := (put_past (by decide +kernel)).trans rfl
  rw [e1, e2]
  exact (put_past (by decide +kernel)).trans (congrArg _ ((put_past (by decide +kernel)).trans rfl))
/-- a fraction beside an object that changes -/
theorem RtA.besideI {K : PySem.W.Frag} {H : Hp} {v : V} {r : Rat} {a C dx : Addr} {fs : List (Str × V)} {o' : HO} (h : RtA K H v r) (ha : H a = some (.ins C dx fs)) : RtA K (upd H a o') v r := by
  obtain ⟨t, h1, h2⟩ := h
  refine ⟨t, h1, ?_⟩
  rcases h2 with (h | ⟨q, h⟩) | h
  · exact .inl (.inl (by rw [upd_ne (ne_of h ha (by intro y; cases y))]; exact h))
  · exact .inl (.inr ⟨q, by rw [upd_ne (ne_of h ha (by intro y; cases y))]; exact h⟩)
  · exact .inr h
theorem PlA.besideI {K : PySem.W.Frag} {H : Hp} {vs : List V} {p : List Rat} {a C dx : Addr} {fs : List (Str × V)} {o' : HO} (h : PlA K H vs p) (ha : H a = some (.ins C dx fs)) : PlA K (upd H a o') vs p := pairedMap (fun _ _ x => x.besideI ha) h
/-- behind a call: the string as it is then, the answer in a new list, all else as it was -/
def After (K : PySem.W.Frag) (C : Addr) (H : Hp) (a g d : Addr) (b : Bool) (ls bs : List Rat) (ns : List Int) (Q : VK) : Prop :=
  ∀ (H' : Hp) (g' d' p : Addr), StA K C H' a g' d' b ls bs → (∀ c x, H c = some x → c ≠ a → c ≠ g → c ≠ d → H' c = some x) → (g' = g ∨ H g' = none) → (d' = d ∨ H d' = none) → H p = none → H' p = some (.lst (ns.map V.int)) → Q (.ref p) H'
theorem After.newL {K : PySem.W.Frag} {C : Addr} {H : Hp} {a g d : Addr} {b : Bool} {ls bs : List Rat} {ns : List Int} {Q : VK} (h : After K C H a g d b ls bs ns Q) (hS : StA K C H a g d b ls bs) : NewL H ns Q :=
  fun H' p sm n e => h H' g d p (hS.same sm) (fun c x q _ _ _ => sm _ _ q) (.inl rfl) (.inl rfl) n e
section
variable {P : Program} {w : World} {K : PySem.W.Frag} {mg : Str → Option Value} {base : Heap} {z o C : Addr}
def spInit (K : PySem.W.Frag) (C : Addr) : Sp := fun vs H Q _ => ∃ (p dx : Addr), vs = [.ref p] ∧ H p = some (.ins C dx []) ∧
  ∀ (H' : Hp) (g d : Addr), StA K C H' p g d false [] [] → (∀ b q, H b = some q → b ≠ p → H' b = some q) → H g = none → H d = none → Q .non H'
theorem ok_init {f : Addr} {fd : FuncData} {k0 : Nat} (F : Fun K "__init__" "Strand.__init__" mInit f fd) (T : Txt K C) : FnOk P w K mg base CX0 (k0 + 1) f fd ["self"] (spInit K C) := by
  refine F.ok scInit (fun vs H Q E h => ?_) (fun cdv A outer s H vs Q E hr h => ?_)
  · obtain ⟨p, dx, rfl, _⟩ := h; rfl
  · obtain ⟨p, dx, rfl, hp, k⟩ := h
    refine ⟨_, pss_cons (ps_fld (pv 0) pe_bl rfl) (pss_cons (ps_fld (pv 0) (pe_lst pa_nil) rfl) (pss_one (ps_fld (pv 0) (pe_lst pa_nil) rfl))), ?_⟩
    refine ⟨_, rfl, p, C, dx, [], rfl, hp, T.cl, T.nU, by show 0 < 1000; decide, ?_⟩
    refine ⟨Nat.zero_le _, fun g ng => ?_⟩
    have pg : p ≠ g := fun e => by rw [← e, upd_same] at ng; cases ng
    refine ⟨_, rfl, p, C, dx, _, rfl, (by rw [upd_ne pg]; exact upd_same), T.cl, T.nG, by show 1 < 1000; decide, ?_⟩
    refine ⟨Nat.zero_le _, fun d nd => ?_⟩
    have pd : p ≠ d := fun e => by rw [← e, upd_same] at nd; cases nd
    refine ⟨_, rfl, p, C, dx, _, rfl, (by rw [upd_ne pd]; exact upd_same), T.cl, T.nB, by show 2 < 1000; decide, ?_⟩
    have hgf : H g = none := by rw [upd_ne pg.symm] at ng; exact ng
    have gd : d ≠ g := fun e => by
      rw [e, upd_ne pg.symm, upd_same] at nd
      cases nd
    have hdf : H d = none := by rw [upd_ne pd.symm, upd_ne gd, upd_ne pd.symm] at nd; exact nd
    refine k _ g d ⟨⟨dx, Eq.trans upd_same (congrArg (fun q => some (HO.ins C dx q)) (put_new g d))⟩, ⟨[], ?_, .nil⟩, ⟨[], ?_, .nil⟩, gd.symm⟩ (fun b q e ne => ?_) hgf hdf
    · rw [upd_ne pg.symm, upd_ne gd.symm, upd_ne pg.symm, upd_same]
    · rw [upd_ne pd.symm, upd_same]
    · rw [upd_ne ne, upd_ne (ne_of_none e hdf), upd_ne ne, upd_ne (ne_of_none e hgf), upd_ne ne]
      exact e
def spBegin (K : PySem.W.Frag) (C : Addr) : Sp := fun vs H Q _ => ∃ (a g d : Addr) (b : Bool) (ls bs : List Rat) (n : Int), vs = [.ref a, .int n] ∧ StA K C H a g d b ls bs ∧
  (¬ (0 ≤ n ∧ n ≤ 4) → After K C H a g d b ls bs [-22] Q) ∧ (0 ≤ n ∧ n ≤ 4 → After K C H a g d true (List.replicate (n.toNat + 1) 1) (List.replicate n.toNat 1) [n] Q)
theorem ok_begin {f : Addr} {fd : FuncData} {k0 : Nat} (F : Fun K "begin" "Strand.begin" mBegin f fd) (T : Txt K C) (c : Con K mg z o) (N : Nms mg) (C1 : Cal P w K mg base 1 "lies_within" ["number", "least", "most"] spLies) : FnOk P w K mg base CX0 (k0 + 2) f fd ["self", "n"] (spBegin K C) := by
  refine F.ok scBegin (fun vs H Q E h => ?_) (fun cdv A outer s H vs Q E hr h => ?_)
  · obtain ⟨a, g, d, b, ls, bs, n, rfl, _⟩ := h; rfl
  · obtain ⟨a, g, d, b, ls, bs, n, rfl, hS, k1, k2⟩ := h
    refine ⟨_, pss_cons (ps_if (pt_not (pt_val (pe_cal C1 (hr.mono (by omega)) (pa_cons (pv 1) (pa_cons pe_int (pa_cons (pe_num N.beads) pa_nil)))))) (pss_one (ps_ret (pe_lst (pa_cons (pe_num N.nlet) pa_nil)))) pss_nil)
      (pss_cons (ps_fld (pv 0) pe_bl rfl)
      (pss_cons (ps_fld (pv 0) (pe_op op_rep (pe_lst (pa_cons (pe_glob (v := .ref o) (by rfl) c.mo rfl) pa_nil)) (pe_op op_add (pv 1) pe_int)) rfl)
      (pss_cons (ps_fld (pv 0) (pe_op op_rep (pe_lst (pa_cons (pe_glob (v := .ref o) (by rfl) c.mo rfl) pa_nil)) (pv 1)) rfl)
      (pss_one (ps_ret (pe_lst (pa_cons (pv 1) pa_nil))))))), ?_⟩
    refine ⟨_, rfl, n, _, _, rfl, _, rfl, ?_⟩
    by_cases hn : 0 ≤ n ∧ n ≤ 4
    · rw [decide_eq_true hn]
      refine iteF ?_
      obtain ⟨⟨dx, ho⟩, ⟨xg, hg, pg⟩, ⟨xd, hd, pd⟩, ne⟩ := hS
      -- self.begun = True
      refine ⟨_, rfl, a, C, dx, _, rfl, ho, T.cl, T.nU, by show 3 < 1000; decide, ?_⟩
      rw [put_begun]
      have f1 : ∀ q x, H q = some x → q ≠ a → (upd H a (.ins C dx (sF true g d))) q = some x := fun q x e n => by rw [upd_ne n]; exact e
      have n1 : ∀ q, (upd H a (.ins C dx (sF true g d))) q = none → H q = none ∧ q ≠ a := fun q e => by
        have na : q ≠ a := fun y => by rw [y, upd_same] at e; cases e
        rw [upd_ne na] at e
        exact ⟨e, na⟩
      have h1 : (upd H a (.ins C dx (sF true g d))) a = some (.ins C dx (sF true g d)) := upd_same
      generalize upd H a (.ins C dx (sF true g d)) = H1 at f1 n1 h1 ⊢
      -- self.gaps = [ONE] * (n + 1)
      refine ⟨by show 1 ≤ sizeLine; decide, fun l2 m2 => ?_⟩
      have s2 := same_upd (o := .lst [V.ref o]) m2
      refine ⟨_, rfl, _, _, rfl, rfl, l2, n + 1, _, rfl, rfl, upd_same, by omega, by omega, by show 1 * (n + 1).toNat ≤ sizeLine; exact Nat.le_trans (show _ ≤ 1000 by omega) (by decide), fun g' mg' => ?_⟩
      have s3 := same_upd (o := .lst (List.replicate (n + 1).toNat [V.ref o]).flatten) mg'
      have s23 := s2.trans s3
      have fg := n1 g' (s2.free mg')
      have h3g : (upd (upd H1 l2 (.lst [V.ref o])) g' (.lst (List.replicate (n + 1).toNat [V.ref o]).flatten)) g' = some (.lst (List.replicate (n + 1).toNat [V.ref o]).flatten) := upd_same
      have h3a := s23 _ _ h1
      generalize upd (upd H1 l2 (.lst [V.ref o])) g' (.lst (List.replicate (n + 1).toNat [V.ref o]).flatten) = H3 at s23 h3g h3a ⊢
      refine ⟨_, rfl, a, C, dx, _, rfl, h3a, T.cl, T.nG, by show 3 < 1000; decide, ?_⟩
      rw [put_gaps]
      have f4 : ∀ q x, H3 q = some x → q ≠ a → (upd H3 a (.ins C dx (sF true g' d))) q = some x := fun q x e n => by rw [upd_ne n]; exact e
      have n4 : ∀ q, (upd H3 a (.ins C dx (sF true g' d))) q = none → H3 q = none ∧ q ≠ a := fun q e => by
        have na : q ≠ a := fun y => by rw [y, upd_same] at e; cases e
        rw [upd_ne na] at e
        exact ⟨e, na⟩
      have h4 : (upd H3 a (.ins C dx (sF true g' d))) a = some (.ins C dx (sF true g' d)) := upd_same
      generalize upd H3 a (.ins C dx (sF true g' d)) = H4 at f4 n4 h4 ⊢
      -- self.beads = [ONE] * n
      refine ⟨by show 1 ≤ sizeLine; decide, fun l5 m5 => ?_⟩
      have s5 := same_upd (o := .lst [V.ref o]) m5
      refine ⟨_, rfl, l5, n, _, rfl, rfl, upd_same, by omega, by omega, by show 1 * n.toNat ≤ sizeLine; exact Nat.le_trans (show _ ≤ 1000 by omega) (by decide), fun d' md' => ?_⟩
      have s6 := same_upd (o := .lst (List.replicate n.toNat [V.ref o]).flatten) md'
      have s56 := s5.trans s6
      have fd1 := n4 d' (s5.free md')
      have fd2 := n1 d' (s23.free fd1.1)
      have gd : g' ≠ d' := fun e => by
        have := fd1.1
        rw [← e, h3g] at this
        cases this
      have h6d : (upd (upd H4 l5 (.lst [V.ref o])) d' (.lst (List.replicate n.toNat [V.ref o]).flatten)) d' = some (.lst (List.replicate n.toNat [V.ref o]).flatten) := upd_same
      have h6a := s56 _ _ h4
      have h6g := s56 _ _ (f4 _ _ h3g fg.2)
      generalize upd (upd H4 l5 (.lst [V.ref o])) d' (.lst (List.replicate n.toNat [V.ref o]).flatten) = H6 at s56 h6d h6a h6g ⊢
      refine ⟨_, rfl, a, C, dx, _, rfl, h6a, T.cl, T.nB, by show 3 < 1000; decide, ?_⟩
      rw [put_beads]
      have f7 : ∀ q x, H6 q = some x → q ≠ a → (upd H6 a (.ins C dx (sF true g' d'))) q = some x := fun q x e n => by rw [upd_ne n]; exact e
      have n7 : ∀ q, (upd H6 a (.ins C dx (sF true g' d'))) q = none → H6 q = none ∧ q ≠ a := fun q e => by
        have na : q ≠ a := fun y => by rw [y, upd_same] at e; cases e
        rw [upd_ne na] at e
        exact ⟨e, na⟩
      have h7 : (upd H6 a (.ins C dx (sF true g' d'))) a = some (.ins C dx (sF true g' d')) := upd_same
      generalize upd H6 a (.ins C dx (sF true g' d')) = H7 at f7 n7 h7 ⊢
      -- return [n]
      refine ⟨_, rfl, by show 1 ≤ sizeLine; decide, fun p mp => ?_⟩
      have s8 := same_upd (o := .lst [V.int n]) mp
      have fr : ∀ q x, H q = some x → q ≠ a → H7 q = some x := fun q x e na => f7 _ _ (s56 _ _ (f4 _ _ (s23 _ _ (f1 _ _ e na)) na)) na
      have hp : H p = none := (n1 p (s23.free (n4 p (s56.free (n7 p mp).1)).1)).1
      refine k2 hn _ g' d' p ⟨⟨dx, s8 _ _ h7⟩, ⟨_, s8 _ _ (f7 _ _ h6g fg.2), ?_⟩, ⟨_, s8 _ _ (f7 _ _ h6d fd2.2), ?_⟩, gd⟩ (fun q x e na _ _ => s8 _ _ (fr q x e na)) (.inr fg.1) (.inr fd2.1) hp upd_same
      · rw [flat_rep, show (n + 1).toNat = n.toNat + 1 by omega]
        exact PlA.rep (c.one _) _
      · rw [flat_rep]
        exact PlA.rep (c.one _) _
    · rw [decide_eq_false hn]
      refine iteT ?_
      exact ⟨by show 1 ≤ sizeLine; decide, fun p hp => newL_one ((k1 hn).newL hS) p hp⟩
def spSetGap (K : PySem.W.Frag) (C : Addr) : Sp := fun vs H Q _ => ∃ (a g d : Addr) (b : Bool) (ls bs : List Rat) (i x y : Int), vs = [.ref a, .int i, .int x, .int y] ∧ StA K C H a g d b ls bs ∧ ls.length ≤ 1000 ∧
  (¬ (0 ≤ i ∧ i < (ls.length : Int)) → After K C H a g d b ls bs [-2] Q) ∧ (0 ≤ i ∧ i < (ls.length : Int) → ¬ okPart x y → After K C H a g d b ls bs [-22] Q) ∧
  (0 ≤ i ∧ i < (ls.length : Int) → okPart x y → After K C H a g d b (ls.set i.toNat ((x : Rat) / (y : Rat))) bs (0 :: BD.nums [ls.getD i.toNat 0]) Q)
theorem kind_ne {H : Hp} {a b : Addr} {xs : List V} {C dx : Addr} {fs : List (Str × V)} (h : H a = some (.lst xs)) (h' : H b = some (.ins C dx fs)) : a ≠ b := ne_of h h' (by intro y; cases y)
theorem PlA.but {H H' : Hp} {a : Addr} {xs vs : List V} {p : List Rat} (h : PlA K H vs p) (ha : H a = some (.lst xs)) (e : But a H H') : PlA K H' vs p := pairedMap (fun v r q => by
  obtain ⟨t, h1, h2⟩ := q
  refine ⟨t, h1, ?_⟩
  rcases h2 with (h | ⟨o, h⟩) | h
  · exact .inl (.inl (e _ _ h (ne_of h ha (by intro y; cases y))))
  · exact .inl (.inr ⟨o, e _ _ h (ne_of h ha (by intro y; cases y))⟩)
  · exact .inr h) h
theorem ok_setGap {f : Addr} {fd : FuncData} (F : Fun K "set_gap" "Strand.set_gap" mSetGap f fd) (T : Txt K C) (CP : Cal P w K mg base 41 "set_part" ["parts", "i", "above", "below"] (spSetPart K)) : FnOk P w K mg base CX0 42 f fd ["self", "i", "above", "below"] (spSetGap K C) := by
  refine F.ok scSetGap (fun vs H Q E h => ?_) (fun cdv A outer s H vs Q E hr h => ?_)
  · obtain ⟨a, g, d, b, ls, bs, i, x, y, rfl, _⟩ := h; rfl
  · obtain ⟨a, g, d, b, ls, bs, i, x, y, rfl, hS, ll, k1, k2, k3⟩ := h
    refine ⟨_, pss_one (ps_ret (pe_cal CP hr (pa_cons (pe_fld (pv 0) rfl) (pa_cons (pv 1) (pa_cons (pv 2) (pa_cons (pv 3) pa_nil)))))), ?_⟩
    have hS0 := hS
    obtain ⟨⟨dx, ho⟩, ⟨xg, hg, pg⟩, ⟨xd, hd, pd⟩, ne⟩ := hS
    refine ⟨_, rfl, a, C, dx, _, _, rfl, ho, T.cl, T.nG, sF_gaps b g d, _, rfl, _, rfl, _, rfl, g, xg, ls, i, x, y, rfl, hg, pg, ll, fun h => (k1 h).newL hS0, fun h h2 => (k2 h h2).newL hS0, fun h h2 H' p xs' bt h3 h4 n5 h5 => ?_⟩
    exact k3 h h2 H' g d p ⟨⟨dx, bt _ _ ho (kind_ne hg ho).symm⟩, ⟨xs', h3, h4⟩, ⟨xd, bt _ _ hd ne.symm, pd.but hg bt⟩, ne⟩ (fun c q e _ n2 _ => bt _ _ e n2) (.inl rfl) (.inl rfl) n5 h5
def spSetBead (K : PySem.W.Frag) (C : Addr) : Sp := fun vs H Q _ => ∃ (a g d : Addr) (b : Bool) (ls bs : List Rat) (i x y : Int), vs = [.ref a, .int i, .int x, .int y] ∧ StA K C H a g d b ls bs ∧ bs.length ≤ 1000 ∧
  (¬ (0 ≤ i ∧ i < (bs.length : Int)) → After K C H a g d b ls bs [-2] Q) ∧ (0 ≤ i ∧ i < (bs.length : Int) → ¬ okPart x y → After K C H a g d b ls bs [-22] Q) ∧
  (0 ≤ i ∧ i < (bs.length : Int) → okPart x y → After K C H a g d b ls (bs.set i.toNat ((x : Rat) / (y : Rat))) (0 :: BD.nums [bs.getD i.toNat 0]) Q)
theorem ok_setBead {f : Addr} {fd : FuncData} (F : Fun K "set_bead" "Strand.set_bead" mSetBead f fd) (T : Txt K C) (CP : Cal P w K mg base 41 "set_part" ["parts", "i", "above", "below"] (spSetPart K)) : FnOk P w K mg base CX0 42 f fd ["self", "i", "above", "below"] (spSetBead K C) := by
  refine F.ok scSetBead (fun vs H Q E h => ?_) (fun cdv A outer s H vs Q E hr h => ?_)
  · obtain ⟨a, g, d, b, ls, bs, i, x, y, rfl, _⟩ := h; rfl
  · obtain ⟨a, g, d, b, ls, bs, i, x, y, rfl, hS, ll, k1, k2, k3⟩ := h
    refine ⟨_, pss_one (ps_ret (pe_cal CP hr (pa_cons (pe_fld (pv 0) rfl) (pa_cons (pv 1) (pa_cons (pv 2) (pa_cons (pv 3) pa_nil)))))), ?_⟩
    have hS0 := hS
    obtain ⟨⟨dx, ho⟩, ⟨xg, hg, pg⟩, ⟨xd, hd, pd⟩, ne⟩ := hS
    refine ⟨_, rfl, a, C, dx, _, _, rfl, ho, T.cl, T.nB, sF_beads b g d, _, rfl, _, rfl, _, rfl, d, xd, bs, i, x, y, rfl, hd, pd, ll, fun h => (k1 h).newL hS0, fun h h2 => (k2 h h2).newL hS0, fun h h2 H' p xs' bt h3 h4 n5 h5 => ?_⟩
    exact k3 h h2 H' g d p ⟨⟨dx, bt _ _ ho (kind_ne hd ho).symm⟩, ⟨xg, bt _ _ hg ne, pg.but hd bt⟩, ⟨xs', h3, h4⟩, ne⟩ (fun c q e _ _ n3 => bt _ _ e n3) (.inl rfl) (.inl rfl) n5 h5
end
end BP
set_option Elab.async false
set_option linter.all false
set_option maxRecDepth 100000
set_option maxHeartbeats 2000000
namespace BP
open PySem PySem.Spec PyProof.Rows L2
abbrev sTotal : Stmt := topS 8
abbrev sFalling : Stmt := topS 21
abbrev sLess : Stmt := topS 23
abbrev sMore : Stmt := topS 24
theorem scTotal : FnScope ["fractions", "result", "fraction"] ["fractions"] (defScope sTotal) := ⟨rfl, rfl, rfl, by decide +kernel, rfl, by decide +kernel, by decide +kernel⟩
theorem scFalling : FnScope ["one", "other", "count", "factors", "rest", "step", "share"] ["one", "other", "count"] (defScope sFalling) := ⟨rfl, rfl, rfl, by decide +kernel, rfl, by decide +kernel, by decide +kernel⟩
theorem scLess : FnScope ["upper", "lower", "gap"] ["upper", "lower", "gap"] (defScope sLess) := ⟨rfl, rfl, rfl, by decide +kernel, rfl, by decide +kernel, by decide +kernel⟩
theorem scMore : FnScope ["upper", "lower", "bead"] ["upper", "lower", "bead"] (defScope sMore) := ⟨rfl, rfl, rfl, by decide +kernel, rfl, by decide +kernel, by decide +kernel⟩
/-! ### sizes -/
theorem SzP.pos {n : Nat} {p : List Rat} (h : SzP n p) : 0 < n := by
  have := (h p.length).2
  rw [BD.cf_low (Nat.le_refl _)] at this
  have h2 : 1 < 2 ^ n := this
  by_cases c0 : n = 0
  · subst c0; exact absurd h2 (by decide)
  · omega
theorem SzP.up1 {n : Nat} {p : List Rat} (h : SzP n p) : SzP n (0 :: p) := fun k => by
  rw [BD.cf_0]
  exact h.sh h.pos k
theorem SzP.trim {n : Nat} {p : List Rat} (h : SzP n p) : SzP n (BD.rtrim p) := fun k => by
  rw [BD.cf_rtrim]
  exact h k
theorem less_sz {n m t : Nat} {p q : List Rat} {l : Rat} (hp : SzP n p) (hq : SzP m q) (hl : Sz t l) : SzP (n + (t + m) + 1) (BD.rless p q l) := (hp.add (SzP.scale hl.neg hq)).trim
theorem more_sz {n m t : Nat} {r q : List Rat} {b : Rat} (hr : SzP n r) (hq : SzP m q) (hb : Sz t b) : SzP (m + (t + n) + 1) (BD.rmore r q b) := (hq.add (SzP.scale hb hr.up1)).trim
theorem less_len (p q : List Rat) (l : Rat) : (BD.rless p q l).length ≤ max p.length q.length := by
  have := BD.rtrim_le (BD.radd p (BD.rscale (-l) q))
  rw [BD.radd_len, BD.rscale_len] at this
  exact this
theorem more_len (r q : List Rat) (b : Rat) : (BD.rmore r q b).length ≤ max q.length (r.length + 1) := by
  have := BD.rtrim_le (BD.radd q (BD.rscale b (0 :: r)))
  rw [BD.radd_len, BD.rscale_len, List.length_cons] at this
  exact this
theorem NewP.poX {K : PySem.W.Frag} {H : Hp} {r : List Rat} {Q : VK} {D : Addr} {acc : List V} (hD : H D = some (.lst acc)) (h : ∀ (H' : Hp) (d : Addr), Same H H' → PoX K H' D (.ref d) r → Q (.ref d) H') : NewP K H r Q := fun H' d acc' sm n hd hpl =>
  h H' d sm ⟨d, acc', (fun e => by rw [e, hD] at n; cases n), rfl, hd, hpl⟩
/-- a new fraction: the heap behind it by a letter -/
theorem newT {K : PySem.W.Frag} {H : Hp} {r : Rat} {Q : VK} (h : ∀ (H' : Hp) (t : Addr), Same H H' → RtA K H' (.ref t) r → H t = none → Q (.ref t) H') : NewT H r Q := fun p hp => h _ p (same_upd hp) rtA_new hp
section
variable {P : Program} {w : World} {K : PySem.W.Frag} {mg : Str → Option Value} {base : Heap} {z o : Addr}
/-! ### total -/
def spTotal (K : PySem.W.Frag) : Sp := fun vs H Q _ => ∃ (v : V) (p : List Rat), vs = [v] ∧ PoA K H v p ∧ BgP p ∧ (∀ i, Bg ((p.take i).foldl (· + ·) 0)) ∧ ∀ (H' : Hp) (u' : V), Same H H' → RtA K H' u' (p.foldl (· + ·) 0) → Q u' H'
theorem ok_total {f : Addr} {fd : FuncData} (F : Fun K "total" "total" sTotal f fd) (c : Con K mg z o) (C1 : Cal P w K mg base 41 "plus" ["one", "other"] (spPlus K)) : FnOk P w K mg base CX0 42 f fd ["fractions"] (spTotal K) := by
  refine F.ok scTotal (fun vs H Q E h => ?_) (fun cdv A outer s H vs Q E hr h => ?_)
  · obtain ⟨v, p, rfl, _⟩ := h; rfl
  · obtain ⟨v, p, rfl, ⟨a, xs, rfl, ha, hp⟩, bp, bt, k⟩ := h
    refine ⟨_, pss_cons (ps_set (i := 1) scTotal.nd rfl (.inl rfl) (pe_glob (v := .ref z) (by rfl) c.mz rfl))
      (pss_cons (ps_for PassesOwn.never rfl (pi_list (pv 0)) (pg_name (i := 2) scTotal.nd rfl (.inl rfl))
        (pss_one (ps_set (i := 1) scTotal.nd rfl (.inl rfl) (pe_cal C1 hr (pa_cons (pv 1) (pa_cons (pv 2) pa_nil))))))
      (pss_one (ps_ret (pv 1)))), ?_⟩
    refine ⟨_, rfl, a, rfl, ⟨_, sqL ha⟩, for_list (K := K) (a := a) (xs := xs) (fun i σ H' => ∃ (y : V) (y2 : Option V), σ = [some (.ref a), some y, y2] ∧ Same H H' ∧ RtA K H' y ((p.take i).foldl (· + ·) 0)) ⟨_, none, rfl, Same.refl H, c.zero H⟩ (fun i σ H' _ ⟨_, _, _, sm, _⟩ => sqL (sm _ _ ha)) ?_ ?_⟩
    · rintro i x σ H' hi ⟨y, y2, rfl, sm, hy⟩
      obtain ⟨hpi, hx⟩ := hp.at hi
      refine ⟨_, rfl, _, rfl, y, x, _, _, rfl, hy, hx.same sm, bt i, bp i, trivial, fun t ht => ?_⟩
      refine ⟨.ref t, _, rfl, sm.trans (same_upd ht), ?_⟩
      rw [take_more hpi, List.foldl_append]
      exact rtA_new
    · rintro σ H' ⟨y, y2, rfl, sm, hy⟩
      rw [List.take_of_length_le (by rw [hp.len]; exact Nat.le_refl _)] at hy
      exact ⟨_, rfl, k H' y sm hy⟩
/-! ### without_gap, without_bead -/
def spLess (K : PySem.W.Frag) : Sp := fun vs H Q _ => ∃ (v u g : V) (p q : List Rat) (l : Rat) (n m t : Nat), vs = [v, u, g] ∧ PoA K H v p ∧ PoA K H u q ∧ RtA K H g l ∧ SzP n p ∧ SzP m q ∧ Sz t l ∧ n ≤ LIM ∧ t + m ≤ LIM ∧ p.length ≤ 100 ∧ q.length ≤ 100 ∧ NewP K H (BD.rless p q l) Q
theorem ok_less {f : Addr} {fd : FuncData} (F : Fun K "without_gap" "without_gap" sLess f fd) (CO : Cal P w K mg base 1 "opposite" ["one"] (spOpposite K)) (CS : Cal P w K mg base 42 "scaled" ["polynomial", "number"] (spScaled K)) (CA : Cal P w K mg base 42 "added" ["one", "other"] (spAdded K)) (CT : Cal P w K mg base 1 "trimmed" ["polynomial"] (spTrimmed K)) :
    FnOk P w K mg base CX0 43 f fd ["upper", "lower", "gap"] (spLess K) := by
  refine F.ok scLess (fun vs H Q E h => ?_) (fun cdv A outer s H vs Q E hr h => ?_)
  · obtain ⟨v, u, g, p, q, l, n, m, t, rfl, _⟩ := h; rfl
  · obtain ⟨v, u, g, p, q, l, n, m, t, rfl, hv, hu, hg, sp, sq, sl, hn, hm, lp, lq, k⟩ := h
    refine ⟨_, pss_one (ps_ret (pe_cal CT (hr.mono (by decide)) (pa_cons (pe_cal CA hr (pa_cons (pv 0) (pa_cons (pe_cal CS hr (pa_cons (pv 1) (pa_cons (pe_cal CO (hr.mono (by decide)) (pa_cons (pv 2) pa_nil)) pa_nil))) pa_nil))) pa_nil))), ?_⟩
    refine ⟨_, rfl, _, rfl, _, rfl, g, l, rfl, hg, fun t1 n1 => ?_⟩
    have s1 := same_upd (o := .tup (fr (-l))) n1
    refine ⟨u, .ref t1, q, -l, rfl, hu.same s1, rtA_new, fun i => (sq i).bg (by omega), sl.neg.bg (by omega), by omega, NewP.poA fun H2 d2 s2 h2 => ?_⟩
    have s12 := s1.trans s2
    refine ⟨v, .ref d2, p, _, rfl, hv.same s12, h2, fun i => (sp i).bg hn, fun i => (SzP.scale sl.neg sq i).bg hm, by omega, by rw [BD.rscale_len]; omega, NewP.poA fun H3 d3 s3 h3 => ?_⟩
    refine ⟨.ref d3, _, rfl, h3, by rw [BD.radd_len, BD.rscale_len]; omega, fun H4 d4 ac s4 n4 e4 p4 => ?_⟩
    exact k H4 d4 ac ((s12.trans s3).trans s4) ((s12.trans s3).free n4) e4 p4
def spMore (K : PySem.W.Frag) : Sp := fun vs H Q _ => ∃ (v u g : V) (r q : List Rat) (b : Rat) (n m t : Nat), vs = [v, u, g] ∧ PoA K H v r ∧ PoA K H u q ∧ RtA K H g b ∧ SzP n r ∧ SzP m q ∧ Sz t b ∧ m ≤ LIM ∧ t + n ≤ LIM ∧ r.length ≤ 100 ∧ q.length ≤ 100 ∧ NewP K H (BD.rmore r q b) Q
theorem ok_more {f : Addr} {fd : FuncData} (F : Fun K "without_bead" "without_bead" sMore f fd) (CR : Cal P w K mg base 1 "raised" ["polynomial", "steps"] (spRaised K)) (CS : Cal P w K mg base 42 "scaled" ["polynomial", "number"] (spScaled K)) (CA : Cal P w K mg base 42 "added" ["one", "other"] (spAdded K)) (CT : Cal P w K mg base 1 "trimmed" ["polynomial"] (spTrimmed K)) :
    FnOk P w K mg base CX0 43 f fd ["upper", "lower", "bead"] (spMore K) := by
  refine F.ok scMore (fun vs H Q E h => ?_) (fun cdv A outer s H vs Q E hr h => ?_)
  · obtain ⟨v, u, g, r, q, b, n, m, t, rfl, _⟩ := h; rfl
  · obtain ⟨v, u, g, r, q, b, n, m, t, rfl, hv, hu, hg, sr, sq, sb, hm, hn, lr, lq, k⟩ := h
    refine ⟨_, pss_one (ps_ret (pe_cal CT (hr.mono (by decide)) (pa_cons (pe_cal CA hr (pa_cons (pv 1) (pa_cons (pe_cal CS hr (pa_cons (pe_cal CR (hr.mono (by decide)) (pa_cons (pv 0) (pa_cons pe_int pa_nil))) (pa_cons (pv 2) pa_nil))) pa_nil))) pa_nil))), ?_⟩
    refine ⟨_, rfl, _, rfl, v, r, 1, rfl, hv, by decide, by omega, NewP.poA fun H1 d1 s1 h1 => ?_⟩
    refine ⟨_, rfl, .ref d1, g, 0 :: r, b, rfl, h1, hg.same s1, fun i => (sr.up1 i).bg (by omega), sb.bg (by omega), by rw [List.length_cons]; omega, NewP.poA fun H2 d2 s2 h2 => ?_⟩
    have s12 := s1.trans s2
    refine ⟨u, .ref d2, q, _, rfl, hu.same s12, h2, fun i => (sq i).bg hm, fun i => (SzP.scale sb sr.up1 i).bg hn, by omega, by rw [BD.rscale_len, List.length_cons]; omega, NewP.poA fun H3 d3 s3 h3 => ?_⟩
    refine ⟨.ref d3, _, rfl, h3, by rw [BD.radd_len, BD.rscale_len, List.length_cons]; omega, fun H4 d4 ac s4 n4 e4 p4 => ?_⟩
    exact k H4 d4 ac ((s12.trans s3).trans s4) ((s12.trans s3).free n4) e4 p4
end
/-! ### falling_factors -/
def mb (n m : Nat) : Nat → Nat
  | 0 => n
  | j + 1 => 2 * mb n m j + 2 * m + 1
theorem mb_mono (n m : Nat) : ∀ j, mb n m j ≤ mb n m (j + 1) := fun j => by
  show _ ≤ 2 * mb n m j + 2 * m + 1
  omega
theorem mb_le (n m : Nat) {i j : Nat} (h : i ≤ j) : mb n m i ≤ mb n m j := by
  induction j with
  | zero => rw [show i = 0 by omega]; exact Nat.le_refl _
  | succ j ih =>
    by_cases c : i = j + 1
    · rw [c]; exact Nat.le_refl _
    · exact Nat.le_trans (ih (by omega)) (mb_mono n m j)
def rit (q r : List Rat) : Nat → List Rat
  | 0 => r
  | i + 1 => BD.rfnext q (rit q r i)
theorem rit_next (q r : List Rat) : ∀ i, rit q (BD.rfnext q r) i = rit q r (i + 1)
  | 0 => rfl
  | i + 1 => by
    show BD.rfnext q (rit q (BD.rfnext q r) i) = _
    rw [rit_next q r i]; rfl
theorem rfall_snoc (q : List Rat) : ∀ (i : Nat) (r : List Rat), BD.rfall q (i + 1) r = BD.rfall q i r ++ [BD.rshare q (rit q r i)]
  | 0, r => rfl
  | i + 1, r => by
    show BD.rshare q r :: BD.rfall q (i + 1) (BD.rfnext q r) = _
    rw [rfall_snoc q i (BD.rfnext q r), rit_next]; rfl
theorem rfall_len (q : List Rat) : ∀ (i : Nat) (r : List Rat), (BD.rfall q i r).length = i
  | 0, r => rfl
  | i + 1, r => by
    show (BD.rfall q i (BD.rfnext q r)).length + 1 = _
    rw [rfall_len]
theorem share_sz {n m : Nat} {q r : List Rat} (hr : SzP n r) (hq : SzP m q) (hz : BD.cf q (q.length - 1) ≠ 0) : Sz (n + m) (BD.rshare q r) := Sz.div hz (hr.up1 _) (hq _)
theorem rit_sz {n m : Nat} {q r : List Rat} (hr : SzP n r) (hq : SzP m q) (hz : BD.cf q (q.length - 1) ≠ 0) : ∀ i, SzP (mb n m i) (rit q r i)
  | 0 => hr
  | i + 1 => by
    have ih := rit_sz hr hq hz i
    have s := (ih.up1.add (SzP.scale (share_sz ih hq hz).neg hq)).trim
    refine SzP.mono s ?_
    show _ ≤ 2 * mb n m i + 2 * m + 1
    omega
theorem rit_len {q r : List Rat} (hq : q ≠ []) (hz : BD.cf q (q.length - 1) ≠ 0) (hr : r.length ≤ q.length - 1) : ∀ i, (rit q r i).length ≤ q.length - 1
  | 0 => hr
  | i + 1 => BD.rfnext_len hq hz (rit_len hq hz hr i)
section
variable {P : Program} {w : World} {K : PySem.W.Frag} {mg : Str → Option Value} {base : Heap} {z o : Addr}
def spFalling (K : PySem.W.Frag) : Sp := fun vs H Q _ => ∃ (v u : V) (r q : List Rat) (k n m : Nat), vs = [v, u, .int k] ∧ PoA K H v r ∧ PoA K H u q ∧ q ≠ [] ∧ BD.cf q (q.length - 1) ≠ 0 ∧ r.length ≤ q.length - 1 ∧ q.length ≤ 100 ∧ SzP n r ∧ SzP m q ∧ mb n m 11 + 2 * m ≤ LIM ∧ k ≤ 12 ∧ NewP K H (BD.rfall q k r) Q
theorem ok_falling {f : Addr} {fd : FuncData} (F : Fun K "falling_factors" "falling_factors" sFalling f fd) (c : Con K mg z o) (CF : Cal P w K mg base 1 "factor_of" ["polynomial", "power"] (spFactor K)) (CD : Cal P w K mg base 41 "divided" ["one", "other"] (spDivided K)) (CO : Cal P w K mg base 1 "opposite" ["one"] (spOpposite K))
    (CR : Cal P w K mg base 1 "raised" ["polynomial", "steps"] (spRaised K)) (CS : Cal P w K mg base 42 "scaled" ["polynomial", "number"] (spScaled K)) (CA : Cal P w K mg base 42 "added" ["one", "other"] (spAdded K)) (CT : Cal P w K mg base 1 "trimmed" ["polynomial"] (spTrimmed K)) :
    FnOk P w K mg base CX0 43 f fd ["one", "other", "count"] (spFalling K) := by
  refine F.ok scFalling (fun vs H Q E h => ?_) (fun cdv A outer s H vs Q E hr h => ?_)
  · obtain ⟨v, u, r, q, k, n, m, rfl, _⟩ := h; rfl
  · obtain ⟨v, u, r, q, k, n, m, rfl, hv, hu, hq0, hz, lr, lq, sr, sq, hlim, hk, kk⟩ := h
    refine ⟨_, pss_cons (ps_set (i := 3) scFalling.nd rfl (.inl rfl) (pe_lst pa_nil))
      (pss_cons (ps_set (i := 4) scFalling.nd rfl (.inl rfl) (pv 0))
      (pss_cons (ps_for PassesOwn.never rfl (pi_range1 (by rfl) c.range (pa_cons (pv 2) pa_nil)) (pg_name (i := 5) scFalling.nd rfl (.inl rfl))
        (pss_cons (ps_set (i := 4) scFalling.nd rfl (.inl rfl) (pe_cal CR (hr.mono (by decide)) (pa_cons (pv 4) (pa_cons pe_int pa_nil))))
        (pss_cons (ps_set (i := 6) scFalling.nd rfl (.inl rfl) (pe_cal CD (hr.mono (by decide)) (pa_cons (pe_cal CF (hr.mono (by decide)) (pa_cons (pv 4) (pa_cons (pe_op op_sub (pe_callB call_len_seq (by rfl) c.len PySem.boot_len (pa_cons (pv 1) pa_nil)) pe_int) pa_nil))) (pa_cons (pe_ix ix_list (pv 1) (pe_un un_neg pe_int) (fun _ _ => rfl)) pa_nil))))
        (pss_cons (ps_expr (pe_bm PySem.F.plainAttrs_list PySem.F.slot_list_append PySem.F.type_list_append mt_append (pv 3) (pa_cons (pv 6) pa_nil)))
        (pss_one (ps_set (i := 4) scFalling.nd rfl (.inl rfl) (pe_cal CT (hr.mono (by decide)) (pa_cons (pe_cal CA hr (pa_cons (pv 4) (pa_cons (pe_cal CS hr (pa_cons (pv 1) (pa_cons (pe_cal CO (hr.mono (by decide)) (pa_cons (pv 6) pa_nil)) pa_nil))) pa_nil))) pa_nil))))))))
      (pss_one (ps_ret (pv 3))))), ?_⟩
    refine ⟨Nat.zero_le _, fun D hD => ?_⟩
    have s0 := same_upd (o := .lst []) hD
    refine ⟨_, rfl, _, rfl, (k : Int), rfl, by omega, by omega, ?_⟩
    rw [show ((k : Int)).toNat = k by omega]
    have l0 : 0 < q.length := List.length_pos_iff.mpr hq0
    refine for_range (lo := 0) (n := k) (fun i σ H' => ∃ (y : V) (y5 y6 : Option V) (acc : List V), σ = [some v, some u, some (.int k), some (.ref D), some y, y5, y6] ∧ Same H H' ∧ PoA K H' y (rit q r i) ∧ H' D = some (.lst acc) ∧ PlA K H' acc (BD.rfall q i r))
      ⟨v, none, none, [], rfl, s0, hv.same s0, upd_same, .nil⟩ (fun i σ H' hi hPv => ?_) (fun σ H' hPv => ?_)
    · obtain ⟨y, y5, y6, acc, rfl, sm, hy, hacc, hpl⟩ := hPv
      have sR := rit_sz sr sq hz i
      have lR := rit_len hq0 hz lr i
      have hb : mb n m i + 2 * m ≤ LIM := Nat.le_trans (Nat.add_le_add_right (mb_le n m (show i ≤ 11 by omega)) _) hlim
      have sS := share_sz sR sq hz
      -- rest = raised(rest, 1)
      refine ⟨_, rfl, y, rit q r i, 1, rfl, hy, by decide, by omega, NewP.poX hacc fun H1 d1 s1 h1 => ?_⟩
      have h1 : PoX K H1 D (.ref d1) (0 :: rit q r i) := h1
      have sm1 := sm.trans s1
      obtain ⟨aq, xq, rfl, haq, hpq⟩ := hu.same sm1
      have hu1 : PoA K H1 (.ref aq) q := ⟨aq, xq, rfl, haq, hpq⟩
      have lqq := hpq.len
      -- share
      refine ⟨_, rfl, _, rfl, aq, xq, rfl, .inl (sqL haq), _, _, rfl, rfl, ?_⟩
      refine ⟨.ref d1, 0 :: rit q r i, q.length - 1, by show [V.ref d1, V.int ((xq.length : Int) - 1)] = _; rw [show (xq.length : Int) - 1 = ((q.length - 1 : Nat) : Int) by omega], h1.poA, fun u2 h2 => ?_⟩
      obtain ⟨vq, ivq, hvq⟩ := hpq.last hq0
      refine ⟨_, rfl, _, rfl, aq, xq, _, vq, rfl, rfl, sqL haq, ivq, ?_⟩
      refine ⟨u2, vq, _, _, rfl, h2, hvq, (sR.up1 _).bg (by omega), (sq _).bg (by omega), hz, newT (K := K) (r := BD.rshare q (rit q r i)) fun H3 t3 s3 hsh n3 => ?_⟩
      have hacc3' := s3 _ _ (s1 _ _ hacc)
      have hpl3 := (hpl.same s1).same s3
      have h13 := h1.same s3
      have sm3 := sm1.trans s3
      -- factors.append(share)
      refine ⟨_, rfl, .inl ⟨rfl, _, sqL hacc3'⟩, _, rfl, D, acc, _, rfl, rfl, hacc3', by rw [hpl.len, rfall_len]; exact small1000 (by omega), ?_⟩
      have sm4 : Same H (upd H3 D (.lst (acc ++ [V.ref t3]))) := same_grow sm3 hD
      have h14 := h13.beside (acc' := acc ++ [V.ref t3]) hacc3'
      have hsh4 := hsh.beside (acc' := acc ++ [V.ref t3]) hacc3'
      have hpl4 : PlA K (upd H3 D (.lst (acc ++ [V.ref t3]))) (acc ++ [V.ref t3]) (BD.rfall q (i + 1) r) := by
        rw [rfall_snoc]
        exact Paired.snoc (hpl3.beside hacc3') hsh4
      have hacc4 : upd H3 D (.lst (acc ++ [V.ref t3])) D = some (.lst (acc ++ [V.ref t3])) := upd_same
      have hu4 := hu.same sm4
      generalize upd H3 D (HO.lst (acc ++ [V.ref t3])) = H4 at sm4 h14 hsh4 hpl4 hacc4 hu4 ⊢
      -- rest = trimmed(added(rest, scaled(other, opposite(share))))
      refine ⟨_, rfl, _, rfl, _, rfl, .ref t3, _, rfl, hsh4, fun t5 n5 => ?_⟩
      have s5 := same_upd (o := .tup (fr (-(BD.rshare q (rit q r i))))) n5
      refine ⟨.ref aq, .ref t5, q, _, rfl, hu4.same s5, rtA_new, fun j => (sq j).bg (by omega), sS.neg.bg (by omega), by omega, NewP.poA fun H6 d6 s6 h6 => ?_⟩
      have s56 := s5.trans s6
      refine ⟨.ref d1, .ref d6, 0 :: rit q r i, _, rfl, h14.poA.same s56, h6, fun j => (sR.up1 j).bg (by omega), fun j => (SzP.scale sS.neg sq j).bg (by omega), by rw [List.length_cons]; omega, by rw [BD.rscale_len]; omega, NewP.poA fun H7 d7 s7 h7 => ?_⟩
      refine ⟨.ref d7, _, rfl, h7, by rw [BD.radd_len, BD.rscale_len, List.length_cons]; omega, NewP.poA fun H8 d8 s8 h8 => ?_⟩
      have st := (s56.trans s7).trans s8
      exact ⟨.ref d8, _, _, acc ++ [V.ref t3], rfl, sm4.trans st, h8, st _ _ hacc4, hpl4.same st⟩
    · obtain ⟨y, y5, y6, acc, rfl, sm, hy, hacc, hpl⟩ := hPv
      exact ⟨_, rfl, kk H' D acc sm hD hacc hpl⟩
end
end BP
set_option Elab.async false
set_option linter.all false
set_option maxRecDepth 100000
set_option maxHeartbeats 2000000
namespace BP
open PySem PySem.Spec PyProof.Rows L2
abbrev sPeeled : Stmt := topS 25
theorem scPeeled : FnScope ["upper", "lower", "gaps", "beads"] ["upper", "lower"] (defScope sPeeled) := ⟨rfl, rfl, rfl, by decide +kernel, rfl, by decide +kernel, by decide +kernel⟩
/-! ### sizes along a peeling -/
def PeelOk (N : Nat) : Nat → List Rat → List Rat → Prop
  | 0, p, q => SzP N p ∧ SzP N q
  | f + 1, p, q => SzP N p ∧ SzP N q ∧ (p.length = f + 2 → q.length = f + 2 → (BD.rnx p q).length = f + 1 → PeelOk N f (BD.rnx p q) (BD.rny p q))
theorem PeelOk.sz {N : Nat} : ∀ {f : Nat} {p q : List Rat}, PeelOk N f p q → SzP N p ∧ SzP N q
  | 0, _, _, h => h
  | _ + 1, _, _, h => ⟨h.1, h.2.1⟩
/-- how great numbers grow -/
def pb : Nat → Nat → Nat → Nat
  | 0, n, m => max n m
  | f + 1, n, m => max (max n m) (pb f (2 * n + 2 * m + 1) (4 * n + 6 * m + 3))
theorem tr_last {p : List Rat} {n : Nat} (t : BD.Tr p) (h : p.length = n + 1) : BD.cf p (p.length - 1) ≠ 0 := by
  rcases t with z | z
  · rw [z] at h; simp at h
  · exact z
theorem gap_sz {n m : Nat} {p q : List Rat} (hp : SzP n p) (hq : SzP m q) (hz : BD.cf q (q.length - 1) ≠ 0) : Sz (n + m) (BD.rgap p q) := Sz.div hz (hp _) (hq _)
theorem bead_sz {n m : Nat} {q r : List Rat} (hq : SzP m q) (hr : SzP n r) (hz : BD.cf r (r.length - 1) ≠ 0) : Sz (m + n) (BD.rbead q r) := (Sz.div hz (hq _) (hr _)).neg
theorem peelOk_of {N : Nat} : ∀ {f n m : Nat} {p q : List Rat}, SzP n p → SzP m q → BD.Tr q → pb f n m ≤ N → PeelOk N f p q
  | 0, n, m, p, q, hp, hq, tq, h => by
    have h : max n m ≤ N := h
    exact ⟨hp.mono (by omega), hq.mono (by omega)⟩
  | f + 1, n, m, p, q, hp, hq, tq, h => by
    have h : max (max n m) (pb f (2 * n + 2 * m + 1) (4 * n + 6 * m + 3)) ≤ N := h
    refine ⟨hp.mono (by omega), hq.mono (by omega), fun lp lq lr => ?_⟩
    have sr : SzP (2 * n + 2 * m + 1) (BD.rnx p q) := SzP.mono (less_sz hp hq (gap_sz hp hq (tr_last tq lq))) (by omega)
    have sb := bead_sz hq sr (tr_last (BD.tr_rtrim _) lr)
    exact peelOk_of (n := 2 * n + 2 * m + 1) (m := 4 * n + 6 * m + 3) sr (SzP.mono (more_sz sr hq sb) (by omega)) (BD.tr_rtrim _) (by omega)
/-! ### polynomials beside two lists -/
def PoY (K : PySem.W.Frag) (H : Hp) (D E : Addr) (v : V) (p : List Rat) : Prop := ∃ a vs, a ≠ D ∧ a ≠ E ∧ v = .ref a ∧ H a = some (.lst vs) ∧ PlA K H vs p
section
variable {K : PySem.W.Frag} {H H' : Hp} {D E : Addr} {v : V} {p : List Rat} {acc acc' : List V}
theorem PoY.poA (h : PoY K H D E v p) : PoA K H v p := by
  obtain ⟨a, vs, _, _, h1, h2, h3⟩ := h
  exact ⟨a, vs, h1, h2, h3⟩
theorem PoY.same (h : PoY K H D E v p) (e : Same H H') : PoY K H' D E v p := by
  obtain ⟨a, vs, h0, h0', h1, h2, h3⟩ := h
  exact ⟨a, vs, h0, h0', h1, e _ _ h2, h3.same e⟩
theorem PoY.atD (h : PoY K H D E v p) (hd : H D = some (.lst acc)) : PoY K (upd H D (.lst acc')) D E v p := by
  obtain ⟨a, vs, h0, h0', h1, h2, h3⟩ := h
  exact ⟨a, vs, h0, h0', h1, by rw [upd_ne h0]; exact h2, h3.beside hd⟩
theorem PoY.atE (h : PoY K H D E v p) (hd : H E = some (.lst acc)) : PoY K (upd H E (.lst acc')) D E v p := by
  obtain ⟨a, vs, h0, h0', h1, h2, h3⟩ := h
  exact ⟨a, vs, h0, h0', h1, by rw [upd_ne h0']; exact h2, h3.beside hd⟩
theorem NewP.poY {r : List Rat} {Q : VK} {x y : List V} (hD : H D = some (.lst x)) (hE : H E = some (.lst y)) (h : ∀ (H' : Hp) (d : Addr), Same H H' → PoY K H' D E (.ref d) r → Q (.ref d) H') : NewP K H r Q := fun H' d ac sm n hd hpl =>
  h H' d sm ⟨d, ac, (fun e => by rw [e, hD] at n; cases n), (fun e => by rw [e, hE] at n; cases n), rfl, hd, hpl⟩
end
/-- a new pair of lists -/
def NewTw (K : PySem.W.Frag) (H : Hp) (s : List Rat × List Rat) (Q : VK) : Prop := ∀ (H' : Hp) (t g d : Addr) (xs ys : List V), Same H H' → SqT K H' t [.ref g, .ref d] → H g = none → H d = none → g ≠ d → H' g = some (.lst xs) → PlA K H' xs s.1 → H' d = some (.lst ys) → PlA K H' ys s.2 → Q (.ref t) H'
theorem NewTw.mono {K : PySem.W.Frag} {H H1 : Hp} {s : List Rat × List Rat} {Q : VK} (h : NewTw K H s Q) (e : Same H H1) : NewTw K H1 s Q := fun H' t g d xs ys sm ht hg hd ne h1 h2 h3 h4 => h H' t g d xs ys (e.trans sm) ht (e.free hg) (e.free hd) ne h1 h2 h3 h4
theorem atI_last {xs : List V} {v : V} : atI (xs ++ [v]) (-1) = some v := atI_neg1 (by rw [List.length_append]; show (xs ++ [v])[xs.length + 1 - 1]? = _; rw [Nat.add_sub_cancel, List.getElem?_concat_length])
theorem peel_no {f : Nat} {p q : List Rat} (h : p.length ≠ q.length) (h2 : p.length = f + 1 ∨ q.length = f + 1) : BD.rpeel f p q = none := by
  cases f with
  | zero =>
    unfold BD.rpeel
    rw [if_neg (by omega)]
  | succ f =>
    unfold BD.rpeel
    rw [if_pos (by omega)]
section
variable {P : Program} {w : World} {K : PySem.W.Frag} {mg : Str → Option Value} {base : Heap} {z o : Addr}
def spPeeled (K : PySem.W.Frag) : Sp := fun vs H Q _ => ∃ (v u : V) (p q : List Rat) (f N : Nat), vs = [v, u] ∧ PoA K H v p ∧ PoA K H u q ∧ q.length = f + 1 ∧ BD.Tr q ∧ p.length ≤ 5 ∧ f ≤ 4 ∧ PeelOk N f p q ∧ N ≤ 200000 ∧
  (BD.rpeel f p q = none → ∀ H', Same H H' → Q .non H') ∧ (∀ s, BD.rpeel f p q = some s → NewTw K H s Q)
theorem ok_peeled {f : Addr} {fd : FuncData} (F : Fun K "peeled_parts" "peeled_parts" sPeeled f fd) (c : Con K mg z o) (CD : Cal P w K mg base 41 "divided" ["one", "other"] (spDivided K)) (CO : Cal P w K mg base 1 "opposite" ["one"] (spOpposite K))
    (CL : Cal P w K mg base 43 "without_gap" ["upper", "lower", "gap"] (spLess K)) (CM : Cal P w K mg base 43 "without_bead" ["upper", "lower", "bead"] (spMore K)) : FnOk P w K mg base CX0 44 f fd ["upper", "lower"] (spPeeled K) := by
  refine F.ok scPeeled (fun vs H Q E h => ?_) (fun cdv A outer s H vs Q E hr h => ?_)
  · obtain ⟨v, u, p, q, f, N, rfl, _⟩ := h; rfl
  · obtain ⟨v, u, p, q, f0, N, rfl, hv, hu, lq, tq, lp, hf, hok, hN, k1, k2⟩ := h
    refine ⟨_, pss_cons (ps_set (i := 2) scPeeled.nd rfl (.inl rfl) (pe_lst pa_nil))
      (pss_cons (ps_set (i := 3) scPeeled.nd rfl (.inl rfl) (pe_lst pa_nil))
      (pss_cons (ps_while PassesOwn.never (pt_cmpR op_eq (pe_callB call_len_seq (by rfl) c.len PySem.boot_len (pa_cons (pv 0) pa_nil)) (pe_callB call_len_seq (by rfl) c.len PySem.boot_len (pa_cons (pv 1) pa_nil)) (nomark _))
        (pss_cons (ps_expr (pe_bm PySem.F.plainAttrs_list PySem.F.slot_list_append PySem.F.type_list_append mt_append (pv 2) (pa_cons (pe_cal CD (hr.mono (by decide)) (pa_cons (pe_ix ix_list (pv 0) (pe_un un_neg pe_int) (fun _ _ => rfl)) (pa_cons (pe_ix ix_list (pv 1) (pe_un un_neg pe_int) (fun _ _ => rfl)) pa_nil))) pa_nil)))
        (pss_cons (ps_if (pt_cmpR op_eq (pe_callB call_len_seq (by rfl) c.len PySem.boot_len (pa_cons (pv 1) pa_nil)) pe_int (nomark _)) (pss_one (ps_ret (pe_tup (pa_cons (pv 2) (pa_cons (pv 3) pa_nil))))) pss_nil)
        (pss_cons (ps_set (i := 0) scPeeled.nd rfl (.inl rfl) (pe_cal CL hr (pa_cons (pv 0) (pa_cons (pv 1) (pa_cons (pe_ix ix_list (pv 2) (pe_un un_neg pe_int) (fun _ _ => rfl)) pa_nil)))))
        (pss_cons (ps_if (pt_cmpR op_ne (pe_callB call_len_seq (by rfl) c.len PySem.boot_len (pa_cons (pv 0) pa_nil)) (pe_op op_sub (pe_callB call_len_seq (by rfl) c.len PySem.boot_len (pa_cons (pv 1) pa_nil)) pe_int) (nomark _)) (pss_one (ps_ret pe_non)) pss_nil)
        (pss_cons (ps_expr (pe_bm PySem.F.plainAttrs_list PySem.F.slot_list_append PySem.F.type_list_append mt_append (pv 3) (pa_cons (pe_cal CO (hr.mono (by decide)) (pa_cons (pe_cal CD (hr.mono (by decide)) (pa_cons (pe_ix ix_list (pv 1) (pe_un un_neg pe_int) (fun _ _ => rfl)) (pa_cons (pe_ix ix_list (pv 0) (pe_un un_neg pe_int) (fun _ _ => rfl)) pa_nil))) pa_nil)) pa_nil)))
        (pss_one (ps_set (i := 1) scPeeled.nd rfl (.inl rfl) (pe_cal CM hr (pa_cons (pv 0) (pa_cons (pv 1) (pa_cons (pe_ix ix_list (pv 3) (pe_un un_neg pe_int) (fun _ _ => rfl)) pa_nil))))))))))))
      (pss_one (ps_ret pe_non)))), ?_⟩
    refine ⟨Nat.zero_le _, fun D hD => ⟨Nat.zero_le _, fun B hB => ?_⟩⟩
    have s0 := same_upd (o := .lst []) hD
    have s1 := same_upd (o := .lst []) hB
    have s01 := s0.trans s1
    have hB0 : H B = none := s0.free hB
    have DB : D ≠ B := fun e => by rw [← e, upd_same] at hB; cases hB
    have hDa := s1 _ _ (upd_same (H := H) (a := D) (o := .lst []))
    have hBa : upd (upd H D (.lst [])) B (.lst []) B = some (.lst []) := upd_same
    have toY : ∀ {x : V} {r : List Rat}, PoA K H x r → PoY K (upd (upd H D (.lst [])) B (.lst [])) D B x r := fun {x r} h => by
      obtain ⟨a, xs, e1, e2, e3⟩ := h
      exact ⟨a, xs, ne_of_none e2 hD, ne_of_none e2 hB0, e1, s01 _ _ e2, e3.same s01⟩
    have hv1 := toY hv
    have hu1 := toY hu
    generalize upd (upd H D (.lst [])) B (.lst []) = Hs at s01 hDa hBa hv1 hu1 ⊢
    let W : Nat → L2.St → Hp → Prop := fun m σ H1 => ∃ (y1 y2 : V) (xg xb : List V) (G Bd p' q' : List Rat), σ = [some y1, some y2, some (.ref D), some (.ref B)] ∧ Same H H1 ∧ H1 D = some (.lst xg) ∧ PlA K H1 xg G ∧ H1 B = some (.lst xb) ∧ PlA K H1 xb Bd ∧
      PoY K H1 D B y1 p' ∧ PoY K H1 D B y2 q' ∧ G.length + m = f0 ∧ Bd.length + m = f0 ∧ (p'.length = m + 1 ∨ q'.length = m + 1) ∧ p'.length ≤ 5 ∧ q'.length ≤ 5 ∧ BD.Tr q' ∧ PeelOk N m p' q' ∧ BD.rpeel f0 p q = (BD.rpeel m p' q').map fun s => (G ++ s.1, Bd ++ s.2)
    refine ⟨W, ⟨f0, v, u, [], [], [], [], p, q, rfl, s01, hDa, .nil, hBa, .nil, hv1, hu1, Nat.zero_add _, Nat.zero_add _, .inr lq, lp, by omega, tq, hok, ?_⟩, ?_⟩
    · cases BD.rpeel f0 p q <;> rfl
    rintro m σ H1 ⟨y1, y2, xg, xb, G, Bd, p', q', rfl, sm, hG, pG, hB1, pB, hy1, hy2, lG, lB, hlen, lp', lq', tq', ok', hpe⟩
    have hy10 := hy1
    have hy20 := hy2
    obtain ⟨a1, x1, n1, n1', rfl, ha1, hp1⟩ := hy1
    obtain ⟨a2, x2, n2, n2', rfl, ha2, hp2⟩ := hy2
    have l1 := hp1.len
    have l2 := hp2.len
    refine ⟨_, rfl, a1, x1, rfl, .inl (sqL ha1), _, rfl, a2, x2, rfl, .inl (sqL ha2), rfl, _, rfl, ite2 (fun e => ?_) (fun e => ?_)⟩
    · have el : p'.length = q'.length := by
        have := V.int.inj (of_decide_eq_true e)
        omega
      have e1 : p'.length = m + 1 := by omega
      have e2 : q'.length = m + 1 := by omega
      have q0 : q' ≠ [] := fun y => by rw [y] at e2; simp at e2
      have p0 : p' ≠ [] := fun y => by rw [y] at e1; simp at e1
      have zq := tr_last tq' e2
      obtain ⟨sp, sq⟩ := ok'.sz
      have L : ∀ n, n ≤ 10000000 → n ≤ LIM := fun n hn => Nat.le_trans hn (by decide)
      refine ⟨fun σ' H' => ∃ m', m' < m ∧ W m' σ' H', fun _ _ h => h, ?_⟩
      -- gaps.append(divided(upper[-1], lower[-1]))
      obtain ⟨v1, iv1, hv1⟩ := hp1.last p0
      obtain ⟨v2, iv2, hv2⟩ := hp2.last q0
      refine ⟨_, rfl, .inl ⟨rfl, _, sqL hG⟩, _, rfl, _, rfl, a1, x1, _, v1, rfl, rfl, sqL ha1, iv1, _, rfl, _, rfl, a2, x2, _, v2, rfl, rfl, sqL ha2, iv2, ?_⟩
      refine ⟨v1, v2, _, _, rfl, hv1, hv2, (sp _).bg (L _ (by omega)), (sq _).bg (L _ (by omega)), zq, newT (K := K) (r := BD.rgap p' q') fun H2 t2 s2 ht2 _ => ?_⟩
      have hG2 := s2 _ _ hG
      refine ⟨D, xg, _, rfl, rfl, hG2, by rw [pG.len]; exact small1000 (by omega), ?_⟩
      have sm3 : Same H (upd H2 D (.lst (xg ++ [V.ref t2]))) := same_grow (sm.trans s2) hD
      have ht3 := ht2.beside (acc' := xg ++ [V.ref t2]) hG2
      have pG3 : PlA K (upd H2 D (.lst (xg ++ [V.ref t2]))) (xg ++ [V.ref t2]) (G ++ [BD.rgap p' q']) := Paired.snoc ((pG.same s2).beside hG2) ht3
      have hG3 : upd H2 D (.lst (xg ++ [V.ref t2])) D = some (.lst (xg ++ [V.ref t2])) := upd_same
      have hB3 : upd H2 D (.lst (xg ++ [V.ref t2])) B = some (.lst xb) := by rw [upd_ne DB.symm]; exact s2 _ _ hB1
      have pB3 := (pB.same s2).beside (acc' := xg ++ [V.ref t2]) hG2
      have hy13 := (hy10.same s2).atD (acc' := xg ++ [V.ref t2]) hG2
      have hy23 := (hy20.same s2).atD (acc' := xg ++ [V.ref t2]) hG2
      generalize upd H2 D (HO.lst (xg ++ [V.ref t2])) = H3 at sm3 ht3 pG3 hG3 hB3 pB3 hy13 hy23 ⊢
      obtain ⟨a2', x2', m2, m2', ea2, ha23, hp23⟩ := id hy23
      obtain rfl := V.ref.inj ea2
      have l23 := hp23.len
      -- if len(lower) == 1: return (gaps, beads)
      refine ⟨_, rfl, a2, x2', rfl, .inl (sqL ha23), rfl, _, rfl, ite2 (fun e3 => ?_) (fun e3 => ?_)⟩
      · have em : m = 0 := by
          have := V.int.inj (of_decide_eq_true e3)
          omega
        subst em
        refine ⟨_, rfl, _, rfl, by show 2 ≤ sizeLine; decide, fun t nt => ?_⟩
        have st := same_upd (o := .tup [V.ref D, V.ref B]) nt
        have er : BD.rpeel 0 p' q' = some ([BD.rgap p' q'], []) := by
          unfold BD.rpeel
          rw [if_pos ⟨e1, e2⟩]
        rw [er] at hpe
        refine k2 _ hpe _ t D B _ _ (sm3.trans st) (.inl (.inl upd_same)) hD hB0 DB (st _ _ hG3) (pG3.same st) (st _ _ hB3) ?_
        show PlA K _ xb (Bd ++ [])
        rw [List.append_nil]
        exact pB3.same st
      · have em : m ≠ 0 := fun y => by
          refine e3 (decide_eq_true ?_)
          rw [l23, e2, y]; rfl
        obtain ⟨m, rfl⟩ : ∃ m', m = m' + 1 := ⟨m - 1, by omega⟩
        -- upper = without_gap(upper, lower, gaps[-1])
        have sg := gap_sz sp sq zq
        refine ⟨_, rfl, _, rfl, _, rfl, _, rfl, D, _, _, .ref t2, rfl, rfl, sqL hG3, atI_last, ?_⟩
        refine ⟨.ref a1, .ref a2, .ref t2, p', q', _, N, N, N + N, rfl, hy13.poA, hy23.poA, ht3, sp, sq, sg, L _ (by omega), L _ (by omega), by omega, by omega, NewP.poY hG3 hB3 fun H4 d4 s4 h4 => ?_⟩
        have h4 : PoY K H4 D B (.ref d4) (BD.rnx p' q') := h4
        have h40 := h4
        obtain ⟨a4, x4, n4, n4', ea4, ha4, hp4⟩ := h4
        obtain rfl := V.ref.inj ea4
        have l4 := hp4.len
        have ha24 := s4 _ _ ha23
        have lr := less_len p' q' (BD.rgap p' q')
        -- if len(upper) != len(lower) - 1: return None
        refine ⟨_, rfl, d4, x4, rfl, .inl (sqL ha4), _, rfl, a2, x2', rfl, .inl (sqL ha24), _, _, rfl, rfl, rfl, _, rfl, ?_⟩
        by_cases hr4 : (BD.rnx p' q').length = m + 1
        · have ef : (!decide (V.int (x4.length : Int) = V.int ((x2'.length : Int) - 1))) = false := by
            rw [decide_eq_true (by rw [l4, l23, e2, hr4]; congr 1; omega)]; rfl
          rw [ef]
          refine iteF ?_
          have r0 : BD.rnx p' q' ≠ [] := fun y => by rw [y] at hr4; simp at hr4
          have zr : BD.cf (BD.rnx p' q') ((BD.rnx p' q').length - 1) ≠ 0 := tr_last (BD.tr_rtrim _) hr4
          have ok2 := ok'.2.2 e1 e2 hr4
          obtain ⟨sr, _⟩ := ok2.sz
          have sb := bead_sz sq sr zr
          have hB4 := s4 _ _ hB3
          have hG4 := s4 _ _ hG3
          -- beads.append(opposite(divided(lower[-1], upper[-1])))
          obtain ⟨w1, iw1, hw1⟩ := (hp23.same s4).last q0
          obtain ⟨w2, iw2, hw2⟩ := hp4.last r0
          refine ⟨_, rfl, .inl ⟨rfl, _, sqL hB4⟩, _, rfl, _, rfl, a2, x2', _, w1, rfl, rfl, sqL ha24, iw1, _, rfl, _, rfl, d4, x4, _, w2, rfl, rfl, sqL ha4, iw2, ?_⟩
          refine ⟨w1, w2, _, _, rfl, hw1, hw2, (sq _).bg (L _ (by omega)), (sr _).bg (L _ (by omega)), zr, newT (K := K) fun H5 t5 s5 ht5 _ => ?_⟩
          refine ⟨.ref t5, _, rfl, ht5, newT (K := K) (r := BD.rbead q' (BD.rnx p' q')) fun H6 t6 s6 ht6 _ => ?_⟩
          have s46 := s5.trans s6
          have hB6 := s46 _ _ hB4
          refine ⟨B, xb, _, rfl, rfl, hB6, by rw [pB.len]; exact small1000 (by omega), ?_⟩
          have sm7 : Same H (upd H6 B (.lst (xb ++ [V.ref t6]))) := same_grow ((sm3.trans s4).trans s46) hB0
          have ht7 := ht6.beside (acc' := xb ++ [V.ref t6]) hB6
          have pB7 : PlA K (upd H6 B (.lst (xb ++ [V.ref t6]))) (xb ++ [V.ref t6]) (Bd ++ [BD.rbead q' (BD.rnx p' q')]) := Paired.snoc (((pB3.same s4).same s46).beside hB6) ht7
          have hB7 : upd H6 B (.lst (xb ++ [V.ref t6])) B = some (.lst (xb ++ [V.ref t6])) := upd_same
          have hG7 : upd H6 B (.lst (xb ++ [V.ref t6])) D = some (.lst (xg ++ [V.ref t2])) := by rw [upd_ne DB]; exact s46 _ _ hG4
          have pG7 := ((pG3.same s4).same s46).beside (acc' := xb ++ [V.ref t6]) hB6
          have h47 := (h40.same s46).atE (acc' := xb ++ [V.ref t6]) hB6
          have hy27 := ((hy23.same s4).same s46).atE (acc' := xb ++ [V.ref t6]) hB6
          generalize upd H6 B (HO.lst (xb ++ [V.ref t6])) = H7 at sm7 ht7 pB7 hB7 hG7 pG7 h47 hy27 ⊢
          -- lower = without_bead(upper, lower, beads[-1])
          refine ⟨_, rfl, _, rfl, _, rfl, _, rfl, B, _, _, .ref t6, rfl, rfl, sqL hB7, atI_last, ?_⟩
          refine ⟨.ref d4, .ref a2, .ref t6, BD.rnx p' q', q', _, N, N, N + N, rfl, h47.poA, hy27.poA, ht7, sr, sq, sb, L _ (by omega), L _ (by omega), by omega, by omega, NewP.poY hG7 hB7 fun H8 d8 s8 h8 => ?_⟩
          have h8 : PoY K H8 D B (.ref d8) (BD.rny p' q') := h8
          have ln := BD.rny_len e2 hr4
          refine ⟨m, by omega, .ref d4, .ref d8, _, _, _, _, BD.rnx p' q', BD.rny p' q', rfl, sm7.trans s8, s8 _ _ hG7, pG7.same s8, s8 _ _ hB7, pB7.same s8, h47.same s8, h8, by rw [List.length_append]; show G.length + 1 + m = f0; omega, by rw [List.length_append]; show Bd.length + 1 + m = f0; omega, .inl hr4, by omega, by omega, BD.tr_rtrim _, ok2, ?_⟩
          rw [hpe]
          have er : BD.rpeel (m + 1) p' q' = (BD.rpeel m (BD.rnx p' q') (BD.rny p' q')).map fun s => (BD.rgap p' q' :: s.1, BD.rbead q' (BD.rnx p' q') :: s.2) := by
            conv => lhs; unfold BD.rpeel
            rw [if_neg (by omega), if_neg (by omega)]
          rw [er]
          cases BD.rpeel m (BD.rnx p' q') (BD.rny p' q') with
          | none => rfl
          | some s =>
            show some (G ++ BD.rgap p' q' :: s.1, Bd ++ BD.rbead q' (BD.rnx p' q') :: s.2) = some (G ++ [BD.rgap p' q'] ++ s.1, Bd ++ [BD.rbead q' (BD.rnx p' q')] ++ s.2)
            rw [List.append_assoc, List.append_assoc]; rfl
        · have et : (!decide (V.int (x4.length : Int) = V.int ((x2'.length : Int) - 1))) = true := by
            rw [decide_eq_false (fun y => hr4 (by have := V.int.inj y; omega))]; rfl
          rw [et]
          refine iteT ?_
          refine k1 ?_ _ (sm3.trans s4)
          have er : BD.rpeel (m + 1) p' q' = none := by
            unfold BD.rpeel
            rw [if_neg (by omega), if_pos hr4]
          rw [hpe, er]; rfl
    · have ne : p'.length ≠ q'.length := fun y => e (decide_eq_true (by rw [l1, l2, y]))
      refine k1 ?_ _ sm
      rw [hpe, peel_no ne hlen]; rfl
end
end BP
set_option Elab.async false
set_option linter.all false
set_option maxRecDepth 100000
set_option maxHeartbeats 2000000
namespace BP
open PySem PySem.Spec PyProof.Rows L2
abbrev sFind : Stmt := topS 26
theorem scFind : FnScope ["upper", "lower", "parts", "part"] ["upper", "lower"] (defScope sFind) := ⟨rfl, rfl, rfl, by decide +kernel, rfl, by decide +kernel, by decide +kernel⟩
/-- more of the built-ins -/
structure Bui (mg : Str → Option Value) : Prop where
  min : mg "min" = none
  any : mg "any" = none
  sum : mg "sum" = none
  list : mg "list" = none
  reversed : mg "reversed" = none
theorem eq_one (x : Rat) : PyData.eqv (.tuple [.int x.num, .int ((x.den : Nat) : Int)]) (.tuple [.int 1, .int 1]) = decide (x = 1) := by
  show ((x.num == 1) && (((x.den : Nat) : Int) == 1 && true)) = decide (x = 1)
  by_cases h : x = 1
  · subst h; rfl
  · rw [decide_eq_false h]
    by_cases c1 : x.num = 1
    · have c2 : ((x.den : Nat) : Int) ≠ 1 := fun y => h (by
        have := rself x
        rw [c1, y] at this
        rw [this]; decide +kernel)
      rw [beq_eq_false_iff_ne.mpr c2]
      cases (x.num == 1) <;> rfl
    · rw [beq_eq_false_iff_ne.mpr c1]; rfl
theorem sg_lt1 (x : Rat) : BD.sg x < 1 ↔ ¬ 0 < x := by
  unfold BD.sg
  by_cases c1 : x < 0
  · rw [if_pos c1]
    constructor
    · intro _; grind
    · intro _; decide
  · rw [if_neg c1]
    by_cases c2 : 0 < x
    · rw [if_pos c2]
      constructor
      · intro y; exact absurd y (by decide)
      · intro y; exact absurd c2 y
    · rw [if_neg c2]
      constructor
      · intro _; exact c2
      · intro _; decide
theorem peel_len : ∀ {f : Nat} {p q : List Rat} {s : List Rat × List Rat}, BD.rpeel f p q = some s → s.1.length = f + 1 ∧ s.2.length = f
  | 0, p, q, s, h => by
    unfold BD.rpeel at h
    by_cases c : p.length = 1 ∧ q.length = 1
    · rw [if_pos c] at h
      obtain rfl := Option.some.inj h
      exact ⟨rfl, rfl⟩
    · rw [if_neg c] at h; cases h
  | f + 1, p, q, s, h => by
    unfold BD.rpeel at h
    by_cases c : p.length ≠ f + 2 ∨ q.length ≠ f + 2
    · rw [if_pos c] at h; cases h
    · rw [if_neg c] at h
      by_cases c2 : (BD.rnx p q).length ≠ f + 1
      · rw [if_pos c2] at h; cases h
      · rw [if_neg c2] at h
        obtain ⟨t, e1, e2⟩ := Option.map_eq_some_iff.mp h
        obtain ⟨h1, h2⟩ := peel_len e1
        subst e2
        exact ⟨by rw [List.length_cons, h1], by rw [List.length_cons, h2]⟩
section
variable {P : Program} {w : World} {K : PySem.W.Frag} {mg : Str → Option Value} {base : Heap} {z o : Addr}
def spFind (K : PySem.W.Frag) : Sp := fun vs H Q _ => ∃ (v u : V) (p q : List Rat) (N : Nat), vs = [v, u] ∧ PoA K H v p ∧ PoA K H u q ∧ p.length ≤ 5 ∧ q.length ≤ 5 ∧ PeelOk N ((BD.rtrim q).length - 1) (BD.rtrim p) (BD.rtrim q) ∧ N ≤ 200000 ∧
  (BD.rtoldAll p q = none → ∀ H', Same H H' → Q .non H') ∧ (∀ s, BD.rtoldAll p q = some s → NewTw K H s Q)
theorem ok_find {f : Addr} {fd : FuncData} (F : Fun K "find_parts" "find_parts" sFind f fd) (c : Con K mg z o) (b : Bui mg) (CT : Cal P w K mg base 1 "trimmed" ["polynomial"] (spTrimmed K)) (CP : Cal P w K mg base 44 "peeled_parts" ["upper", "lower"] (spPeeled K)) (CS : Cal P w K mg base 1 "sign" ["one"] (spSign K)) :
    FnOk P w K mg base CX0 45 f fd ["upper", "lower"] (spFind K) := by
  refine F.ok scFind (fun vs H Q E h => ?_) (fun cdv A outer s H vs Q E hr h => ?_)
  · obtain ⟨v, u, p, q, N, rfl, _⟩ := h; rfl
  · obtain ⟨v, u, p, q, N, rfl, hv, hu, lp, lq, hok, hN, k1, k2⟩ := h
    refine ⟨_, pss_cons (ps_set (i := 0) scFind.nd rfl (.inl rfl) (pe_cal CT (hr.mono (by decide)) (pa_cons (pv 0) pa_nil)))
      (pss_cons (ps_set (i := 1) scFind.nd rfl (.inl rfl) (pe_cal CT (hr.mono (by decide)) (pa_cons (pv 1) pa_nil)))
      (pss_cons (ps_if (PW.pt (pw_or (pt_cmpR op_eq (pe_callB call_len_seq (by rfl) c.len PySem.boot_len (pa_cons (pv 1) pa_nil)) pe_int (nomark _)) (pw_or1 (pt_cmpR (op_neD hr.units) (pe_ix ix_list (pv 1) pe_int (fun _ _ => rfl)) (pe_glob (v := .ref o) (by rfl) c.mo rfl) (nomark _))))) (pss_one (ps_ret pe_non)) pss_nil)
      (pss_cons (ps_set (i := 2) scFind.nd rfl (.inl rfl) (pe_cal CP hr (pa_cons (pv 0) (pa_cons (pv 1) pa_nil))))
      (pss_cons (ps_if (PW.pt (pw_or (pt_cmp (pc_isN (pv 2))) (pw_or1 (pt_cmpR op_lt (pe_callB (cr_min rfl) (by rfl) b.min (by decide +kernel) (pa_cons
          (pe_lc (own := [("part", 3)]) (g := gName 3) (tt := tYes) rfl scFind.nd (pi_list (pe_op op_cat (pe_ix ix_tup (pv 2) pe_int (fun _ _ => rfl)) (pe_ix ix_tup (pv 2) pe_int (fun _ _ => rfl)))) (blkOk_by (own := [("part", 3)]) (N := ["upper", "lower", "parts", "part"]) (sc := defScope sFind) (by decide +kernel))
            (fun _ _ _ _ _ => pg_name (i := 3) scFind.nd rfl (Or.inl rfl)) (fun _ _ _ _ _ => pts_nil)
            (fun _ _ _ _ _ => pe_cal CS (hr.mono (by decide)) (pa_cons (pv 3) pa_nil))) pa_nil)) pe_int (nomark _))))) (pss_one (ps_ret pe_non)) pss_nil)
      (pss_one (ps_ret (pv 2))))))), ?_⟩
    have lq1 := BD.rtrim_le q
    have lp1 := BD.rtrim_le p
    refine ⟨_, rfl, v, p, rfl, hv, by omega, NewP.poA fun H1 d1 s1 h1 => ?_⟩
    refine ⟨_, rfl, u, q, rfl, hu.same s1, by omega, NewP.poA fun H2 d2 s2 h2 => ?_⟩
    have s12 := s1.trans s2
    have h12 := h1.same s2
    obtain ⟨a2, x2, e2, ha2, hp2⟩ := id h2
    obtain rfl := V.ref.inj e2
    have l2 := hp2.len
    refine ⟨_, rfl, d2, x2, rfl, .inl (sqL ha2), rfl, _, rfl, ?_⟩
    by_cases c0 : (BD.rtrim q).length = 0
    · rw [decide_eq_true (show V.int (x2.length : Int) = V.int 0 by rw [l2, c0]; rfl)]
      refine iteT ?_
      refine iteT ?_
      refine k1 (BD.toldAll_no ?_) _ s12
      rw [BD.cf_low (by omega)]; decide
    · rw [decide_eq_false (show ¬ V.int (x2.length : Int) = V.int 0 from fun y => c0 (by have := V.int.inj y; omega))]
      refine iteF ?_
      obtain ⟨w0, hw0, hrw⟩ := hp2.get (k := 0) (by omega)
      obtain ⟨t0, rfl, ht0⟩ := hrw
      refine ⟨_, rfl, d2, x2, _, .ref t0, rfl, rfl, sqL ha2, atI_nat (j := 0) hw0, .tuple [.int (BD.cf (BD.rtrim q) 0).num, .int (((BD.cf (BD.rtrim q) 0).den : Nat) : Int)], .tuple [.int 1, .int 1], .tup ht0 (.cons (.int _) (.cons (.int _) .nil)), .tup (c.so _) (.cons (.int _) (.cons (.int _) .nil)), rfl, rfl, _, rfl, ?_⟩
      rw [eq_one]
      by_cases c1 : BD.cf (BD.rtrim q) 0 = 1
      · rw [decide_eq_true c1]
        refine iteF ?_
        have hT := BD.toldAll_peel (p := p) c1
        refine ⟨_, rfl, _, rfl, .ref d1, .ref d2, BD.rtrim p, BD.rtrim q, (BD.rtrim q).length - 1, N, rfl, h12, h2, by omega, BD.tr_rtrim q, by omega, by omega, hok, hN, fun hn H3 s3 => ?_, fun r hs H3 t g d xs ys s3 ht hg hd ne hxs pxs hys pys => ?_⟩
        · refine ⟨_, rfl, _, rfl, ?_⟩
          rw [decide_eq_true rfl]
          refine iteT ?_
          refine iteT ?_
          refine k1 ?_ _ (s12.trans s3)
          rw [hT, hn]; rfl
        · refine ⟨_, rfl, _, rfl, ?_⟩
          rw [decide_eq_false (by intro y; cases y)]
          refine iteF ?_
          obtain ⟨lr1, lr2⟩ := peel_len hs
          have lx := pxs.len
          have ly := pys.len
          refine ⟨_, rfl, t, _, _, _, rfl, rfl, ht, rfl, _, rfl, t, _, _, _, rfl, rfl, ht, rfl, g, d, xs, ys, rfl, rfl, hxs, hys, by rw [lx, ly]; exact Nat.le_trans (show _ ≤ 1000 by omega) (by decide), fun l nl => ?_⟩
          have s4 := same_upd (o := .lst (xs ++ ys)) nl
          have hl4 : upd H3 l (.lst (xs ++ ys)) l = some (.lst (xs ++ ys)) := upd_same
          have p4 := (PlA.app pxs pys).same s4
          generalize upd H3 l (HO.lst (xs ++ ys)) = H4 at s4 hl4 p4 ⊢
          refine ⟨l, rfl, ⟨_, sqL hl4⟩, fun D hD => ?_⟩
          refine lc_list (K := K) (a := l) (xs := xs ++ ys) (fun i H' => Same H4 H' ∧ H' D = some (.lst ((((r.1 ++ r.2).take i).map BD.sg).map V.int))) ⟨same_upd hD, upd_same⟩ (fun i H' _ hPv => sqL (hPv.1 _ _ hl4)) (fun i x H' hx hPv => ?_) (fun H' hPv => ?_)
          · obtain ⟨sm, hacc⟩ := hPv
            obtain ⟨hi, hrx⟩ := p4.at hx
            refine ⟨rfl, yes ?_⟩
            refine ⟨_, rfl, x, _, rfl, hrx.same sm, _, hacc, ?_, same_grow sm hD, ?_⟩
            · rw [List.length_map, List.length_map, List.length_take, List.length_append]
              exact small1000 (by omega)
            · rw [upd_same, take_more hi, List.map_append, List.map_append]; rfl
          · obtain ⟨sm, hacc⟩ := hPv
            rw [List.take_of_length_le (by rw [List.length_append, List.length_append]; omega)] at hacc
            have st := (s12.trans s3).trans (s4.trans sm)
            refine ⟨D, (r.1 ++ r.2).map BD.sg, rfl, sqL hacc, by rw [List.length_map, List.length_append]; omega, fun m hm hmin => ?_⟩
            refine ⟨_, _, rfl, rfl, _, rfl, ?_⟩
            by_cases hpos : BD.AllPos r
            · have hm1 : ¬ m < 1 := by
                obtain ⟨x, hx, rfl⟩ := List.mem_map.mp hm
                rw [sg_lt1]
                exact fun y => y (hpos x hx)
              rw [decide_eq_false hm1]
              refine iteF ?_
              have hT2 : BD.rtoldAll p q = some r := by
                rw [hT, hs]
                show (if BD.AllPos r then some r else none) = _
                rw [if_pos hpos]
              exact ⟨_, rfl, k2 r hT2 H' t g d xs ys st (seqT (s4.trans sm) ht) (s12.free hg) (s12.free hd) ne ((s4.trans sm) _ _ hxs) (pxs.same (s4.trans sm)) ((s4.trans sm) _ _ hys) (pys.same (s4.trans sm))⟩
            · have hm1 : m < 1 := by
                by_cases y : m < 1
                · exact y
                · exfalso
                  refine hpos fun x hx => ?_
                  have := hmin (BD.sg x) (List.mem_map.mpr ⟨x, hx, rfl⟩)
                  by_cases y2 : 0 < x
                  · exact y2
                  · have := (sg_lt1 x).mpr y2
                    omega
              rw [decide_eq_true hm1]
              refine iteT ?_
              refine k1 ?_ _ st
              rw [hT, hs]
              show (if BD.AllPos r then some r else none) = _
              rw [if_neg hpos]
      · rw [decide_eq_false c1]
        refine iteT ?_
        exact k1 (BD.toldAll_no c1) _ s12
end
end BP
set_option Elab.async false
set_option linter.all false
set_option maxRecDepth 100000
set_option maxHeartbeats 2000000
namespace BP
open PySem PySem.Spec PyProof.Rows L2
abbrev sIsRow : Stmt := topS 50
abbrev sGreat : Stmt := topS 51
abbrev sRead : Stmt := topS 52
theorem scIsRow : FnScope ["row"] ["row"] (defScope sIsRow) := ⟨rfl, rfl, rfl, by decide +kernel, rfl, by decide +kernel, by decide +kernel⟩
theorem scGreat : FnScope ["part"] ["part"] (defScope sGreat) := ⟨rfl, rfl, rfl, by decide +kernel, rfl, by decide +kernel, by decide +kernel⟩
theorem scRead : FnScope ["e", "upper", "lower", "parts", "number"] ["e", "upper", "lower"] (defScope sRead) := ⟨rfl, rfl, rfl, by decide +kernel, rfl, by decide +kernel, by decide +kernel⟩
/-- more of the module's whole numbers -/
structure Nms2 (mg : Str → Option Value) : Prop where
  cannot : ∃ t, mg "CANNOT_BE" = some (.int (-33) t)
  great : ∃ t, mg "TOO_GREAT" = some (.int (-75) t)
  means : ∃ t, mg "MOST_MEANS" = some (.int 12 t)
/-! ### sizes of what is handed in -/
theorem byE_sz {e : Int} (he : 1 ≤ e) (he2 : BD.Inn e) {ps : List Int} (hp : ∀ x ∈ ps, BD.Inn x) : SzP 32 (BD.byE e ps) := fun k => by
  by_cases c : k < ps.length
  · have e1 : BD.cf (BD.byE e ps) k = (ps[k] : Rat) / (e : Rat) := by
      unfold BD.cf BD.byE
      rw [List.getD_eq_getElem?_getD, List.getElem?_map, List.getElem?_eq_getElem c]; rfl
    rw [e1]
    have l := low_le (x := ps[k]) (y := e) (by omega)
    have h1 := hp _ (List.getElem_mem c)
    have h2 := he2
    unfold BD.Inn at h1 h2
    exact ⟨Nat.lt_of_le_of_lt l.1 (by show _ < 4294967296; omega), Nat.lt_of_le_of_lt l.2 (by show _ < 4294967296; omega)⟩
  · rw [BD.cf_low (by unfold BD.byE; rw [List.length_map]; omega)]
    exact sz_zero 32 (by decide)
theorem pb_row (f : Nat) (h : f ≤ 4) : pb f 32 32 ≤ 200000 := by
  match f, h with
  | 0, _ => decide
  | 1, _ => decide
  | 2, _ => decide
  | 3, _ => decide
  | 4, _ => decide
theorem byE_len (e : Int) (ps : List Int) : (BD.byE e ps).length = ps.length := List.length_map ..
section
variable {P : Program} {w : World} {K : PySem.W.Frag} {mg : Str → Option Value} {base : Heap} {z o : Addr}
def spIsRow : Sp := fun vs H Q _ => ∃ (a : Addr) (ns : List Int), vs = [.ref a] ∧ H a = some (.lst (ns.map V.int)) ∧ Q (.bl (decide (1 ≤ ns.length ∧ ns.length ≤ 5))) H
theorem ok_isRow {f : Addr} {fd : FuncData} {k : Nat} (F : Fun K "is_row" "is_row" sIsRow f fd) (c : Con K mg z o) (N : Nms mg) (C1 : Cal P w K mg base 1 "lies_within" ["number", "least", "most"] spLies) : FnOk P w K mg base CX0 (k + 2) f fd ["row"] spIsRow := by
  refine F.ok scIsRow (fun vs H Q E h => ?_) (fun cdv A outer s H vs Q E hr h => ?_)
  · obtain ⟨a, ns, rfl, _⟩ := h; rfl
  · obtain ⟨a, ns, rfl, ha, q⟩ := h
    refine ⟨_, pss_one (ps_ret (pe_cal C1 (hr.mono (by omega)) (pa_cons (pe_callB call_len_seq (by rfl) c.len PySem.boot_len (pa_cons (pv 0) pa_nil)) (pa_cons pe_int (pa_cons (pe_op op_add (pe_num N.beads) pe_int) pa_nil))))), ?_⟩
    refine ⟨_, rfl, a, _, rfl, .inl (sqL ha), _, _, rfl, rfl, _, _, _, rfl, ?_⟩
    have e : decide ((1 : Int) ≤ ((ns.map V.int).length : Int) ∧ ((ns.map V.int).length : Int) ≤ 4 + 1) = decide (1 ≤ ns.length ∧ ns.length ≤ 5) := decide_eq_decide.mpr (by rw [List.length_map]; omega)
    show Q (.bl (decide ((1 : Int) ≤ ((ns.map V.int).length : Int) ∧ ((ns.map V.int).length : Int) ≤ 4 + 1))) H
    rw [e]
    exact q
def great (x : Rat) : Bool := decide ((10 : Int) ^ 60 ≤ if ((x.den : Nat) : Int) > x.num then ((x.den : Nat) : Int) else x.num)
def spGreat (K : PySem.W.Frag) : Sp := fun vs H Q _ => ∃ (v : V) (x : Rat), vs = [v] ∧ RtA K H v x ∧ Q (.bl (great x)) H
theorem ok_great {f : Addr} {fd : FuncData} {k : Nat} (F : Fun K "is_too_great" "is_too_great" sGreat f fd) (c : Con K mg z o) : FnOk P w K mg base CX0 (k + 1) f fd ["part"] (spGreat K) := by
  refine F.ok scGreat (fun vs H Q E h => ?_) (fun cdv A outer s H vs Q E hr h => ?_)
  · obtain ⟨v, x, rfl, _⟩ := h; rfl
  · obtain ⟨v, x, rfl, ⟨a, rfl, ha⟩, q⟩ := h
    refine ⟨_, pss_one (ps_ret (pe_cmpR op_ge (pe_callB (call_max2 rfl) (by rfl) c.max (by decide +kernel) (pa_cons (pe_ix ix_tup (pv 0) pe_int (fun _ _ => rfl)) (pa_cons (pe_ix ix_tup (pv 0) pe_int (fun _ _ => rfl)) pa_nil))) (pe_op op_pow pe_int pe_int) (nomark _))), ?_⟩
    refine ⟨_, rfl, a, _, _, _, rfl, rfl, ha, rfl, _, rfl, a, _, _, _, rfl, rfl, ha, rfl, _, _, rfl, _, _, rfl, rfl, ⟨by decide, by decide, by decide⟩, _, _, rfl, rfl, ?_⟩
    exact q
/-! ### read_answer -/
def spRead (K : PySem.W.Frag) : Sp := fun vs H Q _ => ∃ (e : Int) (a b : Addr) (ps qs : List Int), vs = [.int e, .ref a, .ref b] ∧ H a = some (.lst (ps.map V.int)) ∧ H b = some (.lst (qs.map V.int)) ∧ BD.Inn e ∧ (∀ x ∈ ps, BD.Inn x) ∧ (∀ x ∈ qs, BD.Inn x) ∧
  (¬ BD.okRows e ps qs → ∀ (H' : Hp) (t : Addr), Same H H' → SqT K H' t [.int (-22), .non] → Q (.ref t) H') ∧
  (BD.okRows e ps qs → BD.rtoldAll (BD.byE e ps) (BD.byE e qs) = none → ∀ (H' : Hp) (t : Addr), Same H H' → SqT K H' t [.int (-33), .non] → Q (.ref t) H') ∧
  (BD.okRows e ps qs → ∀ s, BD.rtoldAll (BD.byE e ps) (BD.byE e qs) = some s → NewTw K H s fun v H1 => ∀ (H' : Hp) (t : Addr), Same H1 H' → SqT K H' t [.non, v] → Q (.ref t) H')
theorem ok_read {f : Addr} {fd : FuncData} (F : Fun K "read_answer" "read_answer" sRead f fd) (N : Nms mg) (N2 : Nms2 mg) (CR : Cal P w K mg base 2 "is_row" ["row"] spIsRow) (CL : Cal P w K mg base 40 "lowest" ["above", "below"] spLowest) (CF : Cal P w K mg base 45 "find_parts" ["upper", "lower"] (spFind K)) :
    FnOk P w K mg base CX0 46 f fd ["e", "upper", "lower"] (spRead K) := by
  refine F.ok scRead (fun vs H Q E h => ?_) (fun cdv A outer s H vs Q E hr h => ?_)
  · obtain ⟨e, a, b, ps, qs, rfl, _⟩ := h; rfl
  · obtain ⟨e, a, b, ps, qs, rfl, ha, hb, ie, ip, iq, k1, k2, k3⟩ := h
    refine ⟨_, pss_cons (ps_if (PW.pt (pw_or (pt_cmpR op_lt (pv 0) pe_int (nomark _)) (pw_or1 (pt_not (PW.pt (pw_and (pt_val (pe_cal CR (hr.mono (by decide)) (pa_cons (pv 1) pa_nil))) (pw_and1 (pt_val (pe_cal CR (hr.mono (by decide)) (pa_cons (pv 2) pa_nil)))))))))) (pss_one (ps_ret (pe_tup (pa_cons (pe_num N.nlet) (pa_cons pe_non pa_nil))))) pss_nil)
      (pss_cons (ps_set (i := 3) scRead.nd rfl (.inl rfl) (pe_cal CF hr (pa_cons
          (pe_lc (own := [("number", 4)]) (g := gName 4) (tt := tYes) rfl scRead.nd (pi_list (pv 1)) (blkOk_by (own := [("number", 4)]) (N := ["e", "upper", "lower", "parts", "number"]) (sc := defScope sRead) (by decide +kernel))
            (fun _ _ _ _ _ => pg_name (i := 4) scRead.nd rfl (Or.inl rfl)) (fun _ _ _ _ _ => pts_nil)
            (fun _ _ _ _ _ => pe_cal CL (hr.mono (by decide)) (pa_cons (pv 4) (pa_cons (pv 0) pa_nil))))
          (pa_cons (pe_lc (own := [("number", 4)]) (g := gName 4) (tt := tYes) rfl scRead.nd (pi_list (pv 2)) (blkOk_by (own := [("number", 4)]) (N := ["e", "upper", "lower", "parts", "number"]) (sc := defScope sRead) (by decide +kernel))
            (fun _ _ _ _ _ => pg_name (i := 4) scRead.nd rfl (Or.inl rfl)) (fun _ _ _ _ _ => pts_nil)
            (fun _ _ _ _ _ => pe_cal CL (hr.mono (by decide)) (pa_cons (pv 4) (pa_cons (pv 0) pa_nil)))) pa_nil))))
      (pss_cons (ps_if (pt_cmp (pc_isN (pv 3))) (pss_one (ps_ret (pe_tup (pa_cons (pe_num N2.cannot) (pa_cons pe_non pa_nil))))) pss_nil)
      (pss_one (ps_ret (pe_tup (pa_cons pe_non (pa_cons (pv 3) pa_nil))))))), ?_⟩
    have out22 : ∀ {D : Ends} {σ : L2.St}, D.rt = Q → ¬ BD.okRows e ps qs → ∀ t, H t = none → D.rt (.ref t) (upd H t (.tup [.int (-22), .non])) := fun hD hn t nt => by
      rw [hD]
      exact k1 hn _ t (same_upd nt) (.inl (.inl upd_same))
    refine ⟨_, rfl, _, _, rfl, rfl, _, rfl, ?_⟩
    by_cases he : e < 1
    · rw [decide_eq_true he]
      refine iteT ?_
      refine iteT ?_
      exact ⟨by show 2 ≤ sizeLine; decide, fun t nt => k1 (fun y => by have := y.1; omega) _ t (same_upd nt) (.inl (.inl upd_same))⟩
    · rw [decide_eq_false he]
      refine iteF ?_
      refine ⟨_, rfl, a, ps, rfl, ha, _, rfl, ?_⟩
      by_cases hp : 1 ≤ ps.length ∧ ps.length ≤ 5
      · rw [decide_eq_true hp]
        refine iteT ?_
        refine ⟨_, rfl, b, qs, rfl, hb, _, rfl, ?_⟩
        by_cases hq : 1 ≤ qs.length ∧ qs.length ≤ 5
        · rw [decide_eq_true hq]
          refine iteF ?_
          have ok : BD.okRows e ps qs := ⟨by omega, hp, hq⟩
          have hE : 1 ≤ e := by omega
          -- the two rows, each number by e
          have row : ∀ {H0 : Hp} {D : Addr} {ns : List Int} {i : Nat} {H' : Hp}, Same H0 H' → H0 D = none → ns.length ≤ 5 → ∀ {acc : List V}, H' D = some (.lst acc) → PlA K H' acc ((BD.byE e ns).take i) → ∀ {s : Int}, ns[i]? = some s → ∀ {H4 : Hp} {t : Addr}, Same H' H4 → RtA K H4 (.ref t) ((s : Rat) / (e : Rat)) →
              ∃ acc2, H4 D = some (.lst acc2) ∧ acc2.length < sizeLine ∧ Same H0 (upd H4 D (.lst (acc2 ++ [V.ref t]))) ∧ ∃ acc3, upd H4 D (.lst (acc2 ++ [V.ref t])) D = some (.lst acc3) ∧ PlA K (upd H4 D (.lst (acc2 ++ [V.ref t]))) acc3 ((BD.byE e ns).take (i + 1)) := by
            intro H0 D ns i H' sm hD ln acc hacc hpl s hs H4 t s4 ht
            have hacc4 := s4 _ _ hacc
            have hx : (BD.byE e ns)[i]? = some ((s : Rat) / (e : Rat)) := by
              unfold BD.byE
              rw [List.getElem?_map, hs]; rfl
            refine ⟨acc, hacc4, ?_, same_grow (sm.trans s4) hD, acc ++ [V.ref t], upd_same, ?_⟩
            · rw [hpl.len, List.length_take, byE_len]
              exact small1000 (by omega)
            · rw [take_more hx]
              exact Paired.snoc ((hpl.same s4).beside hacc4) (ht.beside hacc4)
          refine ⟨_, rfl, a, rfl, ⟨_, sqL ha⟩, fun D hD => ?_⟩
          refine lc_list (K := K) (a := a) (xs := ps.map V.int) (fun i H' => Same H H' ∧ ∃ acc, H' D = some (.lst acc) ∧ PlA K H' acc ((BD.byE e ps).take i)) ⟨same_upd hD, [], upd_same, .nil⟩ (fun i H' _ hPv => sqL (hPv.1 _ _ ha)) (fun i x H' hx hPv => ?_) (fun H1 hPv => ?_)
          · obtain ⟨sm, acc, hacc, hpl⟩ := hPv
            obtain ⟨s, hs, rfl⟩ := map_at hx
            refine ⟨rfl, yes ?_⟩
            refine ⟨_, rfl, _, rfl, s, e, rfl, by omega, newT (K := K) fun H4 t s4 ht _ => ?_⟩
            exact row sm hD hp.2 hacc hpl hs s4 ht
          obtain ⟨s1, acc1, hD1, hpl1⟩ := hPv
          rw [List.take_of_length_le (by rw [byE_len, List.length_map]; exact Nat.le_refl _)] at hpl1
          refine ⟨_, rfl, b, rfl, ⟨_, sqL (s1 _ _ hb)⟩, fun D2 hD2 => ?_⟩
          refine lc_list (K := K) (a := b) (xs := qs.map V.int) (fun i H' => Same H1 H' ∧ ∃ acc, H' D2 = some (.lst acc) ∧ PlA K H' acc ((BD.byE e qs).take i)) ⟨same_upd hD2, [], upd_same, .nil⟩ (fun i H' _ hPv => sqL (hPv.1 _ _ (s1 _ _ hb))) (fun i x H' hx hPv => ?_) (fun H2 hPv => ?_)
          · obtain ⟨sm, acc, hacc, hpl⟩ := hPv
            obtain ⟨s, hs, rfl⟩ := map_at hx
            refine ⟨rfl, yes ?_⟩
            refine ⟨_, rfl, _, rfl, s, e, rfl, by omega, newT (K := K) fun H4 t s4 ht _ => ?_⟩
            exact row sm hD2 hq.2 hacc hpl hs s4 ht
          obtain ⟨s2, acc2, hD22, hpl2⟩ := hPv
          rw [List.take_of_length_le (by rw [byE_len, List.length_map]; exact Nat.le_refl _)] at hpl2
          have s12 := s1.trans s2
          have lt := BD.rtrim_le (BD.byE e qs)
          rw [byE_len] at lt
          refine ⟨.ref D, .ref D2, BD.byE e ps, BD.byE e qs, 200000, rfl, ⟨D, acc1, rfl, s2 _ _ hD1, hpl1.same s2⟩, ⟨D2, acc2, rfl, hD22, hpl2⟩, by rw [byE_len]; omega, by rw [byE_len]; omega,
            peelOk_of (n := 32) (m := 32) (byE_sz hE ie ip).trim (byE_sz hE ie iq).trim (BD.tr_rtrim _) (pb_row _ (by omega)), Nat.le_refl _, fun hn H3 s3 => ?_, fun r hs H3 t2 g d xs ys s3 ht2 hg hd ne hxs pxs hys pys => ?_⟩
          · refine ⟨_, rfl, _, rfl, ?_⟩
            rw [decide_eq_true rfl]
            refine iteT ?_
            exact ⟨by show 2 ≤ sizeLine; decide, fun t nt => k2 ok hn _ t ((s12.trans s3).trans (same_upd nt)) (.inl (.inl upd_same))⟩
          · refine ⟨_, rfl, _, rfl, ?_⟩
            rw [decide_eq_false (by intro y; cases y)]
            refine iteF ?_
            refine ⟨_, rfl, by show 2 ≤ sizeLine; decide, fun t nt => ?_⟩
            exact k3 ok r hs H3 t2 g d xs ys (s12.trans s3) ht2 (s12.free hg) (s12.free hd) ne hxs pxs hys pys _ t (same_upd nt) (.inl (.inl upd_same))
        · rw [decide_eq_false hq]
          refine iteT ?_
          exact ⟨by show 2 ≤ sizeLine; decide, fun t nt => k1 (fun y => hq y.2.2) _ t (same_upd nt) (.inl (.inl upd_same))⟩
      · rw [decide_eq_false hp]
        refine iteF ?_
        refine iteT ?_
        exact ⟨by show 2 ≤ sizeLine; decide, fun t nt => k1 (fun y => hp y.2.1) _ t (same_upd nt) (.inl (.inl upd_same))⟩
end
end BP
set_option Elab.async false
set_option linter.all false
set_option maxRecDepth 100000
set_option maxHeartbeats 2000000
namespace BP
open PySem PySem.Spec PyProof.Rows L2
abbrev mToldM : Stmt := inClass sStrand 10
abbrev mTake : Stmt := inClass sStrand 11
abbrev mFound : Stmt := inClass sStrand 12
theorem scToldM : FnScope ["self", "e", "upper", "lower", "outcome"] ["self", "e", "upper", "lower"] (defScope mToldM) := ⟨rfl, rfl, rfl, by decide +kernel, rfl, by decide +kernel, by decide +kernel⟩
theorem scTake : FnScope ["self", "e", "upper", "lower", "outcome", "parts", "part"] ["self", "e", "upper", "lower"] (defScope mTake) := ⟨rfl, rfl, rfl, by decide +kernel, rfl, by decide +kernel, by decide +kernel⟩
theorem scFound : FnScope ["self", "both", "parts"] ["self"] (defScope mFound) := ⟨rfl, rfl, rfl, by decide +kernel, rfl, by decide +kernel, by decide +kernel⟩
/-! ### great numbers -/
theorem great_iff {x : Rat} (h : 0 < x) : great x = false ↔ x.num.natAbs < 10 ^ 60 ∧ x.den < 10 ^ 60 := by
  have h1 : 0 < x.num := BD.num_pos.mpr h
  unfold great
  rw [decide_eq_false_iff_not]
  have e : (10 : Int) ^ 60 = ((10 ^ 60 : Nat) : Int) := by decide +kernel
  rw [e]
  generalize (10 ^ 60 : Nat) = N
  split <;> omega
theorem any_great {s : List Rat × List Rat} (h1 : ∀ x ∈ s.1, 0 < x) (h2 : ∀ x ∈ s.2, 0 < x) : ((s.1 ++ s.2).map great).any id = false ↔ BD.rsmall s := by
  unfold BD.rsmall
  rw [List.any_eq_false]
  constructor
  · intro h x hx
    refine (great_iff ?_).mp ?_
    · rcases List.mem_append.mp hx with y | y
      · exact h1 x y
      · exact h2 x y
    · have := h (great x) (List.mem_map.mpr ⟨x, hx, rfl⟩)
      cases e : great x with
      | false => rfl
      | true => exact absurd (by rw [e]; rfl) this
  · intro h y hy
    obtain ⟨x, hx, rfl⟩ := List.mem_map.mp hy
    rw [(great_iff (by
      rcases List.mem_append.mp hx with y | y
      · exact h1 x y
      · exact h2 x y)).mpr (h x hx)]
    decide
/-! ### a string's own polynomials, peeled -/
theorem peelOk_str {N : Nat} : ∀ (bs ls : List Rat), ls.length = bs.length + 1 → (∀ x ∈ ls, 0 < x) → (∀ x ∈ bs, 0 < x) → (∀ i, i ≤ bs.length → SzP N (BD.rans (ls.drop i) (bs.drop i)).1 ∧ SzP N (BD.rans (ls.drop i) (bs.drop i)).2) → PeelOk N bs.length (BD.rans ls bs).1 (BD.rans ls bs).2
  | [], [l], h, hl, hb, hs => hs 0 (Nat.le_refl _)
  | b :: bs, l :: m :: ls, h, hl, hb, hs => by
    obtain ⟨g1, g2, g3⟩ := BD.peel_str h hl hb
    refine ⟨(hs 0 (Nat.zero_le _)).1, (hs 0 (Nat.zero_le _)).2, fun _ _ _ => ?_⟩
    rw [g2, g3]
    refine peelOk_str bs (m :: ls) (by simpa using h) (fun x hx => hl x (List.mem_cons_of_mem _ hx)) (fun x hx => hb x (List.mem_cons_of_mem _ hx)) fun i hi => ?_
    have := hs (i + 1) (by rw [List.length_cons]; omega)
    exact this
theorem Good.peel {ls bs : List Rat} (g : Good ls bs) : PeelOk 17800 bs.length (BD.rans ls bs).1 (BD.rans ls bs).2 :=
  peelOk_str bs ls g.len g.lp g.bp fun i hi => by
    rcases g.tail i with q | q
    · exact q
    · omega
section
variable {P : Program} {w : World} {K : PySem.W.Frag} {mg : Str → Option Value} {base : Heap} {z o C : Addr}
def spToldM (K : PySem.W.Frag) : Sp := fun vs H Q _ => ∃ (v : V) (e : Int) (a b : Addr) (ps qs : List Int), vs = [v, .int e, .ref a, .ref b] ∧ H a = some (.lst (ps.map V.int)) ∧ H b = some (.lst (qs.map V.int)) ∧ BD.Inn e ∧ (∀ x ∈ ps, BD.Inn x) ∧ (∀ x ∈ qs, BD.Inn x) ∧
  (¬ BD.okRows e ps qs → NewL H [-22] Q) ∧ (BD.okRows e ps qs → BD.rtoldAll (BD.byE e ps) (BD.byE e qs) = none → NewL H [-33] Q) ∧
  (BD.okRows e ps qs → ∀ s, BD.rtoldAll (BD.byE e ps) (BD.byE e qs) = some s → NewL H ((s.2.length : Int) :: BD.nums (s.1 ++ s.2)) Q)
theorem ok_toldM {f : Addr} {fd : FuncData} (F : Fun K "told" "Strand.told" mToldM f fd) (CR : Cal P w K mg base 46 "read_answer" ["e", "upper", "lower"] (spRead K)) (CT : Cal P w K mg base 2 "told_parts" ["gaps", "beads"] (spToldParts K)) :
    FnOk P w K mg base CX0 47 f fd ["self", "e", "upper", "lower"] (spToldM K) := by
  refine F.ok scToldM (fun vs H Q E h => ?_) (fun cdv A outer s H vs Q E hr h => ?_)
  · obtain ⟨v, e, a, b, ps, qs, rfl, _⟩ := h; rfl
  · obtain ⟨v, e, a, b, ps, qs, rfl, ha, hb, ie, ip, iq, k1, k2, k3⟩ := h
    refine ⟨_, pss_cons (ps_set (i := 4) scToldM.nd rfl (.inl rfl) (pe_cal CR hr (pa_cons (pv 1) (pa_cons (pv 2) (pa_cons (pv 3) pa_nil)))))
      (pss_cons (ps_if (pt_cmp (pc_notN (pe_ix ix_tup (pv 4) pe_int (fun _ _ => rfl)))) (pss_one (ps_ret (pe_lst (pa_cons (pe_ix ix_tup (pv 4) pe_int (fun _ _ => rfl)) pa_nil)))) pss_nil)
      (pss_one (ps_ret (pe_cal CT (hr.mono (by decide)) (pa_cons (pe_ix ix_tup (pe_ix ix_tup (pv 4) pe_int (fun _ _ => rfl)) pe_int (fun _ _ => rfl)) (pa_cons (pe_ix ix_tup (pe_ix ix_tup (pv 4) pe_int (fun _ _ => rfl)) pe_int (fun _ _ => rfl)) pa_nil)))))), ?_⟩
    refine ⟨_, rfl, _, rfl, _, rfl, e, a, b, ps, qs, rfl, ha, hb, ie, ip, iq, fun hn H1 t s1 ht => ?_, fun ho hn H1 t s1 ht => ?_, fun ho r hs H1 t2 g d xs ys s1 ht2 hg hd ne hxs pxs hys pys H2 t s2 ht => ?_⟩
    · refine ⟨_, rfl, t, _, _, _, rfl, rfl, ht, rfl, _, rfl, ?_⟩
      rw [decide_eq_false (by intro y; cases y)]
      refine iteT ?_
      exact ⟨_, rfl, t, _, _, _, rfl, rfl, ht, rfl, by show 1 ≤ sizeLine; decide, fun p hp => newL_one ((k1 hn).mono s1) p hp⟩
    · refine ⟨_, rfl, t, _, _, _, rfl, rfl, ht, rfl, _, rfl, ?_⟩
      rw [decide_eq_false (by intro y; cases y)]
      refine iteT ?_
      exact ⟨_, rfl, t, _, _, _, rfl, rfl, ht, rfl, by show 1 ≤ sizeLine; decide, fun p hp => newL_one ((k2 ho hn).mono s1) p hp⟩
    · refine ⟨_, rfl, t, _, _, _, rfl, rfl, ht, rfl, _, rfl, ?_⟩
      rw [decide_eq_true rfl]
      refine iteF ?_
      have ht22 := seqT s2 ht2
      obtain ⟨l1, l2, _, _⟩ := BD.told_lens hs
      rw [byE_len] at l2
      have := ho.2.2.2
      refine ⟨_, rfl, t, _, _, _, rfl, rfl, ht, rfl, t2, _, _, _, rfl, rfl, ht22, rfl, _, rfl, t, _, _, _, rfl, rfl, ht, rfl, t2, _, _, _, rfl, rfl, ht22, rfl, ?_⟩
      exact ⟨.ref g, .ref d, r.1, r.2, rfl, ⟨g, xs, rfl, s2 _ _ hxs, pxs.same s2⟩, ⟨d, ys, rfl, s2 _ _ hys, pys.same s2⟩, by omega, by omega, (k3 ho r hs).mono (s1.trans s2)⟩
/-! ### take -/
def spTake (K : PySem.W.Frag) (C : Addr) : Sp := fun vs H Q _ => ∃ (a g d : Addr) (bg : Bool) (ls bs : List Rat) (e : Int) (u l : Addr) (ps qs : List Int), vs = [.ref a, .int e, .ref u, .ref l] ∧ StA K C H a g d bg ls bs ∧ H u = some (.lst (ps.map V.int)) ∧ H l = some (.lst (qs.map V.int)) ∧ BD.Inn e ∧ (∀ x ∈ ps, BD.Inn x) ∧ (∀ x ∈ qs, BD.Inn x) ∧
  (¬ BD.okRows e ps qs → After K C H a g d bg ls bs [-22] Q) ∧ (BD.okRows e ps qs → BD.rtoldAll (BD.byE e ps) (BD.byE e qs) = none → After K C H a g d bg ls bs [-33] Q) ∧
  (BD.okRows e ps qs → ∀ s, BD.rtoldAll (BD.byE e ps) (BD.byE e qs) = some s → ¬ BD.rsmall s → After K C H a g d bg ls bs [-75] Q) ∧
  (BD.okRows e ps qs → ∀ s, BD.rtoldAll (BD.byE e ps) (BD.byE e qs) = some s → BD.rsmall s → After K C H a g d bg s.1 s.2 [(s.2.length : Int)] Q)
theorem ok_take {f : Addr} {fd : FuncData} (F : Fun K "take" "Strand.take" mTake f fd) (T : Txt K C) (c : Con K mg z o) (b : Bui mg) (N2 : Nms2 mg) (CR : Cal P w K mg base 46 "read_answer" ["e", "upper", "lower"] (spRead K)) (CG : Cal P w K mg base 1 "is_too_great" ["part"] (spGreat K)) :
    FnOk P w K mg base CX0 47 f fd ["self", "e", "upper", "lower"] (spTake K C) := by
  refine F.ok scTake (fun vs H Q E h => ?_) (fun cdv A outer s H vs Q E hr h => ?_)
  · obtain ⟨a, g, d, bg, ls, bs, e, u, l, ps, qs, rfl, _⟩ := h; rfl
  · obtain ⟨a, g, d, bg, ls, bs, e, u, l, ps, qs, rfl, hS, ha, hb, ie, ip, iq, k1, k2, k3, k4⟩ := h
    refine ⟨_, pss_cons (ps_set (i := 4) scTake.nd rfl (.inl rfl) (pe_cal CR hr (pa_cons (pv 1) (pa_cons (pv 2) (pa_cons (pv 3) pa_nil)))))
      (pss_cons (ps_if (pt_cmp (pc_notN (pe_ix ix_tup (pv 4) pe_int (fun _ _ => rfl)))) (pss_one (ps_ret (pe_lst (pa_cons (pe_ix ix_tup (pv 4) pe_int (fun _ _ => rfl)) pa_nil)))) pss_nil)
      (pss_cons (ps_set (i := 5) scTake.nd rfl (.inl rfl) (pe_ix ix_tup (pv 4) pe_int (fun _ _ => rfl)))
      (pss_cons (ps_if (pt_val (pe_callB (cr_any rfl) (by rfl) b.any (by decide +kernel) (pa_cons
          (pe_lc (own := [("part", 6)]) (g := gName 6) (tt := tYes) rfl scTake.nd (pi_list (pe_op op_cat (pe_ix ix_tup (pv 5) pe_int (fun _ _ => rfl)) (pe_ix ix_tup (pv 5) pe_int (fun _ _ => rfl)))) (blkOk_by (own := [("part", 6)]) (N := ["self", "e", "upper", "lower", "outcome", "parts", "part"]) (sc := defScope mTake) (by decide +kernel))
            (fun _ _ _ _ _ => pg_name (i := 6) scTake.nd rfl (Or.inl rfl)) (fun _ _ _ _ _ => pts_nil)
            (fun _ _ _ _ _ => pe_cal CG (hr.mono (by decide)) (pa_cons (pv 6) pa_nil))) pa_nil))) (pss_one (ps_ret (pe_lst (pa_cons (pe_num N2.great) pa_nil)))) pss_nil)
      (pss_cons (ps_fld (pv 0) (pe_ix ix_tup (pv 5) pe_int (fun _ _ => rfl)) rfl)
      (pss_cons (ps_fld (pv 0) (pe_ix ix_tup (pv 5) pe_int (fun _ _ => rfl)) rfl)
      (pss_one (ps_ret (pe_lst (pa_cons (pe_callB call_len_seq (by rfl) c.len PySem.boot_len (pa_cons (pe_fld (pv 0) rfl) pa_nil)) pa_nil))))))))), ?_⟩
    refine ⟨_, rfl, _, rfl, _, rfl, e, u, l, ps, qs, rfl, ha, hb, ie, ip, iq, fun hn H1 t s1 ht => ?_, fun ho hn H1 t s1 ht => ?_, fun ho r hs H1 t2 g' d' xs ys s1 ht2 hg hd ne hxs pxs hys pys H2 t s2 ht => ?_⟩
    · refine ⟨_, rfl, t, _, _, _, rfl, rfl, ht, rfl, _, rfl, ?_⟩
      rw [decide_eq_false (by intro y; cases y)]
      refine iteT ?_
      exact ⟨_, rfl, t, _, _, _, rfl, rfl, ht, rfl, by show 1 ≤ sizeLine; decide, fun p hp => newL_one (((k1 hn).newL hS).mono s1) p hp⟩
    · refine ⟨_, rfl, t, _, _, _, rfl, rfl, ht, rfl, _, rfl, ?_⟩
      rw [decide_eq_false (by intro y; cases y)]
      refine iteT ?_
      exact ⟨_, rfl, t, _, _, _, rfl, rfl, ht, rfl, by show 1 ≤ sizeLine; decide, fun p hp => newL_one (((k2 ho hn).newL hS).mono s1) p hp⟩
    · refine ⟨_, rfl, t, _, _, _, rfl, rfl, ht, rfl, _, rfl, ?_⟩
      rw [decide_eq_true rfl]
      refine iteF ?_
      obtain ⟨l1, l2, ps1, ps2⟩ := BD.told_lens hs
      rw [byE_len] at l2
      have lq := ho.2.2.2
      have lx := pxs.len
      have ly := pys.len
      have ht2' := seqT s2 ht2
      have hxs2 := s2 _ _ hxs
      have hys2 := s2 _ _ hys
      have pxs2 := pxs.same s2
      have pys2 := pys.same s2
      have s12 := s1.trans s2
      refine ⟨_, rfl, t, _, _, _, rfl, rfl, ht, rfl, ?_⟩
      refine ⟨_, rfl, t2, _, _, _, rfl, rfl, ht2', rfl, _, rfl, t2, _, _, _, rfl, rfl, ht2', rfl, g', d', xs, ys, rfl, rfl, hxs2, hys2, by rw [lx, ly]; exact Nat.le_trans (show _ ≤ 1000 by omega) (by decide), fun l0 nl => ?_⟩
      have s3 := same_upd (o := .lst (xs ++ ys)) nl
      have hl3 : upd H2 l0 (.lst (xs ++ ys)) l0 = some (.lst (xs ++ ys)) := upd_same
      have p3 := (PlA.app pxs2 pys2).same s3
      generalize upd H2 l0 (HO.lst (xs ++ ys)) = H3 at s3 hl3 p3 ⊢
      refine ⟨l0, rfl, ⟨_, sqL hl3⟩, fun D hD => ?_⟩
      refine lc_list (K := K) (a := l0) (xs := xs ++ ys) (fun i H' => Same H3 H' ∧ H' D = some (.lst ((((r.1 ++ r.2).take i).map great).map V.bl))) ⟨same_upd hD, upd_same⟩ (fun i H' _ hPv => sqL (hPv.1 _ _ hl3)) (fun i x H' hx hPv => ?_) (fun H4 hPv => ?_)
      · obtain ⟨sm, hacc⟩ := hPv
        obtain ⟨hi, hrx⟩ := p3.at hx
        refine ⟨rfl, yes ?_⟩
        refine ⟨_, rfl, x, _, rfl, hrx.same sm, _, hacc, ?_, same_grow sm hD, ?_⟩
        · rw [List.length_map, List.length_map, List.length_take, List.length_append]
          exact small1000 (by omega)
        · rw [upd_same, take_more hi, List.map_append, List.map_append]; rfl
      obtain ⟨sm, hacc⟩ := hPv
      rw [List.take_of_length_le (by rw [List.length_append, List.length_append]; omega)] at hacc
      have s34 := s3.trans sm
      have s14 := s12.trans s34
      refine ⟨D, (r.1 ++ r.2).map great, rfl, sqL hacc, _, rfl, ?_⟩
      by_cases hsm : BD.rsmall r
      · rw [(any_great ps1 ps2).mpr hsm]
        refine iteF ?_
        obtain ⟨⟨dx, ho0⟩, ⟨xg, hgl, pg⟩, ⟨xd, hdl, pd⟩, ne0⟩ := hS
        have ho4 := s14 _ _ ho0
        have ht24 := seqT s34 ht2'
        have hx4 := s34 _ _ hxs2
        have hy4 := s34 _ _ hys2
        have px4 := pxs2.same s34
        have py4 := pys2.same s34
        -- self.gaps = parts[0]
        refine ⟨_, rfl, t2, _, _, _, rfl, rfl, ht24, rfl, _, rfl, a, C, dx, _, rfl, ho4, T.cl, T.nG, by show 3 < 1000; decide, ?_⟩
        rw [put_gaps]
        have f5 : ∀ q x, H4 q = some x → q ≠ a → (upd H4 a (.ins C dx (sF bg g' d))) q = some x := fun q x e n => by rw [upd_ne n]; exact e
        have n5 : ∀ q, (upd H4 a (.ins C dx (sF bg g' d))) q = none → H4 q = none := fun q e => by
          have na : q ≠ a := fun y => by rw [y, upd_same] at e; cases e
          rw [upd_ne na] at e
          exact e
        have h5 : (upd H4 a (.ins C dx (sF bg g' d))) a = some (.ins C dx (sF bg g' d)) := upd_same
        have px5 := px4.besideI (o' := .ins C dx (sF bg g' d)) ho4
        have py5 := py4.besideI (o' := .ins C dx (sF bg g' d)) ho4
        have ht25 : SqT K (upd H4 a (.ins C dx (sF bg g' d))) t2 [.ref g', .ref d'] := by
          rcases ht24 with (h | ⟨q, h⟩) | h
          · exact .inl (.inl (by rw [upd_ne (ne_of h ho4 (by intro y; cases y))]; exact h))
          · exact .inl (.inr ⟨q, by rw [upd_ne (ne_of h ho4 (by intro y; cases y))]; exact h⟩)
          · exact .inr h
        generalize upd H4 a (HO.ins C dx (sF bg g' d)) = H5 at f5 n5 h5 px5 py5 ht25 ⊢
        -- self.beads = parts[1]
        refine ⟨_, rfl, t2, _, _, _, rfl, rfl, ht25, rfl, _, rfl, a, C, dx, _, rfl, h5, T.cl, T.nB, by show 3 < 1000; decide, ?_⟩
        rw [put_beads]
        have f6 : ∀ q x, H5 q = some x → q ≠ a → (upd H5 a (.ins C dx (sF bg g' d'))) q = some x := fun q x e n => by rw [upd_ne n]; exact e
        have n6 : ∀ q, (upd H5 a (.ins C dx (sF bg g' d'))) q = none → H5 q = none := fun q e => by
          have na : q ≠ a := fun y => by rw [y, upd_same] at e; cases e
          rw [upd_ne na] at e
          exact e
        have h6 : (upd H5 a (.ins C dx (sF bg g' d'))) a = some (.ins C dx (sF bg g' d')) := upd_same
        have px6 := px5.besideI (o' := .ins C dx (sF bg g' d')) h5
        have py6 := py5.besideI (o' := .ins C dx (sF bg g' d')) h5
        generalize upd H5 a (HO.ins C dx (sF bg g' d')) = H6 at f6 n6 h6 px6 py6 ⊢
        have ga : g' ≠ a := kind_ne hx4 ho4
        have da : d' ≠ a := kind_ne hy4 ho4
        have hx6 := f6 _ _ (f5 _ _ hx4 ga) ga
        have hy6 := f6 _ _ (f5 _ _ hy4 da) da
        refine ⟨_, rfl, a, C, dx, _, _, rfl, h6, T.cl, T.nB, sF_beads bg g' d', d', ys, rfl, .inl (sqL hy6), by show 1 ≤ sizeLine; decide, fun p np => ?_⟩
        have s7 := same_upd (o := .lst [V.int (ys.length : Int)]) np
        refine k4 ho r hs hsm _ g' d' p ⟨⟨dx, s7 _ _ h6⟩, ⟨xs, s7 _ _ hx6, px6.same s7⟩, ⟨ys, s7 _ _ hy6, py6.same s7⟩, ne⟩ (fun q x e na _ _ => s7 _ _ (f6 _ _ (f5 _ _ (s14 _ _ e) na) na)) (.inr hg) (.inr hd) (s14.free (n5 p (n6 p np))) ?_
        rw [upd_same, ly]; rfl
      · have ha1 : ((r.1 ++ r.2).map great).any id = true := by
          cases ea : ((r.1 ++ r.2).map great).any id with
          | true => rfl
          | false => exact absurd ((any_great ps1 ps2).mp ea) hsm
        rw [ha1]
        refine iteT ?_
        exact ⟨by show 1 ≤ sizeLine; decide, fun p hp => newL_one (((k3 ho r hs hsm).newL hS).mono s14) p hp⟩
theorem ok_found {f : Addr} {fd : FuncData} (F : Fun K "found" "Strand.found" mFound f fd) (T : Txt K C) (CP : CalM P w K mg base C 43 "polynomials" ["self"] (spPoly K C)) (CF : Cal P w K mg base 45 "find_parts" ["upper", "lower"] (spFind K)) (CT : Cal P w K mg base 2 "told_parts" ["gaps", "beads"] (spToldParts K)) :
    FnOk P w K mg base CX0 46 f fd ["self"] (spAns K C fun ls bs => (bs.length : Int) :: BD.nums (ls ++ bs)) := by
  refine F.ok scFound (fun vs H Q E h => ?_) (fun cdv A outer s H vs Q E hr h => ?_)
  · obtain ⟨a, ls, bs, rfl, _⟩ := h; rfl
  · obtain ⟨a, ls, bs, rfl, ⟨⟨g, d, hS⟩, gd⟩, k⟩ := h
    have hS0 := hS
    obtain ⟨⟨dx, ho⟩, _, _, ne⟩ := hS
    refine ⟨_, pss_cons (ps_set (i := 1) scFound.nd rfl (.inl rfl) (pe_calM0 CP (pv 0) T.cl (hr.mono (by decide))))
      (pss_cons (ps_set (i := 2) scFound.nd rfl (.inl rfl) (pe_cal CF hr (pa_cons (pe_ix ix_tup (pv 1) pe_int (fun _ _ => rfl)) (pa_cons (pe_ix ix_tup (pv 1) pe_int (fun _ _ => rfl)) pa_nil))))
      (pss_one (ps_ret (pe_cal CT (hr.mono (by decide)) (pa_cons (pe_ix ix_tup (pv 2) pe_int (fun _ _ => rfl)) (pa_cons (pe_ix ix_tup (pv 2) pe_int (fun _ _ => rfl)) pa_nil)))))), ?_⟩
    have zu := gd.szU
    have len := BD.rans_len bs ls gd.len
    have l1 := gd.len
    have l4 := gd.most
    have e1 : BD.rtrim (BD.rans ls bs).1 = (BD.rans ls bs).1 := BD.rtrim_id (BD.tr_of len.1 (BD.top_up gd.len gd.lp gd.bp))
    have e2 : BD.rtrim (BD.rans ls bs).2 = (BD.rans ls bs).2 := BD.rtrim_id (BD.tr_of len.2 (BD.top_lo gd.len gd.lp gd.bp))
    have tl := BD.told_str gd.len gd.lp gd.bp
    refine ⟨_, rfl, a, dx, _, rfl, ho, sF_none true g d (by decide +kernel) (by decide +kernel) (by decide +kernel), a, g, d, true, ls, bs, rfl, hS0, gd, fun H1 t u l s1 ht hu hl => ?_⟩
    refine ⟨_, rfl, t, _, _, _, rfl, rfl, ht, rfl, _, rfl, t, _, _, _, rfl, rfl, ht, rfl, u, l, _, _, 17800, rfl, hu, hl, by omega, by omega, by rw [e1, e2, len.2, Nat.add_sub_cancel]; exact gd.peel, by decide, fun hn => ?_, fun r hs H2 t2 g' d' xs ys s2 ht2 hg hd ne2 hxs pxs hys pys => ?_⟩
    · rw [tl] at hn; cases hn
    · rw [tl] at hs
      obtain rfl := Option.some.inj hs
      refine ⟨_, rfl, t2, _, _, _, rfl, rfl, ht2, rfl, _, rfl, t2, _, _, _, rfl, rfl, ht2, rfl, ?_⟩
      exact ⟨.ref g', .ref d', ls, bs, rfl, ⟨g', xs, rfl, hxs, pxs⟩, ⟨d', ys, rfl, hys, pys⟩, by omega, by omega, k.mono (s1.trans s2)⟩
end
end BP
set_option Elab.async false
set_option linter.all false
set_option maxRecDepth 100000
set_option maxHeartbeats 2000000
namespace BP
open PySem PySem.Spec PyProof.Rows L2
abbrev mTurn : Stmt := inClass sStrand 13
abbrev mJoin : Stmt := inClass sStrand 14
abbrev mMeans : Stmt := inClass sStrand 15
abbrev mMeasures : Stmt := inClass sStrand 16
theorem scTurn : FnScope ["self"] ["self"] (defScope mTurn) := ⟨rfl, rfl, rfl, by decide +kernel, rfl, by decide +kernel, by decide +kernel⟩
theorem scJoin : FnScope ["self", "i", "before"] ["self", "i"] (defScope mJoin) := ⟨rfl, rfl, rfl, by decide +kernel, rfl, by decide +kernel, by decide +kernel⟩
theorem scMeans : FnScope ["self", "k", "both", "rest", "factor"] ["self", "k"] (defScope mMeans) := ⟨rfl, rfl, rfl, by decide +kernel, rfl, by decide +kernel, by decide +kernel⟩
theorem scMeasures : FnScope ["self"] ["self"] (defScope mMeasures) := ⟨rfl, rfl, rfl, by decide +kernel, rfl, by decide +kernel, by decide +kernel⟩
theorem PlA.rev {K : PySem.W.Frag} {H : Hp} : ∀ {vs : List V} {p : List Rat}, PlA K H vs p → PlA K H vs.reverse p.reverse
  | _, _, .nil => .nil
  | _, _, .cons r t => by
    rw [List.reverse_cons, List.reverse_cons]
    exact PlA.app (PlA.rev t) (.cons r .nil)
theorem PlA.drop {K : PySem.W.Frag} {H : Hp} : ∀ {vs : List V} {p : List Rat} (n : Nat), PlA K H vs p → PlA K H (vs.drop n) (p.drop n)
  | _, _, 0, h => h
  | _, _, _ + 1, .nil => .nil
  | _, _, n + 1, .cons _ t => PlA.drop n t
theorem cut_from {xs : List V} {n : Nat} (h : n ≤ xs.length) : cutV xs (some (n : Int)) none = xs.drop n := by
  unfold cutV
  rw [HT.sIx_none, HT.sIx_nat, Nat.min_eq_left h, List.take_of_length_le (by rw [List.length_drop]; omega)]
/-- the object's own field set: what stays -/
structure Put (K : PySem.W.Frag) (C dx a : Addr) (fs : List (Str × V)) (H H' : Hp) : Prop where
  at_ : H' a = some (.ins C dx fs)
  keep : ∀ q x, H q = some x → q ≠ a → H' q = some x
  free : ∀ q, H' q = none → H q = none
  pl : ∀ vs p, PlA K H vs p → PlA K H' vs p
theorem put_of {K : PySem.W.Frag} {C dx a : Addr} {fs fs' : List (Str × V)} {H : Hp} (h : H a = some (.ins C dx fs)) : Put K C dx a fs' H (upd H a (.ins C dx fs')) where
  at_ := upd_same
  keep := fun q x e n => by rw [upd_ne n]; exact e
  free := fun q e => by
    have na : q ≠ a := fun y => by rw [y, upd_same] at e; cases e
    rw [upd_ne na] at e
    exact e
  pl := fun vs p hp => hp.besideI h
section
variable {P : Program} {w : World} {K : PySem.W.Frag} {mg : Str → Option Value} {base : Heap} {z o C : Addr}
def spTurn (K : PySem.W.Frag) (C : Addr) : Sp := fun vs H Q _ => ∃ (a g d : Addr) (b : Bool) (ls bs : List Rat), vs = [.ref a] ∧ StA K C H a g d b ls bs ∧ After K C H a g d b ls.reverse bs.reverse [0] Q
theorem ok_turn {f : Addr} {fd : FuncData} {k0 : Nat} (F : Fun K "turn" "Strand.turn" mTurn f fd) (T : Txt K C) (b : Bui mg) : FnOk P w K mg base CX0 (k0 + 1) f fd ["self"] (spTurn K C) := by
  refine F.ok scTurn (fun vs H Q E h => ?_) (fun cdv A outer s H vs Q E hr h => ?_)
  · obtain ⟨a, g, d, bg, ls, bs, rfl, _⟩ := h; rfl
  · obtain ⟨a, g, d, bg, ls, bs, rfl, hS, k⟩ := h
    refine ⟨_, pss_cons (ps_fld (pv 0) (pe_listRev rfl (by rfl) b.list (by rfl) b.reversed (pe_fld (pv 0) rfl)) rfl)
      (pss_cons (ps_fld (pv 0) (pe_listRev rfl (by rfl) b.list (by rfl) b.reversed (pe_fld (pv 0) rfl)) rfl)
      (pss_one (ps_ret (pe_lst (pa_cons pe_int pa_nil))))), ?_⟩
    obtain ⟨⟨dx, ho⟩, ⟨xg, hg, pg⟩, ⟨xd, hd, pd⟩, ne⟩ := hS
    refine ⟨_, rfl, a, C, dx, _, _, rfl, ho, T.cl, T.nG, sF_gaps bg g d, g, xg, rfl, sqL hg, fun g' ng => ?_⟩
    have s1 := same_upd (o := .lst xg.reverse) ng
    have hg1 : upd H g' (.lst xg.reverse) g' = some (.lst xg.reverse) := upd_same
    generalize upd H g' (HO.lst xg.reverse) = H1 at s1 hg1 ⊢
    have ho1 := s1 _ _ ho
    refine ⟨_, rfl, a, C, dx, _, rfl, ho1, T.cl, T.nG, by show 3 < 1000; decide, ?_⟩
    rw [put_gaps]
    have p2 := put_of (K := K) (fs' := sF bg g' d) ho1
    generalize upd H1 a (HO.ins C dx (sF bg g' d)) = H2 at p2 ⊢
    have da : d ≠ a := kind_ne hd ho
    have ga : g' ≠ a := kind_ne hg1 ho1
    have hd2 := p2.keep _ _ (s1 _ _ hd) da
    refine ⟨_, rfl, a, C, dx, _, _, rfl, p2.at_, T.cl, T.nB, sF_beads bg g' d, d, xd, rfl, sqL hd2, fun d' nd => ?_⟩
    have s3 := same_upd (o := .lst xd.reverse) nd
    have hd3 : upd H2 d' (.lst xd.reverse) d' = some (.lst xd.reverse) := upd_same
    generalize upd H2 d' (HO.lst xd.reverse) = H3 at s3 hd3 ⊢
    have ho3 := s3 _ _ p2.at_
    refine ⟨_, rfl, a, C, dx, _, rfl, ho3, T.cl, T.nB, by show 3 < 1000; decide, ?_⟩
    rw [put_beads]
    have p4 := put_of (K := K) (fs' := sF bg g' d') ho3
    generalize upd H3 a (HO.ins C dx (sF bg g' d')) = H4 at p4 ⊢
    refine ⟨by show 1 ≤ sizeLine; decide, fun p np => ?_⟩
    have s5 := same_upd (o := .lst [V.int 0]) np
    have hg2 := p2.keep _ _ hg1 ga
    have gd' : g' ≠ d' := fun e => by rw [← e, hg2] at nd; cases nd
    have d'a : d' ≠ a := kind_ne hd3 ho3
    have fr : ∀ q, H4 q = none → H q = none := fun q e => s1.free (p2.free q (s3.free (p4.free q e)))
    refine k _ g' d' p ⟨⟨dx, s5 _ _ p4.at_⟩, ⟨_, s5 _ _ (p4.keep _ _ (s3 _ _ hg2) ga), ?_⟩, ⟨_, s5 _ _ (p4.keep _ _ hd3 d'a), ?_⟩, gd'⟩ (fun q x e na _ _ => s5 _ _ (p4.keep _ _ (s3 _ _ (p2.keep _ _ (s1 _ _ e) na)) na)) (.inr ng) (.inr (s1.free (p2.free _ nd))) (fr p np) upd_same
    · exact ((p4.pl _ _ ((p2.pl _ _ (pg.rev.same s1)).same s3)).same s5)
    · exact ((p4.pl _ _ ((p2.pl _ _ (pd.rev.same s1)).same s3)).same s5)
def spJoin (K : PySem.W.Frag) (C : Addr) : Sp := fun vs H Q _ => ∃ (a g d : Addr) (b : Bool) (ls bs : List Rat) (i : Int), vs = [.ref a, .int i] ∧ StA K C H a g d b ls bs ∧ ls.length = bs.length + 1 ∧ bs.length ≤ 4 ∧ (∀ x ∈ ls, Bg x) ∧
  (¬ (0 ≤ i ∧ i < (bs.length : Int)) → After K C H a g d b ls bs [-2] Q) ∧ (0 ≤ i ∧ i < (bs.length : Int) → bs.length = 1 → After K C H a g d b ls bs [-33] Q) ∧
  (0 ≤ i ∧ i < (bs.length : Int) → bs.length ≠ 1 → After K C H a g d b (BD.rjoin ls bs i.toNat).1 (BD.rjoin ls bs i.toNat).2 (0 :: BD.nums [bs.getD i.toNat 0]) Q)
theorem ok_join {f : Addr} {fd : FuncData} (F : Fun K "join_gaps" "Strand.join_gaps" mJoin f fd) (T : Txt K C) (c : Con K mg z o) (N : Nms mg) (N2 : Nms2 mg) (C1 : Cal P w K mg base 1 "lies_within" ["number", "least", "most"] spLies) (C2 : Cal P w K mg base 41 "plus" ["one", "other"] (spPlus K)) (C3 : Cal P w K mg base 1 "told_fractions" ["fractions"] (spTold K)) :
    FnOk P w K mg base CX0 42 f fd ["self", "i"] (spJoin K C) := by
  refine F.ok scJoin (fun vs H Q E h => ?_) (fun cdv A outer s H vs Q E hr h => ?_)
  · obtain ⟨a, g, d, bg, ls, bs, i, rfl, _⟩ := h; rfl
  · obtain ⟨a, g, d, bg, ls, bs, i, rfl, hS, lls, lbs, bls, k1, k2, k3⟩ := h
    refine ⟨_, pss_cons (ps_if (pt_not (pt_val (pe_cal C1 (hr.mono (by decide)) (pa_cons (pv 1) (pa_cons pe_int (pa_cons (pe_op op_sub (pe_callB call_len_seq (by rfl) c.len PySem.boot_len (pa_cons (pe_fld (pv 0) rfl) pa_nil)) pe_int) pa_nil)))))) (pss_one (ps_ret (pe_lst (pa_cons (pe_num N.there) pa_nil)))) pss_nil)
      (pss_cons (ps_if (pt_cmpR op_eq (pe_callB call_len_seq (by rfl) c.len PySem.boot_len (pa_cons (pe_fld (pv 0) rfl) pa_nil)) pe_int (nomark _)) (pss_one (ps_ret (pe_lst (pa_cons (pe_num N2.cannot) pa_nil)))) pss_nil)
      (pss_cons (ps_set (i := 2) scJoin.nd rfl (.inl rfl) (pe_ix ix_list (pe_fld (pv 0) rfl) (pv 1) (fun _ _ => rfl)))
      (pss_cons (ps_fld (pv 0) (pe_op op_cat (pe_op op_cat (pe_slice sl_list (pe_fld (pv 0) rfl) po_none (po_some (pv 1))) (pe_lst (pa_cons (pe_cal C2 hr (pa_cons (pe_ix ix_list (pe_fld (pv 0) rfl) (pv 1) (fun _ _ => rfl)) (pa_cons (pe_ix ix_list (pe_fld (pv 0) rfl) (pe_op op_add (pv 1) pe_int) (fun _ _ => rfl)) pa_nil))) pa_nil))) (pe_slice sl_list (pe_fld (pv 0) rfl) (po_some (pe_op op_add (pv 1) pe_int)) po_none)) rfl)
      (pss_cons (ps_fld (pv 0) (pe_op op_cat (pe_slice sl_list (pe_fld (pv 0) rfl) po_none (po_some (pv 1))) (pe_slice sl_list (pe_fld (pv 0) rfl) (po_some (pe_op op_add (pv 1) pe_int)) po_none)) rfl)
      (pss_one (ps_ret (pe_op op_cat (pe_lst (pa_cons pe_int pa_nil)) (pe_cal C3 (hr.mono (by decide)) (pa_cons (pe_lst (pa_cons (pv 2) pa_nil)) pa_nil))))))))), ?_⟩
    have hS0 := hS
    obtain ⟨⟨dx, ho⟩, ⟨xg, hg, pg⟩, ⟨xd, hd, pd⟩, ne⟩ := hS
    have lg := pg.len
    have ld := pd.len
    refine ⟨_, rfl, _, rfl, a, C, dx, _, _, rfl, ho, T.cl, T.nB, sF_beads bg g d, d, xd, rfl, .inl (sqL hd), _, _, rfl, rfl, i, _, _, rfl, _, rfl, ?_⟩
    by_cases hi : 0 ≤ i ∧ i < (bs.length : Int)
    · rw [decide_eq_true (show 0 ≤ i ∧ i ≤ (xd.length : Int) - 1 by omega)]
      refine iteF ?_
      refine ⟨_, rfl, a, C, dx, _, _, rfl, ho, T.cl, T.nB, sF_beads bg g d, d, xd, rfl, .inl (sqL hd), rfl, _, rfl, ?_⟩
      by_cases h1 : bs.length = 1
      · rw [decide_eq_true (show V.int (xd.length : Int) = V.int 1 by rw [ld, h1]; rfl)]
        refine iteT ?_
        exact ⟨by show 1 ≤ sizeLine; decide, fun p hp => newL_one ((k2 hi h1).newL hS0) p hp⟩
      · rw [decide_eq_false (show ¬ V.int (xd.length : Int) = V.int 1 from fun y => h1 (by have := V.int.inj y; omega))]
        refine iteF ?_
        obtain ⟨j, rfl⟩ : ∃ j : Nat, i = (j : Int) := ⟨i.toNat, by omega⟩
        have hj : j < bs.length := by omega
        have k4 := k3 hi h1
        rw [Int.toNat_natCast] at k4
        obtain ⟨vb, ivb, hvb⟩ := pd.get hj
        obtain ⟨v1, iv1, hv1⟩ := pg.get (show j < ls.length by omega)
        obtain ⟨v2, iv2, hv2⟩ := pg.get (show j + 1 < ls.length by omega)
        -- before = self.beads[i]
        refine ⟨_, rfl, a, C, dx, _, _, rfl, ho, T.cl, T.nB, sF_beads bg g d, _, rfl, d, xd, _, vb, rfl, rfl, sqL hd, atI_nat ivb, ?_⟩
        -- self.gaps[:i]
        refine ⟨_, rfl, a, C, dx, _, _, rfl, ho, T.cl, T.nG, sF_gaps bg g d, _, rfl, _, rfl, g, xg, rfl, sqL hg, fun q1 nq1 => ?_⟩
        rw [cut_to (show j ≤ xg.length by omega)]
        have s1 := same_upd (o := .lst (xg.take j)) nq1
        have hq1 : upd H q1 (.lst (xg.take j)) q1 = some (.lst (xg.take j)) := upd_same
        generalize upd H q1 (HO.lst (xg.take j)) = H1 at s1 hq1 ⊢
        -- plus(self.gaps[i], self.gaps[i + 1])
        refine ⟨_, rfl, a, C, dx, _, _, rfl, s1 _ _ ho, T.cl, T.nG, sF_gaps bg g d, _, rfl, g, xg, _, v1, rfl, rfl, sqL (s1 _ _ hg), atI_nat iv1, ?_⟩
        refine ⟨_, rfl, a, C, dx, _, _, rfl, s1 _ _ ho, T.cl, T.nG, sF_gaps bg g d, _, rfl, _, _, rfl, rfl, g, xg, _, v2, rfl, rfl, sqL (s1 _ _ hg), by rw [show (j : Int) + 1 = ((j + 1 : Nat) : Int) by omega]; exact atI_nat iv2, ?_⟩
        refine ⟨v1, v2, _, _, rfl, hv1.same s1, hv2.same s1, bls _ (mem_cf (by omega)), bls _ (mem_cf (by omega)), trivial, newT (K := K) fun H2 t2 s2 ht2 _ => ?_⟩
        refine ⟨by show 1 ≤ sizeLine; decide, fun q3 nq3 => ?_⟩
        have s3 := same_upd (o := .lst [V.ref t2]) nq3
        have hq3 : upd H2 q3 (.lst [V.ref t2]) q3 = some (.lst [V.ref t2]) := upd_same
        generalize upd H2 q3 (HO.lst [V.ref t2]) = H3 at s3 hq3 ⊢
        have s23 := s2.trans s3
        refine ⟨q1, q3, _, _, rfl, rfl, s23 _ _ hq1, hq3, by rw [List.length_take]; show _ + 1 ≤ sizeLine; exact Nat.le_trans (show _ ≤ 1000 by omega) (by decide), fun q4 nq4 => ?_⟩
        have s4 := same_upd (o := .lst (xg.take j ++ [V.ref t2])) nq4
        have hq4 : upd H3 q4 (.lst (xg.take j ++ [V.ref t2])) q4 = some (.lst (xg.take j ++ [V.ref t2])) := upd_same
        generalize upd H3 q4 (HO.lst (xg.take j ++ [V.ref t2])) = H4 at s4 hq4 ⊢
        have s14 := (s1.trans s23).trans s4
        refine ⟨_, rfl, a, C, dx, _, _, rfl, s14 _ _ ho, T.cl, T.nG, sF_gaps bg g d, _, rfl, _, _, rfl, rfl, _, rfl, g, xg, rfl, sqL (s14 _ _ hg), fun q5 nq5 => ?_⟩
        rw [show (j : Int) + 2 = ((j + 2 : Nat) : Int) by omega, cut_from (show j + 2 ≤ xg.length by omega)]
        have s5 := same_upd (o := .lst (xg.drop (j + 2))) nq5
        have hq5 : upd H4 q5 (.lst (xg.drop (j + 2))) q5 = some (.lst (xg.drop (j + 2))) := upd_same
        generalize upd H4 q5 (HO.lst (xg.drop (j + 2))) = H5 at s5 hq5 ⊢
        refine ⟨q4, q5, _, _, rfl, rfl, s5 _ _ hq4, hq5, by rw [List.length_append, List.length_take, List.length_drop]; show _ + 1 + _ ≤ sizeLine; exact Nat.le_trans (show _ ≤ 1000 by omega) (by decide), fun g' ng => ?_⟩
        have s6 := same_upd (o := .lst (xg.take j ++ [V.ref t2] ++ xg.drop (j + 2))) ng
        have hg6 : upd H5 g' (.lst (xg.take j ++ [V.ref t2] ++ xg.drop (j + 2))) g' = some (.lst (xg.take j ++ [V.ref t2] ++ xg.drop (j + 2))) := upd_same
        generalize upd H5 g' (HO.lst (xg.take j ++ [V.ref t2] ++ xg.drop (j + 2))) = H6 at s6 hg6 ⊢
        have s16 := (s14.trans s5).trans s6
        have pg6 : PlA K H6 (xg.take j ++ [V.ref t2] ++ xg.drop (j + 2)) (BD.rjoin ls bs j).1 := by
          have e := BD.join_gaps (ls := ls) (k := j) (by omega)
          show PlA K H6 _ ((ls.set j (ls.getD j 0 + ls.getD (j + 1) 0)).eraseIdx (j + 1))
          rw [← e]
          exact PlA.app (PlA.app ((pg.take j).same s16) (.cons (((ht2.same s3).same s4).same (s5.trans s6)) .nil)) ((pg.drop (j + 2)).same s16)
        have ho6 := s16 _ _ ho
        have ng0 : H g' = none := (s14.trans s5).free ng
        -- self.gaps = ..
        refine ⟨_, rfl, a, C, dx, _, rfl, ho6, T.cl, T.nG, by show 3 < 1000; decide, ?_⟩
        rw [put_gaps]
        have p7 := put_of (K := K) (fs' := sF bg g' d) ho6
        generalize upd H6 a (HO.ins C dx (sF bg g' d)) = H7 at p7 ⊢
        have da : d ≠ a := kind_ne hd ho
        have ga : g' ≠ a := kind_ne hg6 ho6
        have hd7 := p7.keep _ _ (s16 _ _ hd) da
        have hg7 := p7.keep _ _ hg6 ga
        have pg7 := p7.pl _ _ pg6
        have pd7 := p7.pl _ _ (pd.same s16)
        -- self.beads[:i] + self.beads[i + 1:]
        refine ⟨_, rfl, a, C, dx, _, _, rfl, p7.at_, T.cl, T.nB, sF_beads bg g' d, _, rfl, _, rfl, d, xd, rfl, sqL hd7, fun q8 nq8 => ?_⟩
        rw [cut_to (show j ≤ xd.length by omega)]
        have s8 := same_upd (o := .lst (xd.take j)) nq8
        have hq8 : upd H7 q8 (.lst (xd.take j)) q8 = some (.lst (xd.take j)) := upd_same
        generalize upd H7 q8 (HO.lst (xd.take j)) = H8 at s8 hq8 ⊢
        refine ⟨_, rfl, a, C, dx, _, _, rfl, s8 _ _ p7.at_, T.cl, T.nB, sF_beads bg g' d, _, rfl, _, _, rfl, rfl, _, rfl, d, xd, rfl, sqL (s8 _ _ hd7), fun q9 nq9 => ?_⟩
        rw [show (j : Int) + 1 = ((j + 1 : Nat) : Int) by omega, cut_from (show j + 1 ≤ xd.length by omega)]
        have s9 := same_upd (o := .lst (xd.drop (j + 1))) nq9
        have hq9 : upd H8 q9 (.lst (xd.drop (j + 1))) q9 = some (.lst (xd.drop (j + 1))) := upd_same
        generalize upd H8 q9 (HO.lst (xd.drop (j + 1))) = H9 at s9 hq9 ⊢
        refine ⟨q8, q9, _, _, rfl, rfl, s9 _ _ hq8, hq9, by rw [List.length_take, List.length_drop]; exact Nat.le_trans (show _ ≤ 1000 by omega) (by decide), fun d' nd => ?_⟩
        have s10 := same_upd (o := .lst (xd.take j ++ xd.drop (j + 1))) nd
        have hd10 : upd H9 d' (.lst (xd.take j ++ xd.drop (j + 1))) d' = some (.lst (xd.take j ++ xd.drop (j + 1))) := upd_same
        generalize upd H9 d' (HO.lst (xd.take j ++ xd.drop (j + 1))) = H10 at s10 hd10 ⊢
        have s8t := (s8.trans s9).trans s10
        have pd10 : PlA K H10 (xd.take j ++ xd.drop (j + 1)) (BD.rjoin ls bs j).2 := by
          show PlA K H10 _ (bs.eraseIdx j)
          rw [List.eraseIdx_eq_take_drop_succ]
          exact PlA.app ((pd7.take j).same s8t) ((pd7.drop (j + 1)).same s8t)
        have ho10 := s8t _ _ p7.at_
        have nd7 : H7 d' = none := (s8.trans s9).free nd
        have nd0 : H d' = none := s16.free (p7.free _ nd7)
        have gd' : g' ≠ d' := fun e => by rw [← e, hg7] at nd7; cases nd7
        -- self.beads = ..
        refine ⟨_, rfl, a, C, dx, _, rfl, ho10, T.cl, T.nB, by show 3 < 1000; decide, ?_⟩
        rw [put_beads]
        have p11 := put_of (K := K) (fs' := sF bg g' d') ho10
        generalize upd H10 a (HO.ins C dx (sF bg g' d')) = H11 at p11 ⊢
        have d'a : d' ≠ a := kind_ne hd10 ho10
        have hvb11 : PlA K H11 [vb] [BD.cf bs j] := p11.pl _ _ (PlA.same (p7.pl _ _ (PlA.same (.cons hvb .nil) s16)) s8t)
        have fr11 : ∀ q, H11 q = none → H q = none := fun q e => s16.free (p7.free q (s8t.free (p11.free q e)))
        have kp11 : ∀ q x, H q = some x → q ≠ a → H11 q = some x := fun q x e na => p11.keep _ _ (s8t _ _ (p7.keep _ _ (s16 _ _ e) na)) na
        -- [0] + told_fractions([before])
        refine ⟨by show 1 ≤ sizeLine; decide, fun m1 n1 => ?_⟩
        have t1 := same_upd (o := .lst [V.int 0]) n1
        have hm1 : upd H11 m1 (.lst [V.int 0]) m1 = some (.lst [V.int 0]) := upd_same
        generalize upd H11 m1 (HO.lst [V.int 0]) = H12 at t1 hm1 ⊢
        refine ⟨_, rfl, by show 1 ≤ sizeLine; decide, fun m2 n2 => ?_⟩
        have t2' := same_upd (o := .lst [vb]) n2
        refine ⟨.ref m2, [BD.cf bs j], rfl, ⟨m2, [vb], rfl, upd_same, (hvb11.same t1).same t2'⟩, by show 1 ≤ 1000; decide, fun H13 m3 t3 n3 h3 => ?_⟩
        refine ⟨m1, m3, _, _, rfl, rfl, t3 _ _ (t2' _ _ hm1), h3, by show 1 + 2 ≤ sizeLine; decide, fun m4 n4 => ?_⟩
        have t4 := same_upd (o := .lst ([V.int 0] ++ (BD.nums [BD.cf bs j]).map V.int)) n4
        have tt := ((t1.trans t2').trans t3).trans t4
        have hd11 := p11.keep _ _ hd10 d'a
        have hg11 := p11.keep _ _ (s8t _ _ hg7) ga
        exact k4 _ g' d' m4 ⟨⟨dx, tt _ _ p11.at_⟩, ⟨_, tt _ _ hg11, (p11.pl _ _ (pg7.same s8t)).same tt⟩, ⟨_, tt _ _ hd11, (p11.pl _ _ pd10).same tt⟩, gd'⟩ (fun q x e na _ _ => tt _ _ (kp11 q x e na)) (.inr ng0) (.inr nd0) (fr11 _ (((t1.trans t2').trans t3).free n4)) upd_same
    · rw [decide_eq_false (show ¬ (0 ≤ i ∧ i ≤ (xd.length : Int) - 1) by omega)]
      refine iteT ?_
      exact ⟨by show 1 ≤ sizeLine; decide, fun p hp => newL_one ((k1 hi).newL hS0) p hp⟩
end
end BP
set_option Elab.async false
set_option linter.all false
set_option maxRecDepth 100000
set_option maxHeartbeats 2000000
namespace BP
open PySem PySem.Spec PyProof.Rows L2
/-! ### sizes of sums and means -/
theorem fold_sz {s : Nat} : ∀ (l : List Rat) (t : Nat) (acc : Rat), (∀ x ∈ l, Sz s x) → Sz t acc → Sz (t + l.length * (s + 1)) (l.foldl (· + ·) acc)
  | [], t, acc, _, h => by
    rw [List.length_nil, Nat.zero_mul, Nat.add_zero]
    exact h
  | x :: l, t, acc, hl, h => by
    have := fold_sz l (t + s + 1) (acc + x) (fun y hy => hl y (List.mem_cons_of_mem _ hy)) (h.add (hl x (List.mem_cons_self ..)))
    refine Sz.mono this ?_
    rw [List.length_cons, Nat.add_mul, Nat.one_mul]
    omega
theorem sums_bg {s : Nat} {l : List Rat} (hl : ∀ x ∈ l, Sz s x) (h5 : l.length ≤ 5) (hs : s ≤ 2000) (h0 : 0 < s) : BgP l ∧ ∀ i, Bg ((l.take i).foldl (· + ·) 0) := by
  have L : ∀ n, n ≤ 100000 → n ≤ LIM := fun n hn => Nat.le_trans hn (by decide)
  constructor
  · intro k
    by_cases c : k < l.length
    · exact (hl _ (mem_cf c)).bg (L _ (by omega))
    · rw [BD.cf_low (by omega)]
      exact (sz_zero 1 (by decide)).bg (by decide)
  · intro i
    have h := fold_sz (s := s) (l.take i) 1 0 (fun x hx => hl x (List.mem_of_mem_take hx)) (sz_zero 1 (by decide))
    refine h.bg (L _ ?_)
    have e : (l.take i).length ≤ 5 := by rw [List.length_take]; omega
    have : (l.take i).length * (s + 1) ≤ 5 * 2001 := Nat.mul_le_mul e (by omega)
    omega
theorem mean_all (n : Nat) (h1 : 1 ≤ n) (h : n ≤ 4) : mb (ul (201 * (5 - n)) (n - 1)).1 (ul (201 * (5 - n)) n).2 11 + 2 * (ul (201 * (5 - n)) n).2 ≤ LIM := by
  match n, h1, h with
  | 1, _, _ => decide
  | 2, _, _ => decide
  | 3, _, _ => decide
  | 4, _, _ => decide
theorem Good.fall {ls bs : List Rat} (g : Good ls bs) : ∃ n m, SzP n (BD.rless (BD.rans ls bs).1 (BD.rans ls bs).2 (BD.cf ls 0)) ∧ SzP m (BD.rans ls bs).2 ∧ mb n m 11 + 2 * m ≤ LIM := by
  have sz := g.sz
  have l1 := g.len
  have m4 := g.most
  have mp := BD.means_prog g.len g.lp g.bp 0
  have hp := g.lp
  have hb := g.bp
  have gl := g.ls
  have gb := g.bs
  match bs, ls, l1, m4, hp, hb, gl, gb, sz, mp with
  | [], [l], l1, m4, hp, hb, gl, gb, sz, mp =>
    refine ⟨1, 1, ?_, sz.2, by decide⟩
    have e : BD.rless (BD.rans [l] []).1 (BD.rans [l] []).2 (BD.cf [l] 0) = [] := List.length_eq_zero_iff.mp (Nat.le_zero.mp mp.2)
    rw [e]
    exact fun k => sz_zero 1 (by decide)
  | b :: bs, l :: m :: ls, l1, m4, hp, hb, gl, gb, sz, mp =>
    have e := BD.less_str l1 hp hb
    have l2 : (m :: ls).length = bs.length + 1 := by simpa using l1
    have r := rans_sz (G := 201 * (5 - (b :: bs).length)) (by omega) bs (m :: ls) l2 (fun x hx => gl x (List.mem_cons_of_mem _ hx)) (fun x hx => gb x (List.mem_cons_of_mem _ hx))
    refine ⟨_, _, ?_, sz.2, mean_all (b :: bs).length (by show 1 ≤ bs.length + 1; omega) m4⟩
    show SzP _ (BD.rless _ _ l)
    rw [e]
    exact r.1
section
variable {P : Program} {w : World} {K : PySem.W.Frag} {mg : Str → Option Value} {base : Heap} {z o C : Addr}
theorem ok_measures {f : Addr} {fd : FuncData} (F : Fun K "measures" "Strand.measures" mMeasures f fd) (T : Txt K C) (CS : Cal P w K mg base 42 "total" ["fractions"] (spTotal K)) (CT : Cal P w K mg base 1 "told_fractions" ["fractions"] (spTold K)) :
    FnOk P w K mg base CX0 43 f fd ["self"] (spAns K C fun ls bs => 0 :: BD.nums [ls.foldl (· + ·) 0, bs.foldl (· + ·) 0]) := by
  refine F.ok scMeasures (fun vs H Q E h => ?_) (fun cdv A outer s H vs Q E hr h => ?_)
  · obtain ⟨a, ls, bs, rfl, _⟩ := h; rfl
  · obtain ⟨a, ls, bs, rfl, ⟨⟨g, d, hS⟩, gd⟩, k⟩ := h
    obtain ⟨⟨dx, ho⟩, ⟨xg, hg, pg⟩, ⟨xd, hd, pd⟩, ne⟩ := hS
    have l1 := gd.len
    have l4 := gd.most
    obtain ⟨bl, tl⟩ := sums_bg gd.ls (by omega) (by omega) (by omega)
    obtain ⟨bb, tb⟩ := sums_bg gd.bs (by omega) (by omega) (by omega)
    refine ⟨_, pss_one (ps_ret (pe_op op_cat (pe_lst (pa_cons pe_int pa_nil)) (pe_cal CT (hr.mono (by decide)) (pa_cons (pe_lst (pa_cons (pe_cal CS hr (pa_cons (pe_fld (pv 0) rfl) pa_nil)) (pa_cons (pe_cal CS hr (pa_cons (pe_fld (pv 0) rfl) pa_nil)) pa_nil))) pa_nil)))), ?_⟩
    refine ⟨by show 1 ≤ sizeLine; decide, fun m1 n1 => ?_⟩
    have t1 := same_upd (o := .lst [V.int 0]) n1
    have hm1 : upd H m1 (.lst [V.int 0]) m1 = some (.lst [V.int 0]) := upd_same
    generalize upd H m1 (HO.lst [V.int 0]) = H1 at t1 hm1 ⊢
    refine ⟨_, rfl, a, C, dx, _, _, rfl, t1 _ _ ho, T.cl, T.nG, sF_gaps true g d, .ref g, ls, rfl, ⟨g, xg, rfl, t1 _ _ hg, pg.same t1⟩, bl, tl, fun H2 u2 t2 hu2 => ?_⟩
    have t12 := t1.trans t2
    refine ⟨_, rfl, a, C, dx, _, _, rfl, t12 _ _ ho, T.cl, T.nB, sF_beads true g d, .ref d, bs, rfl, ⟨d, xd, rfl, t12 _ _ hd, pd.same t12⟩, bb, tb, fun H3 u3 t3 hu3 => ?_⟩
    refine ⟨by show 2 ≤ sizeLine; decide, fun m4 n4 => ?_⟩
    have t4 := same_upd (o := .lst [u2, u3]) n4
    refine ⟨.ref m4, [ls.foldl (· + ·) 0, bs.foldl (· + ·) 0], rfl, ⟨m4, [u2, u3], rfl, upd_same, .cons ((hu2.same t3).same t4) (.cons (hu3.same t4) .nil)⟩, by show 2 ≤ 1000; decide, fun H5 m5 t5 n5 h5 => ?_⟩
    have t25 := (t2.trans t3).trans (t4.trans t5)
    refine ⟨m1, m5, _, _, rfl, rfl, t25 _ _ hm1, h5, by show 1 + 4 ≤ sizeLine; decide, fun m6 n6 => ?_⟩
    exact k _ m6 ((t1.trans t25).trans (same_upd n6)) ((t1.trans t25).free n6) upd_same
def spMeans (K : PySem.W.Frag) (C : Addr) : Sp := fun vs H Q _ => ∃ (a : Addr) (ls bs : List Rat) (k : Int), vs = [.ref a, .int k] ∧ Has K C H a ls bs ∧ (¬ (1 ≤ k ∧ k ≤ 12) → NewL H [-22] Q) ∧ (1 ≤ k ∧ k ≤ 12 → NewL H (k :: BD.nums (BD.rmeansOf ls bs k.toNat)) Q)
theorem ok_means {f : Addr} {fd : FuncData} (F : Fun K "means" "Strand.means" mMeans f fd) (T : Txt K C) (N : Nms mg) (N2 : Nms2 mg) (C1 : Cal P w K mg base 1 "lies_within" ["number", "least", "most"] spLies) (CP : CalM P w K mg base C 43 "polynomials" ["self"] (spPoly K C))
    (CL : Cal P w K mg base 43 "without_gap" ["upper", "lower", "gap"] (spLess K)) (CF : Cal P w K mg base 43 "falling_factors" ["one", "other", "count"] (spFalling K)) (CO : Cal P w K mg base 1 "opposite" ["one"] (spOpposite K)) (CT : Cal P w K mg base 1 "told_fractions" ["fractions"] (spTold K)) :
    FnOk P w K mg base CX0 44 f fd ["self", "k"] (spMeans K C) := by
  refine F.ok scMeans (fun vs H Q E h => ?_) (fun cdv A outer s H vs Q E hr h => ?_)
  · obtain ⟨a, ls, bs, k, rfl, _⟩ := h; rfl
  · obtain ⟨a, ls, bs, i, rfl, ⟨⟨g, d, hS⟩, gd⟩, k1, k2⟩ := h
    have hS0 := hS
    obtain ⟨⟨dx, ho⟩, ⟨xg, hg, pg⟩, _, ne⟩ := hS
    refine ⟨_, pss_cons (ps_if (pt_not (pt_val (pe_cal C1 (hr.mono (by decide)) (pa_cons (pv 1) (pa_cons pe_int (pa_cons (pe_num N2.means) pa_nil)))))) (pss_one (ps_ret (pe_lst (pa_cons (pe_num N.nlet) pa_nil)))) pss_nil)
      (pss_cons (ps_set (i := 2) scMeans.nd rfl (.inl rfl) (pe_calM0 CP (pv 0) T.cl hr))
      (pss_cons (ps_set (i := 3) scMeans.nd rfl (.inl rfl) (pe_cal CL hr (pa_cons (pe_ix ix_tup (pv 2) pe_int (fun _ _ => rfl)) (pa_cons (pe_ix ix_tup (pv 2) pe_int (fun _ _ => rfl)) (pa_cons (pe_ix ix_list (pe_fld (pv 0) rfl) pe_int (fun _ _ => rfl)) pa_nil)))))
      (pss_one (ps_ret (pe_op op_cat (pe_lst (pa_cons (pv 1) pa_nil)) (pe_cal CT (hr.mono (by decide)) (pa_cons
          (pe_lc (own := [("factor", 4)]) (g := gName 4) (tt := tYes) rfl scMeans.nd (pi_list (pe_cal CF hr (pa_cons (pv 3) (pa_cons (pe_ix ix_tup (pv 2) pe_int (fun _ _ => rfl)) (pa_cons (pv 1) pa_nil))))) (blkOk_by (own := [("factor", 4)]) (N := ["self", "k", "both", "rest", "factor"]) (sc := defScope mMeans) (by decide +kernel))
            (fun _ _ _ _ _ => pg_name (i := 4) scMeans.nd rfl (Or.inl rfl)) (fun _ _ _ _ _ => pts_nil)
            (fun _ _ _ _ _ => pe_cal CO (hr.mono (by decide)) (pa_cons (pv 4) pa_nil))) pa_nil))))))), ?_⟩
    refine ⟨_, rfl, i, _, _, rfl, _, rfl, ?_⟩
    by_cases hi : 1 ≤ i ∧ i ≤ 12
    · rw [decide_eq_true hi]
      refine iteF ?_
      have k3 := k2 hi
      obtain ⟨j, rfl⟩ : ∃ j : Nat, i = (j : Int) := ⟨i.toNat, by omega⟩
      have hj : j ≤ 12 := by omega
      rw [Int.toNat_natCast] at k3
      have zu := gd.szU
      have len := BD.rans_len bs ls gd.len
      have l1 := gd.len
      have l4 := gd.most
      obtain ⟨mp1, mp2⟩ := BD.means_prog gd.len gd.lp gd.bp j
      obtain ⟨n, m, sr, sq, hlim⟩ := gd.fall
      have q0 : (BD.rans ls bs).2 ≠ [] := fun y => by
        have := len.2
        rw [y] at this; simp at this
      have zq : BD.cf (BD.rans ls bs).2 ((BD.rans ls bs).2.length - 1) ≠ 0 := by rw [len.2]; exact BD.top_lo gd.len gd.lp gd.bp
      have L : ∀ n, n ≤ 100000 → n ≤ LIM := fun n hn => Nat.le_trans hn (by decide)
      refine ⟨_, rfl, a, dx, _, rfl, ho, sF_none true g d (by decide +kernel) (by decide +kernel) (by decide +kernel), a, g, d, true, ls, bs, rfl, hS0, gd, fun H1 t u l s1 ht hu hl => ?_⟩
      obtain ⟨v0, iv0, hv0⟩ := pg.get (k := 0) (by omega)
      refine ⟨_, rfl, t, _, _, _, rfl, rfl, ht, rfl, _, rfl, t, _, _, _, rfl, rfl, ht, rfl, _, rfl, a, C, dx, _, _, rfl, s1 _ _ ho, T.cl, T.nG, sF_gaps true g d, g, xg, _, v0, rfl, rfl, sqL (s1 _ _ hg), atI_nat (j := 0) iv0, ?_⟩
      refine ⟨u, l, v0, _, _, _, 17800, 17800, 1005, rfl, hu, hl, hv0.same s1, zu.1, zu.2.1, (gd.ls _ (mem_cf (by omega))).mono (by omega), L _ (by omega), L _ (by omega), by omega, by omega, NewP.poA fun H2 d2 s2 h2 => ?_⟩
      have s12 := s1.trans s2
      refine ⟨_, rfl, by show 1 ≤ sizeLine; decide, fun m1 n1 => ?_⟩
      have t1 := same_upd (o := .lst [V.int (j : Int)]) n1
      have hm1 : upd H2 m1 (.lst [V.int (j : Int)]) m1 = some (.lst [V.int (j : Int)]) := upd_same
      generalize upd H2 m1 (HO.lst [V.int (j : Int)]) = H3 at t1 hm1 ⊢
      have s23 := s2.trans t1
      refine ⟨_, rfl, _, rfl, t, _, _, _, rfl, rfl, seqT s23 ht, rfl, _, rfl, ?_⟩
      refine ⟨.ref d2, l, _, _, j, n, m, rfl, h2.same t1, hl.same s23, q0, zq, by rw [len.2]; exact mp2, by omega, sr, sq, hlim, hj, fun H4 d4 ac s4 n4 e4 p4 => ?_⟩
      have lf : (BD.rfall (BD.rans ls bs).2 j (BD.rless (BD.rans ls bs).1 (BD.rans ls bs).2 (BD.cf ls 0))).length = j := rfall_len _ _ _
      generalize BD.rfall (BD.rans ls bs).2 j (BD.rless (BD.rans ls bs).1 (BD.rans ls bs).2 (BD.cf ls 0)) = fs at p4 lf mp1
      refine ⟨d4, rfl, ⟨_, sqL e4⟩, fun D hD => ?_⟩
      refine lc_list (K := K) (a := d4) (xs := ac) (fun i H' => Same H4 H' ∧ ∃ acc, H' D = some (.lst acc) ∧ PlA K H' acc ((fs.map fun x => -x).take i)) ⟨same_upd hD, [], upd_same, .nil⟩ (fun i H' _ hPv => sqL (hPv.1 _ _ e4)) (fun i x H' hx hPv => ?_) (fun H5 hPv => ?_)
      · obtain ⟨sm, acc, hacc, hpl⟩ := hPv
        obtain ⟨hi, hrx⟩ := p4.at hx
        refine ⟨rfl, yes ?_⟩
        refine ⟨_, rfl, x, _, rfl, hrx.same sm, newT (K := K) fun H6 t6 s6 ht6 _ => ?_⟩
        have hacc6 := s6 _ _ hacc
        have e : (fs.map fun x => -x)[i]? = some (-BD.cf fs i) := by rw [List.getElem?_map, hi]; rfl
        refine ⟨acc, hacc6, ?_, same_grow (sm.trans s6) hD, acc ++ [.ref t6], upd_same, ?_⟩
        · rw [hpl.len, List.length_take, List.length_map]
          exact small1000 (by omega)
        · rw [take_more e]
          exact Paired.snoc ((hpl.same s6).beside hacc6) (ht6.beside hacc6)
      · obtain ⟨sm, acc, hacc, hpl⟩ := hPv
        rw [List.take_of_length_le (by rw [List.length_map, p4.len]; exact Nat.le_refl _), ← mp1] at hpl
        have lm : (BD.rmeansOf ls bs j).length = j := by rw [mp1, List.length_map, lf]
        refine ⟨.ref D, _, rfl, ⟨D, acc, rfl, hacc, hpl⟩, by omega, fun H6 d6 s6 n6 h6 => ?_⟩
        have s46 := (s4.trans sm).trans s6
        refine ⟨m1, d6, _, _, rfl, rfl, s46 _ _ hm1, h6, by rw [List.length_map, nums_len, lm]; show 1 + _ ≤ sizeLine; exact Nat.le_trans (show _ ≤ 1000 by omega) (by decide), fun m7 n7 => ?_⟩
        have st := (s12.trans t1).trans s46
        exact k3 _ m7 (st.trans (same_upd n7)) (st.free n7) upd_same
    · rw [decide_eq_false hi]
      refine iteT ?_
      exact ⟨by show 1 ≤ sizeLine; decide, fun p hp => newL_one (k1 hi) p hp⟩
end
end BP
set_option Elab.async false
set_option linter.all false
set_option maxRecDepth 100000
set_option maxHeartbeats 2000000
namespace BP
open PySem PySem.Spec PyProof.Rows L2
/-! ### what is kept of a string from call to call -/
/-- gaps as sums of so many parts below 2^200 -/
def Wg (x : Rat) (w : Nat) : Prop := 1 ≤ w ∧ Sz (201 * w - 1) x
structure Keep (ls bs : List Rat) : Prop where
  len : ls.length = bs.length + 1
  most : bs.length ≤ 4
  lp : ∀ x ∈ ls, 0 < x
  bp : ∀ x ∈ bs, 0 < x
  bs : ∀ x ∈ bs, Sz 200 x
  ws : ∃ ws : List Nat, Paired Wg ls ws ∧ ws.sum ≤ 5
theorem paired_mem {α β : Type} {F : α → β → Prop} : ∀ {l₁ : List α} {l₂ : List β} {x : α}, Paired F l₁ l₂ → x ∈ l₁ → ∃ y ∈ l₂, F x y
  | _, _, x, .nil, h => by cases h
  | _, _, x, .cons r t, h => by
    rcases List.mem_cons.mp h with z | z
    · subst z
      exact ⟨_, List.mem_cons_self .., r⟩
    · obtain ⟨y, hy, hr⟩ := paired_mem t z
      exact ⟨y, List.mem_cons_of_mem _ hy, hr⟩
theorem sum_len : ∀ {ls : List Rat} {ws : List Nat}, Paired Wg ls ws → ls.length ≤ ws.sum
  | _, _, .nil => Nat.le_refl _
  | _, _, .cons r t => by
    have := sum_len t
    have := r.1
    rw [List.length_cons, List.sum_cons]
    omega
theorem sum_mem : ∀ {ls : List Rat} {ws : List Nat} {w : Nat}, Paired Wg ls ws → w ∈ ws → w + ls.length ≤ ws.sum + 1
  | _, _, w, .nil, h => by cases h
  | _, _, w, .cons (a := a) (b := b) r t, h => by
    have h1 := sum_len t
    have h2 := r.1
    rw [List.length_cons, List.sum_cons]
    rcases List.mem_cons.mp h with z | z
    · omega
    · have := sum_mem t z
      omega
theorem Keep.good {ls bs : List Rat} (k : Keep ls bs) : Good ls bs where
  len := k.len
  most := k.most
  lp := k.lp
  bp := k.bp
  bs := k.bs
  ls := fun x hx => by
    obtain ⟨ws, hp, hs⟩ := k.ws
    obtain ⟨w, hw, hr⟩ := paired_mem hp hx
    have := sum_mem hp hw
    have := k.len
    have := k.most
    exact hr.2.mono (by omega)
theorem paired_set {α β : Type} {F : α → β → Prop} {v : α} (h : ∀ b, (∃ a, F a b) → F v b) : ∀ {l₁ : List α} {l₂ : List β} (i : Nat), Paired F l₁ l₂ → Paired F (l₁.set i v) l₂
  | _, _, _, .nil => .nil
  | _, _, 0, .cons r t => .cons (h _ ⟨_, r⟩) t
  | _, _, i + 1, .cons r t => .cons r (paired_set h i t)
theorem paired_app {α β : Type} {F : α → β → Prop} : ∀ {l₁ m₁ : List α} {l₂ m₂ : List β}, Paired F l₁ l₂ → Paired F m₁ m₂ → Paired F (l₁ ++ m₁) (l₂ ++ m₂)
  | _, _, _, _, .nil, h => h
  | _, _, _, _, .cons r t, h => .cons r (paired_app t h)
theorem paired_rev {α β : Type} {F : α → β → Prop} : ∀ {l₁ : List α} {l₂ : List β}, Paired F l₁ l₂ → Paired F l₁.reverse l₂.reverse
  | _, _, .nil => .nil
  | _, _, .cons r t => by
    rw [List.reverse_cons, List.reverse_cons]
    exact paired_app (paired_rev t) (.cons r .nil)
theorem ones_w : ∀ {ls : List Rat}, (∀ x ∈ ls, Sz 200 x) → Paired Wg ls (List.replicate ls.length 1)
  | [], _ => .nil
  | x :: ls, h => by
    rw [List.length_cons, List.replicate_succ]
    exact .cons ⟨Nat.le_refl _, h x (List.mem_cons_self ..)⟩ (ones_w fun y hy => h y (List.mem_cons_of_mem _ hy))
theorem sum_ones (n : Nat) : (List.replicate n 1).sum = n := by
  induction n with
  | zero => rfl
  | succ n ih => rw [List.replicate_succ, List.sum_cons, ih]; omega
theorem keep_new {ls bs : List Rat} (h : ls.length = bs.length + 1) (h4 : bs.length ≤ 4) (lp : ∀ x ∈ ls, 0 < x) (bp : ∀ x ∈ bs, 0 < x) (sl : ∀ x ∈ ls, Sz 200 x) (sb : ∀ x ∈ bs, Sz 200 x) : Keep ls bs :=
  ⟨h, h4, lp, bp, sb, _, ones_w sl, by rw [sum_ones]; omega⟩
theorem sz_one : Sz 200 (1 : Rat) := ⟨Nat.one_lt_two_pow (by decide), Nat.one_lt_two_pow (by decide)⟩
theorem keep_begin {n : Nat} (h : n ≤ 4) : Keep (List.replicate (n + 1) 1) (List.replicate n 1) := by
  refine keep_new (by rw [List.length_replicate, List.length_replicate]) (by rw [List.length_replicate]; exact h) ?_ ?_ ?_ ?_
  · intro x hx; rw [(List.mem_replicate.mp hx).2]; decide
  · intro x hx; rw [(List.mem_replicate.mp hx).2]; decide
  · intro x hx; rw [(List.mem_replicate.mp hx).2]; exact sz_one
  · intro x hx; rw [(List.mem_replicate.mp hx).2]; exact sz_one
theorem part_sz {a b : Int} (h : okPart a b) : Sz 200 ((a : Rat) / (b : Rat)) ∧ 0 < (a : Rat) / (b : Rat) := by
  have h1 := h.1
  have h2 := h.2
  have l := low_le (x := a) (y := b) (by omega)
  refine ⟨Sz.mono (n := 7) ⟨Nat.lt_of_le_of_lt l.1 (by show _ < 128; omega), Nat.lt_of_le_of_lt l.2 (by show _ < 128; omega)⟩ (by decide), ?_⟩
  have a0 : (0 : Rat) < (a : Rat) := by
    have : ((0 : Int) : Rat) < ((a : Int) : Rat) := Rat.intCast_lt_intCast.mpr (by omega)
    exact this
  have b0 : (0 : Rat) < (b : Rat) := by
    have : ((0 : Int) : Rat) < ((b : Int) : Rat) := Rat.intCast_lt_intCast.mpr (by omega)
    exact this
  exact BD.div_pos a0 b0
theorem mem_set {x v : Rat} {l : List Rat} {i : Nat} (h : x ∈ l.set i v) : x = v ∨ x ∈ l := by
  rcases List.mem_or_eq_of_mem_set h with y | y
  · exact .inr y
  · exact .inl y
theorem Keep.gap {ls bs : List Rat} (k : Keep ls bs) {v : Rat} (hv : Sz 200 v) (v0 : 0 < v) (i : Nat) : Keep (ls.set i v) bs where
  len := by rw [List.length_set]; exact k.len
  most := k.most
  lp := fun x hx => by
    rcases mem_set hx with y | y
    · rw [y]; exact v0
    · exact k.lp x y
  bp := k.bp
  bs := k.bs
  ws := by
    obtain ⟨ws, hp, hs⟩ := k.ws
    refine ⟨ws, paired_set (fun w ⟨_, h⟩ => ⟨h.1, hv.mono ?_⟩) i hp, hs⟩
    have := h.1
    omega
theorem Keep.bead {ls bs : List Rat} (k : Keep ls bs) {v : Rat} (hv : Sz 200 v) (v0 : 0 < v) (i : Nat) : Keep ls (bs.set i v) where
  len := by rw [List.length_set]; exact k.len
  most := by rw [List.length_set]; exact k.most
  lp := k.lp
  bp := fun x hx => by
    rcases mem_set hx with y | y
    · rw [y]; exact v0
    · exact k.bp x y
  bs := fun x hx => by
    rcases mem_set hx with y | y
    · rw [y]; exact hv
    · exact k.bs x y
  ws := k.ws
theorem Keep.turn {ls bs : List Rat} (k : Keep ls bs) : Keep ls.reverse bs.reverse where
  len := by rw [List.length_reverse, List.length_reverse]; exact k.len
  most := by rw [List.length_reverse]; exact k.most
  lp := fun x hx => k.lp x (List.mem_reverse.mp hx)
  bp := fun x hx => k.bp x (List.mem_reverse.mp hx)
  bs := fun x hx => k.bs x (List.mem_reverse.mp hx)
  ws := by
    obtain ⟨ws, hp, hs⟩ := k.ws
    exact ⟨ws.reverse, paired_rev hp, by rw [List.sum_reverse]; exact hs⟩
theorem join_w : ∀ (k : Nat) {ls : List Rat} {ws : List Nat}, Paired Wg ls ws → k + 1 < ls.length → ∃ ws', Paired Wg (ls.take k ++ [BD.cf ls k + BD.cf ls (k + 1)] ++ ls.drop (k + 2)) ws' ∧ ws'.sum = ws.sum
  | 0, _, _, .nil, h => by simp at h
  | 0, _, _, .cons r .nil, h => by simp at h
  | 0, _, _, .cons (a := x) (b := u) r (.cons (a := y) (b := v) r2 t), h => by
    refine ⟨(u + v) :: _, .cons ⟨by have := r.1; omega, ?_⟩ t, by rw [List.sum_cons, List.sum_cons, List.sum_cons]; omega⟩
    have h1 := r.1
    have h2 := r2.1
    exact (r.2.add r2.2).mono (by omega)
  | k + 1, _, _, .nil, h => by simp at h
  | k + 1, _, _, .cons r t, h => by
    obtain ⟨ws', h1, h2⟩ := join_w k t (by simpa using h)
    exact ⟨_ :: ws', .cons r h1, by rw [List.sum_cons, List.sum_cons, h2]⟩
theorem Keep.join {ls bs : List Rat} (k : Keep ls bs) {j : Nat} (hj : j < bs.length) : Keep (BD.rjoin ls bs j).1 (BD.rjoin ls bs j).2 := by
  have hl := k.len
  have e := BD.join_gaps (ls := ls) (k := j) (by omega)
  have e1 : (BD.rjoin ls bs j).1 = ls.take j ++ [BD.cf ls j + BD.cf ls (j + 1)] ++ ls.drop (j + 2) := e.symm
  have e2 : (BD.rjoin ls bs j).2 = bs.eraseIdx j := rfl
  have lb : (bs.eraseIdx j).length = bs.length - 1 := by rw [List.length_eraseIdx_of_lt hj]
  have m4 := k.most
  refine ⟨?_, ?_, ?_, ?_, ?_, ?_⟩
  · rw [e1, e2, lb, List.length_append, List.length_append, List.length_take, List.length_drop]
    show min j ls.length + 1 + _ = _
    omega
  · rw [e2, lb]; omega
  · rw [e1]
    intro x hx
    rcases List.mem_append.mp hx with y | y
    · rcases List.mem_append.mp y with z | z
      · exact k.lp x (List.mem_of_mem_take z)
      · rw [List.mem_singleton] at z
        have h1 := k.lp _ (mem_cf (l := ls) (i := j) (by omega))
        have h2 := k.lp _ (mem_cf (l := ls) (i := j + 1) (by omega))
        rw [z]; grind
    · exact k.lp x (List.mem_of_mem_drop y)
  · rw [e2]
    exact fun x hx => k.bp x (List.mem_of_mem_eraseIdx hx)
  · rw [e2]
    exact fun x hx => k.bs x (List.mem_of_mem_eraseIdx hx)
  · obtain ⟨ws, hp, hs⟩ := k.ws
    obtain ⟨ws', h1, h2⟩ := join_w j hp (by omega)
    rw [e1]
    exact ⟨ws', h1, by rw [h2]; exact hs⟩
theorem pow60 : (10 : Nat) ^ 60 ≤ 2 ^ 200 := by decide +kernel
theorem keep_take {ps qs : List Rat} {s : List Rat × List Rat} (h : BD.rtoldAll ps qs = some s) (hq : qs.length ≤ 5) (hs : BD.rsmall s) : Keep s.1 s.2 := by
  obtain ⟨h1, h2, h3, h4⟩ := BD.told_lens h
  have sz : ∀ x ∈ s.1 ++ s.2, Sz 200 x := fun x hx => ⟨Nat.lt_of_lt_of_le (hs x hx).1 pow60, Nat.lt_of_lt_of_le (hs x hx).2 pow60⟩
  exact keep_new h1 (by omega) h3 h4 (fun x hx => sz x (List.mem_append.mpr (.inl hx))) (fun x hx => sz x (List.mem_append.mpr (.inr hx)))
end BP
set_option Elab.async false
set_option linter.all false
set_option maxRecDepth 100000
set_option maxHeartbeats 2000000
namespace BP
open PySem PySem.Spec PyProof.Rows L2
abbrev sRows : Stmt := topS 73
abbrev sChg : Stmt := topS 74
abbrev sAsk : Stmt := topS 75
abbrev sCall : Stmt := topS 76
abbrev sAnswers : Stmt := topS 77
theorem scRows : FnScope ["calls", "place", "count", "rows", "row", "behind"] ["calls", "place", "count"] (defScope sRows) := ⟨rfl, rfl, rfl, by decide +kernel, rfl, by decide +kernel, by decide +kernel⟩
theorem scChg : FnScope ["strand", "number", "wholes", "rows"] ["strand", "number", "wholes", "rows"] (defScope sChg) := ⟨rfl, rfl, rfl, by decide +kernel, rfl, by decide +kernel, by decide +kernel⟩
theorem scAsk : FnScope ["strand", "number", "wholes", "rows"] ["strand", "number", "wholes", "rows"] (defScope sAsk) := ⟨rfl, rfl, rfl, by decide +kernel, rfl, by decide +kernel, by decide +kernel⟩
theorem scCall : FnScope ["strand", "number", "wholes", "rows"] ["strand", "number", "wholes", "rows"] (defScope sCall) := ⟨rfl, rfl, rfl, by decide +kernel, rfl, by decide +kernel, by decide +kernel⟩
theorem scAnswers : FnScope ["calls", "strand", "answered", "place", "number", "behind", "wholes", "rows", "numbers", "row"] ["calls"] (defScope sAnswers) := ⟨rfl, rfl, rfl, by decide +kernel, rfl, by decide +kernel, by decide +kernel⟩
/-- the module's numbers of the calls -/
structure Nms3 (mg : Str → Option Value) : Prop where
  begun : ∃ t, mg "NOT_BEGUN" = some (.int (-11) t)
  begin_ : ∃ t, mg "BEGIN" = some (.int 0 t)
  gap : ∃ t, mg "GAP" = some (.int 1 t)
  bead : ∃ t, mg "BEAD" = some (.int 2 t)
  string : ∃ t, mg "STRING" = some (.int 3 t)
  answer : ∃ t, mg "ANSWER" = some (.int 4 t)
  at_ : ∃ t, mg "AT" = some (.int 5 t)
  rings : ∃ t, mg "RINGS" = some (.int 6 t)
  all : ∃ t, mg "ALL" = some (.int 7 t)
  told : ∃ t, mg "TOLD" = some (.int 8 t)
  take : ∃ t, mg "TAKE" = some (.int 9 t)
  found : ∃ t, mg "FOUND" = some (.int 10 t)
  turn : ∃ t, mg "TURN" = some (.int 11 t)
  join : ∃ t, mg "JOIN" = some (.int 12 t)
  means : ∃ t, mg "MEANS" = some (.int 13 t)
/-! ### rows -/
/-- rows in the heap -/
def RowsA (H : Hp) (ra : Addr) (xs : List (List Int)) : Prop := ∃ rs : List Addr, H ra = some (.lst (rs.map V.ref)) ∧ Paired (fun r (x : List Int) => H r = some (.lst (x.map V.int))) rs xs
theorem cut_mid {xs : List V} {m n : Nat} (h : m ≤ n) (h2 : n ≤ xs.length) : cutV xs (some (m : Int)) (some (n : Int)) = (xs.drop m).take (n - m) := by
  unfold cutV
  rw [HT.sIx_nat, HT.sIx_nat, Nat.min_eq_left h2, Nat.min_eq_left (by omega)]
theorem drop_at {ns : List Int} {p : Nat} {x : Int} {r : List Int} (h : ns.drop p = x :: r) : ns[p]? = some x ∧ ns.drop (p + 1) = r ∧ p < ns.length := by
  have hp : p < ns.length := by
    by_cases c : p < ns.length
    · exact c
    · rw [List.drop_eq_nil_of_le (by omega)] at h; cases h
  rw [List.drop_eq_getElem_cons hp] at h
  have e1 := (List.cons.inj h).1
  have e2 := (List.cons.inj h).2
  exact ⟨by rw [List.getElem?_eq_getElem hp, e1], e2, hp⟩
theorem cut_ints {ns x r : List Int} {p : Nat} (h : ns.drop p = x ++ r) (hp : p ≤ ns.length) : cutV (ns.map V.int) (some (p : Int)) (some ((p + x.length : Nat) : Int)) = x.map V.int ∧ p + x.length ≤ ns.length ∧ ns.drop (p + x.length) = r := by
  have hl : p + x.length ≤ ns.length := by
    have := congrArg List.length h
    rw [List.length_drop, List.length_append] at this
    omega
  refine ⟨?_, hl, ?_⟩
  · rw [cut_mid (by omega) (by rw [List.length_map]; exact hl), ← List.map_drop, h, show p + x.length - p = x.length by omega, List.map_append, List.take_append_of_le_length (by rw [List.length_map]; exact Nat.le_refl _), List.take_of_length_le (by rw [List.length_map]; exact Nat.le_refl _)]
  · rw [← List.drop_drop, h, List.drop_left]
section
variable {P : Program} {w : World} {K : PySem.W.Frag} {mg : Str → Option Value} {base : Heap} {z o C : Addr}
def spRows (K : PySem.W.Frag) : Sp := fun vs H Q _ => ∃ (a : Addr) (ns : List Int) (p : Nat) (xs : List (List Int)) (t : List Int), vs = [.ref a, .int p, .int (xs.length : Int)] ∧ SqL K H a (ns.map V.int) ∧ ns.drop p = BD.rowsEnc xs ++ t ∧ p ≤ ns.length ∧ ns.length ≤ 100000 ∧ xs.length ≤ 100 ∧
  ∀ (H' : Hp) (D : Addr) (rs : List Addr), Same H H' → H D = none → H' D = some (.lst (rs.map V.ref)) → Paired (fun r (x : List Int) => H r = none ∧ H' r = some (.lst (x.map V.int))) rs xs → Q (.ref D) H'
theorem ok_rows {f : Addr} {fd : FuncData} {k0 : Nat} (F : Fun K "read_rows" "read_rows" sRows f fd) (c : Con K mg z o) : FnOk P w K mg base CX0 (k0 + 1) f fd ["calls", "place", "count"] (spRows K) := by
  refine F.ok scRows (fun vs H Q E h => ?_) (fun cdv A outer s H vs Q E hr h => ?_)
  · obtain ⟨a, ns, p, xs, t, rfl, _⟩ := h; rfl
  · obtain ⟨a, ns, p, xs, t, rfl, ha, hd, hp, hn, hx, k⟩ := h
    refine ⟨_, pss_cons (ps_set (i := 3) scRows.nd rfl (.inl rfl) (pe_lst pa_nil))
      (pss_cons (ps_for PassesOwn.never rfl (pi_range1 (by rfl) c.range (pa_cons (pv 2) pa_nil)) (pg_name (i := 4) scRows.nd rfl (.inl rfl))
        (pss_cons (ps_set (i := 5) scRows.nd rfl (.inl rfl) (pe_op op_add (pe_op op_add (pv 1) pe_int) (pe_ix ix_list (pv 0) (pv 1) (fun _ _ => rfl))))
        (pss_cons (ps_expr (pe_bm PySem.F.plainAttrs_list PySem.F.slot_list_append PySem.F.type_list_append mt_append (pv 3) (pa_cons (pe_slice sl_list (pv 0) (po_some (pe_op op_add (pv 1) pe_int)) (po_some (pv 5))) pa_nil)))
        (pss_one (ps_set (i := 1) scRows.nd rfl (.inl rfl) (pv 5))))))
      (pss_one (ps_ret (pv 3)))), ?_⟩
    refine ⟨Nat.zero_le _, fun D hD => ?_⟩
    have s0 := same_upd (o := .lst []) hD
    refine ⟨_, rfl, (xs.length : Int), rfl, by omega, by omega, ?_⟩
    rw [show ((xs.length : Int)).toNat = xs.length by omega]
    refine for_range (lo := 0) (n := xs.length) (fun i σ H' => ∃ (pl : Nat) (y4 y5 : Option V) (rs : List Addr), σ = [some (.ref a), some (.int pl), some (.int (xs.length : Int)), some (.ref D), y4, y5] ∧ Same H H' ∧ ns.drop pl = BD.rowsEnc (xs.drop i) ++ t ∧ pl ≤ ns.length ∧ H' D = some (.lst (rs.map V.ref)) ∧ Paired (fun r (x : List Int) => H r = none ∧ r ≠ D ∧ H' r = some (.lst (x.map V.int))) rs (xs.take i))
      ⟨p, none, none, [], rfl, s0, hd, hp, upd_same, .nil⟩ (fun i σ H' hi hPv => ?_) (fun σ H' hPv => ?_)
    · obtain ⟨pl, y4, y5, rs, rfl, sm, hdr, hpl, hDr, hrs⟩ := hPv
      have ex : xs.drop i = xs[i] :: xs.drop (i + 1) := List.drop_eq_getElem_cons hi
      have ei : xs[i]? = some xs[i] := List.getElem?_eq_getElem hi
      generalize xs[i] = x at ex ei
      rw [ex, BD.rowsEnc_cons, List.cons_append, List.append_assoc] at hdr
      obtain ⟨h1, h2, h3⟩ := drop_at hdr
      obtain ⟨h4, h5, h6⟩ := cut_ints h2 (by omega)
      have ha' := sm.seq ha
      refine ⟨_, rfl, _, _, rfl, rfl, _, rfl, _, rfl, a, _, _, .int (x.length : Int), rfl, rfl, ha', atI_nat (by rw [List.getElem?_map, h1]; rfl), _, _, rfl, rfl, ?_⟩
      refine ⟨_, rfl, .inl ⟨rfl, _, sqL hDr⟩, _, rfl, _, rfl, _, _, rfl, rfl, _, rfl, _, rfl, _, rfl, a, _, rfl, ha', fun r nr => ?_⟩
      rw [show (pl : Int) + 1 + (x.length : Int) = ((pl + 1 + x.length : Nat) : Int) by omega, show (pl : Int) + 1 = ((pl + 1 : Nat) : Int) by omega, h4]
      have s1 := same_upd (o := .lst (x.map V.int)) nr
      have hr1 : upd H' r (.lst (x.map V.int)) r = some (.lst (x.map V.int)) := upd_same
      have rD : r ≠ D := fun e => by rw [e, hDr] at nr; cases nr
      generalize upd H' r (HO.lst (x.map V.int)) = H1 at s1 hr1 ⊢
      have hD1 := s1 _ _ hDr
      have lrs := paired_len hrs
      rw [List.length_take] at lrs
      refine ⟨D, _, _, rfl, rfl, hD1, by rw [List.length_map]; exact small1000 (by omega), ?_⟩
      refine ⟨_, rfl, pl + 1 + x.length, _, _, rs ++ [r], rfl, same_grow (sm.trans s1) hD, h6, by omega, by rw [upd_same, List.map_append]; rfl, ?_⟩
      rw [take_more ei]
      refine Paired.snoc (pairedMap (fun q y hq => ⟨hq.1, hq.2.1, by rw [upd_ne hq.2.1]; exact s1 _ _ hq.2.2⟩) hrs) ⟨sm.free nr, rD, by rw [upd_ne rD]; exact hr1⟩
    · obtain ⟨pl, y4, y5, rs, rfl, sm, hdr, hpl, hDr, hrs⟩ := hPv
      rw [List.take_length] at hrs
      exact ⟨_, rfl, k H' D rs sm hD hDr (pairedMap (fun q y hq => ⟨hq.1, hq.2.2⟩) hrs)⟩
end
end BP
set_option Elab.async false
set_option linter.all false
set_option maxRecDepth 100000
set_option maxHeartbeats 2000000
namespace BP
open PySem PySem.Spec PyProof.Rows L2
section
variable {X : Cx} {C : Addr} {k : Nat} {m : Str} {ps : List Str} {sp : Sp} {pos apos : Pos} {ob e : Expr} {es : List Expr} {ta : TE} {t : TA}
theorem pe_calM {pl : Sem Bool} (c : CalM X.prog X.w X.K X.mg X.base C k m ps sp) (he : PE X ob ta) (cl : Cls X.K C) (hr : Room k X.A) (ha : PA X (e :: es) t) (hst : starEach (e :: es) X.env = (false, eval e X.env) :: starEach es X.env := by rfl)
    (hpl : (backTo pos (starEach es X.env)).any (·.1) = false := by rfl) (ht : eval (.Call (.Attribute ob m apos) (e :: es) [] pos) X.env = (do let ov ← eval ob X.env; standAt apos.atName; let (f, first) ← holding [ov] (getMethod ov m pl); callWith pos f first (backTo pos (starEach (e :: es) X.env)) (backToKw pos (keywordEach [] X.env))) := by rfl) :
    PE X (.Call (.Attribute ob m apos) (e :: es) [] pos) (tMeth C m sp [] E0 ta t) := by
  obtain ⟨f, fd, F, hm, b⟩ := c.ex
  exact pe_meth (pl := pl) he cl hm F hr b .nil pass0 ha hst hpl ht
end
theorem ifNe {p q : Int} {A B : Prop} (h : p ≠ q) (b : B) : if decide (V.int p = V.int q) = true then A else B := by
  rw [decide_eq_false (fun y => h (V.int.inj y))]
  exact iteF b
theorem ifSame {p : Int} {A B : Prop} (a : A) : if decide (V.int p = V.int p) = true then A else B := by
  rw [decide_eq_true rfl]
  exact iteT a
theorem step_no {s : List Rat × List Rat} {c : Sr74.Call} {ans : Sr66.Ans} (h : ∀ n, c ≠ .begin_ n) (e : Sr74.doing (BD.strOf s) c = (none, ans)) : Sr74.step (BD.stOf (some s)) c = (BD.stOf (some s), ans) := by
  rw [BD.do_some c s h, e]
theorem step_yes {s s' : List Rat × List Rat} {c : Sr74.Call} {ans : Sr66.Ans} (h : ∀ n, c ≠ .begin_ n) (e : Sr74.doing (BD.strOf s) c = (some (BD.strOf s'), ans)) : Sr74.step (BD.stOf (some s)) c = (BD.stOf (some s'), ans) := by
  rw [BD.do_some c s h, e]; rfl
def chg (p : Int) : Bool := p == 1 || p == 2 || p == 9 || p == 11 || p == 12
/-- behind a call on a string that's there -/
def Goes (K : PySem.W.Frag) (C : Addr) (H : Hp) (a g d : Addr) (s : List Rat × List Rat) (x : Sr74.Call) (Q : VK) : Prop :=
  ∀ s' : List Rat × List Rat, (Sr74.step (BD.stOf (some s)) x).1 = BD.stOf (some s') → Keep s'.1 s'.2 → After K C H a g d true s'.1 s'.2 (BD.ansOf (Sr74.step (BD.stOf (some s)) x).2) Q
theorem Goes.by {K : PySem.W.Frag} {C : Addr} {H : Hp} {a g d : Addr} {s s' : List Rat × List Rat} {x : Sr74.Call} {Q : VK} {ans : Sr66.Ans} (h : Goes K C H a g d s x Q) (e : Sr74.step (BD.stOf (some s)) x = (BD.stOf (some s'), ans)) (hk : Keep s'.1 s'.2) :
    After K C H a g d true s'.1 s'.2 (BD.ansOf ans) Q := by
  have := h s' (by rw [e]) hk
  rw [e] at this
  exact this
section
variable {P : Program} {w : World} {K : PySem.W.Frag} {mg : Str → Option Value} {base : Heap} {z o C : Addr}
def spChg (K : PySem.W.Frag) (C : Addr) : Sp := fun vs H Q _ => ∃ (a g d wa ra : Addr) (ls bs : List Rat) (p : Int) (args : List Int) (xs : List (List Int)) (x : Sr74.Call), vs = [.ref a, .int p, .ref wa, .ref ra] ∧ StA K C H a g d true ls bs ∧ Keep ls bs ∧ BD.Kind p args xs x ∧ chg p = true ∧ H wa = some (.lst (args.map V.int)) ∧ RowsA H ra xs ∧ Goes K C H a g d (ls, bs) x Q
theorem ok_chg {f : Addr} {fd : FuncData} (F : Fun K "answer_changing" "answer_changing" sChg f fd) (T : Txt K C) (N3 : Nms3 mg) (CG : CalM P w K mg base C 42 "set_gap" ["self", "i", "above", "below"] (spSetGap K C)) (CB : CalM P w K mg base C 42 "set_bead" ["self", "i", "above", "below"] (spSetBead K C))
    (CT : CalM P w K mg base C 47 "take" ["self", "e", "upper", "lower"] (spTake K C)) (CU : CalM P w K mg base C 1 "turn" ["self"] (spTurn K C)) (CJ : CalM P w K mg base C 42 "join_gaps" ["self", "i"] (spJoin K C)) :
    FnOk P w K mg base CX0 48 f fd ["strand", "number", "wholes", "rows"] (spChg K C) := by
  refine F.ok scChg (fun vs H Q E h => ?_) (fun cdv A outer s H vs Q E hr h => ?_)
  · obtain ⟨a, g, d, wa, ra, ls, bs, p, args, xs, x, rfl, _⟩ := h; rfl
  · obtain ⟨a, g, d, wa, ra, ls, bs, p, args, xs, x, rfl, hS, hk, kd, hc, hw, hR, k⟩ := h
    refine ⟨_, pss_cons (ps_if (pt_cmpR op_eq (pv 1) (pe_num N3.gap) (nomark _)) (pss_one (ps_ret (pe_calM CG (pv 0) T.cl (hr.mono (by decide)) (pa_cons (pe_ix ix_list (pv 2) pe_int (fun _ _ => rfl)) (pa_cons (pe_ix ix_list (pv 2) pe_int (fun _ _ => rfl)) (pa_cons (pe_ix ix_list (pv 2) pe_int (fun _ _ => rfl)) pa_nil)))))) pss_nil)
      (pss_cons (ps_if (pt_cmpR op_eq (pv 1) (pe_num N3.bead) (nomark _)) (pss_one (ps_ret (pe_calM CB (pv 0) T.cl (hr.mono (by decide)) (pa_cons (pe_ix ix_list (pv 2) pe_int (fun _ _ => rfl)) (pa_cons (pe_ix ix_list (pv 2) pe_int (fun _ _ => rfl)) (pa_cons (pe_ix ix_list (pv 2) pe_int (fun _ _ => rfl)) pa_nil)))))) pss_nil)
      (pss_cons (ps_if (pt_cmpR op_eq (pv 1) (pe_num N3.take) (nomark _)) (pss_one (ps_ret (pe_calM CT (pv 0) T.cl hr (pa_cons (pe_ix ix_list (pv 2) pe_int (fun _ _ => rfl)) (pa_cons (pe_ix ix_list (pv 3) pe_int (fun _ _ => rfl)) (pa_cons (pe_ix ix_list (pv 3) pe_int (fun _ _ => rfl)) pa_nil)))))) pss_nil)
      (pss_cons (ps_if (pt_cmpR op_eq (pv 1) (pe_num N3.turn) (nomark _)) (pss_one (ps_ret (pe_calM0 CU (pv 0) T.cl (hr.mono (by decide))))) pss_nil)
      (pss_one (ps_ret (pe_calM CJ (pv 0) T.cl (hr.mono (by decide)) (pa_cons (pe_ix ix_list (pv 2) pe_int (fun _ _ => rfl)) pa_nil))))))), ?_⟩
    have hS0 := hS
    obtain ⟨⟨dx, ho⟩, _, _, _⟩ := hS
    have l1 := hk.len
    have l4 := hk.most
    have no : ∀ {m : Str}, (m == ("begun" : Str)) = false → (m == ("gaps" : Str)) = false → (m == ("beads" : Str)) = false → (sF true g d).lookup m = none := fun h1 h2 h3 => sF_none true g d h1 h2 h3
    cases kd with
    | gap i x y =>
      refine ⟨_, rfl, rfl, _, rfl, ifSame ?_⟩
      refine ⟨_, rfl, a, dx, _, rfl, ho, no (by decide +kernel) (by decide +kernel) (by decide +kernel), _, rfl, wa, _, _, _, rfl, rfl, sqL hw, rfl, _, rfl, wa, _, _, _, rfl, rfl, sqL hw, rfl, _, rfl, wa, _, _, _, rfl, rfl, sqL hw, rfl, ?_⟩
      refine ⟨a, g, d, true, ls, bs, i, x, y, rfl, hS0, by omega, fun h => ?_, fun h h2 => ?_, fun h h2 => ?_⟩
      · exact k.by (step_no (fun n y => by cases y) (by rw [BD.do_gap, if_pos (by omega)])) hk
      · exact k.by (step_no (fun n y => by cases y) (by rw [BD.do_gap, if_neg (by omega), if_pos (by unfold okPart at h2; omega)])) hk
      · obtain ⟨z1, z2⟩ := part_sz h2
        exact k.by (s' := (ls.set i.toNat ((x : Rat) / (y : Rat)), bs)) (step_yes (fun n y => by cases y) (by rw [BD.do_gap, if_neg (by omega), if_neg (by unfold okPart at h2; omega)])) (hk.gap z1 z2 _)
    | bead i x y =>
      refine ⟨_, rfl, rfl, _, rfl, ifNe (by decide) ?_⟩
      refine ⟨_, rfl, rfl, _, rfl, ifSame ?_⟩
      refine ⟨_, rfl, a, dx, _, rfl, ho, no (by decide +kernel) (by decide +kernel) (by decide +kernel), _, rfl, wa, _, _, _, rfl, rfl, sqL hw, rfl, _, rfl, wa, _, _, _, rfl, rfl, sqL hw, rfl, _, rfl, wa, _, _, _, rfl, rfl, sqL hw, rfl, ?_⟩
      refine ⟨a, g, d, true, ls, bs, i, x, y, rfl, hS0, by omega, fun h => ?_, fun h h2 => ?_, fun h h2 => ?_⟩
      · exact k.by (step_no (fun n y => by cases y) (by rw [BD.do_bead, if_pos (by omega)])) hk
      · exact k.by (step_no (fun n y => by cases y) (by rw [BD.do_bead, if_neg (by omega), if_pos (by unfold okPart at h2; omega)])) hk
      · obtain ⟨z1, z2⟩ := part_sz h2
        exact k.by (s' := (ls, bs.set i.toNat ((x : Rat) / (y : Rat)))) (step_yes (fun n y => by cases y) (by rw [BD.do_bead, if_neg (by omega), if_neg (by unfold okPart at h2; omega)])) (hk.bead z1 z2 _)
    | take e ps qs ie ip lp iq lq =>
      obtain ⟨rs, hrs, hpr⟩ := hR
      cases hpr with
      | cons r0 t0 =>
      cases t0 with
      | cons r1 t1 =>
      cases t1
      refine ⟨_, rfl, rfl, _, rfl, ifNe (by decide) ?_⟩
      refine ⟨_, rfl, rfl, _, rfl, ifNe (by decide) ?_⟩
      refine ⟨_, rfl, rfl, _, rfl, ifSame ?_⟩
      refine ⟨_, rfl, a, dx, _, rfl, ho, no (by decide +kernel) (by decide +kernel) (by decide +kernel), _, rfl, wa, _, _, _, rfl, rfl, sqL hw, rfl, _, rfl, ra, _, _, _, rfl, rfl, sqL hrs, rfl, _, rfl, ra, _, _, _, rfl, rfl, sqL hrs, rfl, ?_⟩
      refine ⟨a, g, d, true, ls, bs, e, _, _, ps, qs, rfl, hS0, r0, r1, ie, ip, iq, fun h => ?_, fun h h2 => ?_, fun h s hs h2 => ?_, fun h s hs h2 => ?_⟩
      · exact k.by (step_no (fun n y => by cases y) (BD.do_take_no ls bs h)) hk
      · exact k.by (step_no (fun n y => by cases y) (BD.do_take_none ls bs h h2)) hk
      · exact k.by (step_no (fun n y => by cases y) (BD.do_take_big ls bs h hs h2)) hk
      · exact k.by (s' := s) (step_yes (fun n y => by cases y) (BD.do_take ls bs h hs h2)) (keep_take hs (by rw [byE_len]; exact h.2.2.2) h2)
    | turn =>
      refine ⟨_, rfl, rfl, _, rfl, ifNe (by decide) ?_⟩
      refine ⟨_, rfl, rfl, _, rfl, ifNe (by decide) ?_⟩
      refine ⟨_, rfl, rfl, _, rfl, ifNe (by decide) ?_⟩
      refine ⟨_, rfl, rfl, _, rfl, ifSame ?_⟩
      refine ⟨_, rfl, a, dx, _, rfl, ho, no (by decide +kernel) (by decide +kernel) (by decide +kernel), ?_⟩
      exact ⟨a, g, d, true, ls, bs, rfl, hS0, k.by (s' := (ls.reverse, bs.reverse)) (step_yes (fun n y => by cases y) (BD.do_turn ls bs)) hk.turn⟩
    | join i =>
      refine ⟨_, rfl, rfl, _, rfl, ifNe (by decide) ?_⟩
      refine ⟨_, rfl, rfl, _, rfl, ifNe (by decide) ?_⟩
      refine ⟨_, rfl, rfl, _, rfl, ifNe (by decide) ?_⟩
      refine ⟨_, rfl, rfl, _, rfl, ifNe (by decide) ?_⟩
      refine ⟨_, rfl, a, dx, _, rfl, ho, no (by decide +kernel) (by decide +kernel) (by decide +kernel), _, rfl, wa, _, _, _, rfl, rfl, sqL hw, rfl, ?_⟩
      refine ⟨a, g, d, true, ls, bs, i, rfl, hS0, l1, l4, fun x hx => (hk.good.ls x hx).bg (Nat.le_trans (show _ ≤ 2000 by omega) (by decide)), fun h => ?_, fun h h2 => ?_, fun h h2 => ?_⟩
      · exact k.by (step_no (fun n y => by cases y) (by rw [BD.do_join, if_pos (by omega)])) hk
      · exact k.by (step_no (fun n y => by cases y) (by rw [BD.do_join, if_neg (by omega), if_pos (by omega)])) hk
      · exact k.by (s' := BD.rjoin ls bs i.toNat) (step_yes (fun n y => by cases y) (by rw [BD.do_join, if_neg (by omega), if_neg (by omega)])) (hk.join (by omega))
    | _ => exact absurd hc (by decide)
/-! ### answer_asking -/
def spAsk (K : PySem.W.Frag) (C : Addr) : Sp := fun vs H Q _ => ∃ (a wa ra : Addr) (ls bs : List Rat) (p : Int) (args : List Int) (xs : List (List Int)) (x : Sr74.Call), vs = [.ref a, .int p, .ref wa, .ref ra] ∧ Has K C H a ls bs ∧ BD.Kind p args xs x ∧ chg p = false ∧ p ≠ 0 ∧ H wa = some (.lst (args.map V.int)) ∧ RowsA H ra xs ∧
  ∀ ans, Sr74.doing (BD.strOf (ls, bs)) x = (none, ans) → NewL H (BD.ansOf ans) Q
theorem ok_ask {f : Addr} {fd : FuncData} (F : Fun K "answer_asking" "answer_asking" sAsk f fd) (T : Txt K C) (N3 : Nms3 mg) (CP : CalM P w K mg base C 3 "all_parts" ["self"] (spAns K C fun ls bs => (bs.length : Int) :: BD.nums (ls ++ bs))) (CA : CalM P w K mg base C 44 "answer" ["self"] (spAns K C fun ls bs => (bs.length : Int) :: BD.nums ((BD.rans ls bs).1 ++ (BD.rans ls bs).2)))
    (CT : CalM P w K mg base C 44 "answer_at" ["self", "above", "below"] (spAt K C)) (CR : CalM P w K mg base C 46 "rings" ["self", "left_above", "left_below", "right_above", "right_below"] (spRings K C)) (CL : CalM P w K mg base C 46 "all_rings" ["self"] (spAns K C fun ls bs => [(Sr71.rootsAbove (BD.fl (BD.rans ls bs).2) : Int), (Sr71.rootsAbove (BD.fl (BD.rans ls bs).1) : Int), (Sr71.roots (BD.fl (BD.rans ls bs).2) : Int), (Sr71.roots (BD.fl (BD.rans ls bs).1) : Int)]))
    (CD : CalM P w K mg base C 47 "told" ["self", "e", "upper", "lower"] (spToldM K)) (CF : CalM P w K mg base C 46 "found" ["self"] (spAns K C fun ls bs => (bs.length : Int) :: BD.nums (ls ++ bs))) (CM : CalM P w K mg base C 44 "means" ["self", "k"] (spMeans K C)) (CS : CalM P w K mg base C 43 "measures" ["self"] (spAns K C fun ls bs => 0 :: BD.nums [ls.foldl (· + ·) 0, bs.foldl (· + ·) 0])) :
    FnOk P w K mg base CX0 48 f fd ["strand", "number", "wholes", "rows"] (spAsk K C) := by
  refine F.ok scAsk (fun vs H Q E h => ?_) (fun cdv A outer s H vs Q E hr h => ?_)
  · obtain ⟨a, wa, ra, ls, bs, p, args, xs, x, rfl, _⟩ := h; rfl
  · obtain ⟨a, wa, ra, ls, bs, p, args, xs, x, rfl, hH, kd, hc, hp0, hw, hR, k⟩ := h
    refine ⟨_, pss_cons (ps_if (pt_cmpR op_eq (pv 1) (pe_num N3.string) (nomark _)) (pss_one (ps_ret (pe_calM0 CP (pv 0) T.cl (hr.mono (by decide))))) pss_nil)
      (pss_cons (ps_if (pt_cmpR op_eq (pv 1) (pe_num N3.answer) (nomark _)) (pss_one (ps_ret (pe_calM0 CA (pv 0) T.cl (hr.mono (by decide))))) pss_nil)
      (pss_cons (ps_if (pt_cmpR op_eq (pv 1) (pe_num N3.at_) (nomark _)) (pss_one (ps_ret (pe_calM CT (pv 0) T.cl (hr.mono (by decide)) (pa_cons (pe_ix ix_list (pv 2) pe_int (fun _ _ => rfl)) (pa_cons (pe_ix ix_list (pv 2) pe_int (fun _ _ => rfl)) pa_nil))))) pss_nil)
      (pss_cons (ps_if (pt_cmpR op_eq (pv 1) (pe_num N3.rings) (nomark _)) (pss_one (ps_ret (pe_calM CR (pv 0) T.cl (hr.mono (by decide)) (pa_cons (pe_ix ix_list (pv 2) pe_int (fun _ _ => rfl)) (pa_cons (pe_ix ix_list (pv 2) pe_int (fun _ _ => rfl)) (pa_cons (pe_ix ix_list (pv 2) pe_int (fun _ _ => rfl)) (pa_cons (pe_ix ix_list (pv 2) pe_int (fun _ _ => rfl)) pa_nil))))))) pss_nil)
      (pss_cons (ps_if (pt_cmpR op_eq (pv 1) (pe_num N3.all) (nomark _)) (pss_one (ps_ret (pe_calM0 CL (pv 0) T.cl (hr.mono (by decide))))) pss_nil)
      (pss_cons (ps_if (pt_cmpR op_eq (pv 1) (pe_num N3.told) (nomark _)) (pss_one (ps_ret (pe_calM CD (pv 0) T.cl hr (pa_cons (pe_ix ix_list (pv 2) pe_int (fun _ _ => rfl)) (pa_cons (pe_ix ix_list (pv 3) pe_int (fun _ _ => rfl)) (pa_cons (pe_ix ix_list (pv 3) pe_int (fun _ _ => rfl)) pa_nil)))))) pss_nil)
      (pss_cons (ps_if (pt_cmpR op_eq (pv 1) (pe_num N3.found) (nomark _)) (pss_one (ps_ret (pe_calM0 CF (pv 0) T.cl (hr.mono (by decide))))) pss_nil)
      (pss_cons (ps_if (pt_cmpR op_eq (pv 1) (pe_num N3.means) (nomark _)) (pss_one (ps_ret (pe_calM CM (pv 0) T.cl (hr.mono (by decide)) (pa_cons (pe_ix ix_list (pv 2) pe_int (fun _ _ => rfl)) pa_nil)))) pss_nil)
      (pss_one (ps_ret (pe_calM0 CS (pv 0) T.cl (hr.mono (by decide)))))))))))), ?_⟩
    obtain ⟨⟨g, d, hS⟩, gd⟩ := id hH
    obtain ⟨⟨dx, ho⟩, _, _, _⟩ := hS
    have no : ∀ {m : Str}, (m == ("begun" : Str)) = false → (m == ("gaps" : Str)) = false → (m == ("beads" : Str)) = false → (sF true g d).lookup m = none := fun h1 h2 h3 => sF_none true g d h1 h2 h3
    cases kd with
    | string =>
      refine ⟨_, rfl, rfl, _, rfl, ifSame ?_⟩
      exact ⟨_, rfl, a, dx, _, rfl, ho, no (by decide +kernel) (by decide +kernel) (by decide +kernel), a, ls, bs, rfl, hH, k _ (BD.do_string ls bs)⟩
    | answer =>
      refine ⟨_, rfl, rfl, _, rfl, ifNe (by decide) ?_⟩
      refine ⟨_, rfl, rfl, _, rfl, ifSame ?_⟩
      exact ⟨_, rfl, a, dx, _, rfl, ho, no (by decide +kernel) (by decide +kernel) (by decide +kernel), a, ls, bs, rfl, hH, k _ (BD.do_answer ls bs)⟩
    | at_ x y =>
      refine ⟨_, rfl, rfl, _, rfl, ifNe (by decide) ?_⟩
      refine ⟨_, rfl, rfl, _, rfl, ifNe (by decide) ?_⟩
      refine ⟨_, rfl, rfl, _, rfl, ifSame ?_⟩
      refine ⟨_, rfl, a, dx, _, rfl, ho, no (by decide +kernel) (by decide +kernel) (by decide +kernel), _, rfl, wa, _, _, _, rfl, rfl, sqL hw, rfl, _, rfl, wa, _, _, _, rfl, rfl, sqL hw, rfl, ?_⟩
      refine ⟨a, ls, bs, x, y, rfl, hH, fun h => k _ (BD.do_at_no ls bs h), fun h => ?_⟩
      have := k _ (BD.do_at ls bs h)
      by_cases c : BD.ev ((x : Rat) / (y : Rat)) (BD.rans ls bs).2 = 0
      · rw [if_pos c] at this ⊢
        exact this
      · rw [if_neg c] at this ⊢
        exact this
    | rings x y u v =>
      refine ⟨_, rfl, rfl, _, rfl, ifNe (by decide) ?_⟩
      refine ⟨_, rfl, rfl, _, rfl, ifNe (by decide) ?_⟩
      refine ⟨_, rfl, rfl, _, rfl, ifNe (by decide) ?_⟩
      refine ⟨_, rfl, rfl, _, rfl, ifSame ?_⟩
      refine ⟨_, rfl, a, dx, _, rfl, ho, no (by decide +kernel) (by decide +kernel) (by decide +kernel), _, rfl, wa, _, _, _, rfl, rfl, sqL hw, rfl, _, rfl, wa, _, _, _, rfl, rfl, sqL hw, rfl, _, rfl, wa, _, _, _, rfl, rfl, sqL hw, rfl, _, rfl, wa, _, _, _, rfl, rfl, sqL hw, rfl, ?_⟩
      exact ⟨a, ls, bs, x, y, u, v, rfl, hH, fun h => k _ (BD.do_rings_no ls bs h), fun h1 h2 h3 => k _ (BD.do_rings ls bs h1 h2 h3)⟩
    | all =>
      refine ⟨_, rfl, rfl, _, rfl, ifNe (by decide) ?_⟩
      refine ⟨_, rfl, rfl, _, rfl, ifNe (by decide) ?_⟩
      refine ⟨_, rfl, rfl, _, rfl, ifNe (by decide) ?_⟩
      refine ⟨_, rfl, rfl, _, rfl, ifNe (by decide) ?_⟩
      refine ⟨_, rfl, rfl, _, rfl, ifSame ?_⟩
      exact ⟨_, rfl, a, dx, _, rfl, ho, no (by decide +kernel) (by decide +kernel) (by decide +kernel), a, ls, bs, rfl, hH, k _ (BD.do_all ls bs)⟩
    | told e ps qs ie ip lp iq lq =>
      obtain ⟨rs, hrs, hpr⟩ := hR
      cases hpr with
      | cons r0 t0 =>
      cases t0 with
      | cons r1 t1 =>
      cases t1
      refine ⟨_, rfl, rfl, _, rfl, ifNe (by decide) ?_⟩
      refine ⟨_, rfl, rfl, _, rfl, ifNe (by decide) ?_⟩
      refine ⟨_, rfl, rfl, _, rfl, ifNe (by decide) ?_⟩
      refine ⟨_, rfl, rfl, _, rfl, ifNe (by decide) ?_⟩
      refine ⟨_, rfl, rfl, _, rfl, ifNe (by decide) ?_⟩
      refine ⟨_, rfl, rfl, _, rfl, ifSame ?_⟩
      refine ⟨_, rfl, a, dx, _, rfl, ho, no (by decide +kernel) (by decide +kernel) (by decide +kernel), _, rfl, wa, _, _, _, rfl, rfl, sqL hw, rfl, _, rfl, ra, _, _, _, rfl, rfl, sqL hrs, rfl, _, rfl, ra, _, _, _, rfl, rfl, sqL hrs, rfl, ?_⟩
      refine ⟨_, e, _, _, ps, qs, rfl, r0, r1, ie, ip, iq, fun h => k _ (BD.do_told_no ls bs h), fun h h2 => ?_, fun h s hs => ?_⟩
      · have := BD.do_told ls bs h
        rw [h2] at this
        exact k _ this
      · have := BD.do_told ls bs h
        rw [hs] at this
        exact k _ this
    | found =>
      refine ⟨_, rfl, rfl, _, rfl, ifNe (by decide) ?_⟩
      refine ⟨_, rfl, rfl, _, rfl, ifNe (by decide) ?_⟩
      refine ⟨_, rfl, rfl, _, rfl, ifNe (by decide) ?_⟩
      refine ⟨_, rfl, rfl, _, rfl, ifNe (by decide) ?_⟩
      refine ⟨_, rfl, rfl, _, rfl, ifNe (by decide) ?_⟩
      refine ⟨_, rfl, rfl, _, rfl, ifNe (by decide) ?_⟩
      refine ⟨_, rfl, rfl, _, rfl, ifSame ?_⟩
      exact ⟨_, rfl, a, dx, _, rfl, ho, no (by decide +kernel) (by decide +kernel) (by decide +kernel), a, ls, bs, rfl, hH, k _ (BD.do_found ls bs gd.len gd.lp gd.bp)⟩
    | means i =>
      refine ⟨_, rfl, rfl, _, rfl, ifNe (by decide) ?_⟩
      refine ⟨_, rfl, rfl, _, rfl, ifNe (by decide) ?_⟩
      refine ⟨_, rfl, rfl, _, rfl, ifNe (by decide) ?_⟩
      refine ⟨_, rfl, rfl, _, rfl, ifNe (by decide) ?_⟩
      refine ⟨_, rfl, rfl, _, rfl, ifNe (by decide) ?_⟩
      refine ⟨_, rfl, rfl, _, rfl, ifNe (by decide) ?_⟩
      refine ⟨_, rfl, rfl, _, rfl, ifNe (by decide) ?_⟩
      refine ⟨_, rfl, rfl, _, rfl, ifSame ?_⟩
      refine ⟨_, rfl, a, dx, _, rfl, ho, no (by decide +kernel) (by decide +kernel) (by decide +kernel), _, rfl, wa, _, _, _, rfl, rfl, sqL hw, rfl, ?_⟩
      exact ⟨a, ls, bs, i, rfl, hH, fun h => k _ (BD.do_means_no ls bs h), fun h => k _ (BD.do_means ls bs h)⟩
    | long =>
      refine ⟨_, rfl, rfl, _, rfl, ifNe (by decide) ?_⟩
      refine ⟨_, rfl, rfl, _, rfl, ifNe (by decide) ?_⟩
      refine ⟨_, rfl, rfl, _, rfl, ifNe (by decide) ?_⟩
      refine ⟨_, rfl, rfl, _, rfl, ifNe (by decide) ?_⟩
      refine ⟨_, rfl, rfl, _, rfl, ifNe (by decide) ?_⟩
      refine ⟨_, rfl, rfl, _, rfl, ifNe (by decide) ?_⟩
      refine ⟨_, rfl, rfl, _, rfl, ifNe (by decide) ?_⟩
      refine ⟨_, rfl, rfl, _, rfl, ifNe (by decide) ?_⟩
      exact ⟨_, rfl, a, dx, _, rfl, ho, no (by decide +kernel) (by decide +kernel) (by decide +kernel), a, ls, bs, rfl, hH, k _ (BD.do_long ls bs)⟩
    | begin_ n => exact absurd rfl hp0
    | _ => exact absurd hc (by decide)
end
end BP
set_option Elab.async false
set_option linter.all false
set_option maxRecDepth 100000
set_option maxHeartbeats 2000000
namespace BP
open PySem PySem.Spec PyProof.Rows L2
/-! ### the state in the heap -/
def stG (st : Option (List Rat × List Rat)) : List Rat := (st.getD ([], [])).1
def stD (st : Option (List Rat × List Rat)) : List Rat := (st.getD ([], [])).2
def StO (K : PySem.W.Frag) (C : Addr) (H : Hp) (a g d : Addr) (st : Option (List Rat × List Rat)) : Prop := StA K C H a g d st.isSome (stG st) (stD st)
def KeepO (st : Option (List Rat × List Rat)) : Prop := ∀ s, st = some s → Keep s.1 s.2
/-- behind any call -/
def GoesO (K : PySem.W.Frag) (C : Addr) (H : Hp) (a g d : Addr) (st : Option (List Rat × List Rat)) (x : Sr74.Call) (Q : VK) : Prop :=
  ∀ st', (Sr74.step (BD.stOf st) x).1 = BD.stOf st' → KeepO st' → After K C H a g d st'.isSome (stG st') (stD st') (BD.ansOf (Sr74.step (BD.stOf st) x).2) Q
theorem GoesO.by {K : PySem.W.Frag} {C : Addr} {H : Hp} {a g d : Addr} {st st' : Option (List Rat × List Rat)} {x : Sr74.Call} {Q : VK} {ans : Sr66.Ans} (h : GoesO K C H a g d st x Q) (e : Sr74.step (BD.stOf st) x = (BD.stOf st', ans)) (hk : KeepO st') :
    After K C H a g d st'.isSome (stG st') (stD st') (BD.ansOf ans) Q := by
  have := h st' (by rw [e]) hk
  rw [e] at this
  exact this
theorem keepO_none : KeepO none := fun s h => by cases h
theorem keepO_some {s : List Rat × List Rat} (h : Keep s.1 s.2) : KeepO (some s) := fun s' e => by
  obtain rfl := Option.some.inj e
  exact h
theorem kind_begin {p : Int} {args : List Int} {xs : List (List Int)} {x : Sr74.Call} (k : BD.Kind p args xs x) (h : p ≠ 0) : ∀ n, x ≠ .begin_ n := fun n e => by
  subst e
  cases k
  exact h rfl
theorem kind_pos {p : Int} {args : List Int} {xs : List (List Int)} {x : Sr74.Call} (k : BD.Kind p args xs x) : p = 0 ∨ p ≠ 0 := by omega
/-- an asking call changes nothing -/
theorem asks_none {p : Int} {args : List Int} {xs : List (List Int)} {x : Sr74.Call} (k : BD.Kind p args xs x) (h : p ≠ 0) (hc : chg p = false) {ls bs : List Rat} (kp : Keep ls bs) : ∃ ans, Sr74.doing (BD.strOf (ls, bs)) x = (none, ans) := by
  cases k with
  | begin_ n => exact absurd rfl h
  | gap i a b => exact absurd hc (by decide)
  | bead i a b => exact absurd hc (by decide)
  | take e p q h1 h2 h3 h4 h5 => exact absurd hc (by decide)
  | turn => exact absurd hc (by decide)
  | join i => exact absurd hc (by decide)
  | string => exact ⟨_, rfl⟩
  | answer => exact ⟨_, rfl⟩
  | at_ a b => exact ⟨_, rfl⟩
  | rings a b c d => exact ⟨_, rfl⟩
  | all => exact ⟨_, rfl⟩
  | told e p q h1 h2 h3 h4 h5 => exact ⟨_, rfl⟩
  | found => exact ⟨_, rfl⟩
  | means k => exact ⟨_, rfl⟩
  | long => exact ⟨_, rfl⟩
theorem in_chg (p : Int) : inV (.int p) [.int 1, .int 2, .int 9, .int 11, .int 12] = chg p := by
  show (((1 : Int) == p) || ((2 : Int) == p || ((9 : Int) == p || ((11 : Int) == p || ((12 : Int) == p || false))))) = (p == 1 || p == 2 || p == 9 || p == 11 || p == 12)
  rw [Bool.eq_iff_iff]
  simp only [Bool.or_eq_true, beq_iff_eq, Bool.false_eq_true, or_false]
  omega
theorem RowsA.same {H H' : Hp} {ra : Addr} {xs : List (List Int)} (h : RowsA H ra xs) (e : Same H H') : RowsA H' ra xs := by
  obtain ⟨rs, h1, h2⟩ := h
  exact ⟨rs, e _ _ h1, pairedMap (fun _ _ q => e _ _ q) h2⟩
theorem After.mono {K : PySem.W.Frag} {C : Addr} {H H1 : Hp} {a g d : Addr} {b : Bool} {ls bs : List Rat} {ns : List Int} {Q : VK} (h : After K C H a g d b ls bs ns Q) (e : Same H H1) : After K C H1 a g d b ls bs ns Q :=
  fun H' g' d' p hS kp hg hd hp hl => h H' g' d' p hS (fun c x q n1 n2 n3 => kp c x (e _ _ q) n1 n2 n3) (hg.imp_right e.free) (hd.imp_right e.free) (e.free hp) hl
section
variable {P : Program} {w : World} {K : PySem.W.Frag} {mg : Str → Option Value} {base : Heap} {z o C : Addr}
def spCall (K : PySem.W.Frag) (C : Addr) : Sp := fun vs H Q _ => ∃ (a g d wa ra : Addr) (st : Option (List Rat × List Rat)) (p : Int) (args : List Int) (xs : List (List Int)) (x : Sr74.Call), vs = [.ref a, .int p, .ref wa, .ref ra] ∧ StO K C H a g d st ∧ KeepO st ∧ BD.Kind p args xs x ∧ H wa = some (.lst (args.map V.int)) ∧ RowsA H ra xs ∧ GoesO K C H a g d st x Q
theorem ok_call {f : Addr} {fd : FuncData} (F : Fun K "answer_call" "answer_call" sCall f fd) (T : Txt K C) (N3 : Nms3 mg) (CB : CalM P w K mg base C 2 "begin" ["self", "n"] (spBegin K C)) (CC : Cal P w K mg base 48 "answer_changing" ["strand", "number", "wholes", "rows"] (spChg K C)) (CA : Cal P w K mg base 48 "answer_asking" ["strand", "number", "wholes", "rows"] (spAsk K C)) :
    FnOk P w K mg base CX0 49 f fd ["strand", "number", "wholes", "rows"] (spCall K C) := by
  refine F.ok scCall (fun vs H Q E h => ?_) (fun cdv A outer s H vs Q E hr h => ?_)
  · obtain ⟨a, g, d, wa, ra, st, p, args, xs, x, rfl, _⟩ := h; rfl
  · obtain ⟨a, g, d, wa, ra, st, p, args, xs, x, rfl, hS, hk, kd, hw, hR, k⟩ := h
    refine ⟨_, pss_cons (ps_if (pt_cmpR op_eq (pv 1) (pe_num N3.begin_) (nomark _)) (pss_one (ps_ret (pe_calM CB (pv 0) T.cl (hr.mono (by decide)) (pa_cons (pe_ix ix_list (pv 2) pe_int (fun _ _ => rfl)) pa_nil)))) pss_nil)
      (pss_cons (ps_if (pt_not (pt_val (pe_fld (pv 0) rfl))) (pss_one (ps_ret (pe_lst (pa_cons (pe_num N3.begun) pa_nil)))) pss_nil)
      (pss_cons (ps_if (pt_cmpR op_in_seq (pv 1) (pe_tup (pa_cons (pe_num N3.gap) (pa_cons (pe_num N3.bead) (pa_cons (pe_num N3.take) (pa_cons (pe_num N3.turn) (pa_cons (pe_num N3.join) pa_nil)))))) (by with_unfolding_all rfl)) (pss_one (ps_ret (pe_cal CC hr (pa_cons (pv 0) (pa_cons (pv 1) (pa_cons (pv 2) (pa_cons (pv 3) pa_nil))))))) pss_nil)
      (pss_one (ps_ret (pe_cal CA hr (pa_cons (pv 0) (pa_cons (pv 1) (pa_cons (pv 2) (pa_cons (pv 3) pa_nil))))))))), ?_⟩
    have hS0 := hS
    obtain ⟨⟨dx, ho⟩, _, _, _⟩ := hS
    have no : ∀ {m : Str}, (m == ("begun" : Str)) = false → (m == ("gaps" : Str)) = false → (m == ("beads" : Str)) = false → (sF st.isSome g d).lookup m = none := fun h1 h2 h3 => sF_none st.isSome g d h1 h2 h3
    refine ⟨_, rfl, rfl, _, rfl, ?_⟩
    by_cases hp : p = 0
    · subst hp
      refine ifSame ?_
      cases kd with
      | begin_ n =>
        refine ⟨_, rfl, a, dx, _, rfl, ho, no (by decide +kernel) (by decide +kernel) (by decide +kernel), _, rfl, wa, _, _, _, rfl, rfl, sqL hw, rfl, ?_⟩
        refine ⟨a, g, d, _, _, _, n, rfl, hS0, fun h => ?_, fun h => ?_⟩
        · exact k.by (by rw [BD.do_begin, if_pos (by omega)]) hk
        · exact k.by (st' := some (List.replicate (n.toNat + 1) 1, List.replicate n.toNat 1)) (by rw [BD.do_begin, if_neg (by omega)]) (keepO_some (keep_begin (by omega)))
    · refine ifNe hp ?_
      have nb := kind_begin kd hp
      refine ⟨_, rfl, a, C, dx, _, _, rfl, ho, T.cl, T.nU, sF_begun _ g d, _, rfl, ?_⟩
      cases st with
      | none =>
        refine iteT ?_
        exact ⟨by show 1 ≤ sizeLine; decide, fun q hq => newL_one ((k.by (st' := none) (BD.do_none x nb) keepO_none).newL hS0) q hq⟩
      | some s =>
        refine iteF ?_
        have hkp : Keep s.1 s.2 := hk s rfl
        refine ⟨_, rfl, by show 5 ≤ sizeLine; decide, fun t nt => ?_⟩
        have s1 := same_upd (o := .tup [V.int 1, V.int 2, V.int 9, V.int 11, V.int 12]) nt
        refine ⟨t, _, rfl, .inr (.inl (.inl upd_same)), rfl, rfl, _, rfl, ?_⟩
        rw [show (if false = true then !inV (V.int p) [V.int 1, V.int 2, V.int 9, V.int 11, V.int 12] else inV (V.int p) [V.int 1, V.int 2, V.int 9, V.int 11, V.int 12]) = chg p from in_chg p]
        generalize upd H t (.tup [V.int 1, V.int 2, V.int 9, V.int 11, V.int 12]) = H1 at s1 ⊢
        have hS1 : StA K C H1 a g d true s.1 s.2 := StA.same hS0 s1
        cases hc : chg p with
        | true =>
          refine iteT ?_
          refine ⟨_, rfl, _, rfl, _, rfl, _, rfl, a, g, d, wa, ra, s.1, s.2, p, args, xs, x, rfl, hS1, hkp, kd, hc, s1 _ _ hw, hR.same s1, fun s' e hk' => ?_⟩
          exact (k (some s') e (keepO_some hk')).mono s1
        | false =>
          refine iteF ?_
          obtain ⟨ans, ea⟩ := asks_none kd hp hc hkp
          refine ⟨_, rfl, _, rfl, _, rfl, _, rfl, a, wa, ra, s.1, s.2, p, args, xs, x, rfl, ⟨⟨g, d, hS1⟩, hkp.good⟩, kd, hc, hp, s1 _ _ hw, hR.same s1, fun ans' e => ?_⟩
          exact (((k.by (st' := some s) (step_no nb e) hk).mono s1).newL hS1)
end
end BP
set_option Elab.async false
set_option linter.all false
set_option maxRecDepth 100000
set_option maxHeartbeats 2000000
namespace BP
open PySem PySem.Spec PyProof.Rows L2
/-- len, its reading by a letter of its own (for a comprehension's block) -/
def rLen (K : PySem.W.Frag) : List V → Hp → VK → Prop := fun xs H Q => ∃ p ys, xs = [V.ref p] ∧ (SqL K H p ys ∨ SqT K H p ys) ∧ Q (V.int (ys.length : Int)) H
theorem cr_len {X : Cx} : CallR X (.builtin "len") (rLen X.K) := call_len_seq
/-- the class, as it's called -/
structure CalI (P : Program) (w : World) (K : PySem.W.Frag) (mg : Str → Option Value) (base : Heap) (C : Addr) : Prop where
  ex : ∃ (f : Addr) (fd : FuncData), Mk K C f ∧ FnOk P w K mg base CX0 1 f fd ["self"] (spInit K C) ∧ Binds K fd ["self"] [] ∧ mg "Strand" = some (.ref C)
/-- the two tables -/
structure Tabs (K : PySem.W.Frag) (mg : Str → Option Value) : Prop where
  wh : ∃ t, mg "WHOLES" = some (.ref t) ∧ ∀ H, SqT K H t (BD.WH.map V.int)
  rw_ : ∃ t, mg "ROWS" = some (.ref t) ∧ ∀ H, SqT K H t (BD.RWS.map V.int)
theorem StA.atL {K : PySem.W.Frag} {C : Addr} {H : Hp} {a g d D : Addr} {b : Bool} {ls bs : List Rat} {acc acc' : List V} (h : StA K C H a g d b ls bs) (hD : H D = some (.lst acc)) (n1 : D ≠ g) (n2 : D ≠ d) : StA K C (upd H D (.lst acc')) a g d b ls bs where
  obj := by
    obtain ⟨dx, e⟩ := h.obj
    exact ⟨dx, by rw [upd_ne (kind_ne hD e).symm]; exact e⟩
  gaps := by
    obtain ⟨xs, e1, e2⟩ := h.gaps
    exact ⟨xs, by rw [upd_ne n1.symm]; exact e1, e2.beside hD⟩
  beads := by
    obtain ⟨xs, e1, e2⟩ := h.beads
    exact ⟨xs, by rw [upd_ne n2.symm]; exact e1, e2.beside hD⟩
  ne := h.ne
section
variable {P : Program} {w : World} {K : PySem.W.Frag} {mg : Str → Option Value} {base : Heap} {z o C : Addr}
def spTop (K : PySem.W.Frag) : Sp := fun vs H Q _ => ∃ (a : Addr) (ns : List Int), vs = [.ref a] ∧ SqL K H a (ns.map V.int) ∧ PySr74.answers_asked ns = true ∧ ns.length ≤ 8640 ∧
  ∀ (H' : Hp) (p : Addr), H' p = some (.lst ((PySr74.answers ns).map V.int)) → Q (.ref p) H'
theorem ok_answers {f : Addr} {fd : FuncData} (F : Fun K "answers" "answers" sAnswers f fd) (c : Con K mg z o) (b : Bui mg) (tb : Tabs K mg) (CI : CalI P w K mg base C) (CR : Cal P w K mg base 1 "read_rows" ["calls", "place", "count"] (spRows K)) (CC : Cal P w K mg base 49 "answer_call" ["strand", "number", "wholes", "rows"] (spCall K C)) :
    FnOk P w K mg base CX0 50 f fd ["calls"] (spTop K) := by
  refine F.ok scAnswers (fun vs H Q E h => ?_) (fun cdv A outer s H vs Q E hr h => ?_)
  · obtain ⟨a, ns, rfl, _⟩ := h; rfl
  · obtain ⟨ac, ns, rfl, ha, hask, hlen, k⟩ := h
    obtain ⟨fi, fdi, MI, FI, bi, mC⟩ := CI.ex
    obtain ⟨wt, mw, hW⟩ := tb.wh
    obtain ⟨rt, mr, hRW⟩ := tb.rw_
    refine ⟨_, pss_cons (ps_set (i := 1) scAnswers.nd rfl (.inl rfl) (pe_make0 MI FI (hr.mono (by decide)) (by rfl) mC bi .nil pass0))
      (pss_cons (ps_set (i := 2) scAnswers.nd rfl (.inl rfl) (pe_lst pa_nil))
      (pss_cons (ps_set (i := 3) scAnswers.nd rfl (.inl rfl) pe_int)
      (pss_cons (ps_while PassesOwn.never (pt_cmpR op_lt (pv 3) (pe_callB call_len_seq (by rfl) c.len PySem.boot_len (pa_cons (pv 0) pa_nil)) (nomark _))
        (pss_cons (ps_set (i := 4) scAnswers.nd rfl (.inl rfl) (pe_ix ix_list (pv 0) (pv 3) (fun _ _ => rfl)))
        (pss_cons (ps_set (i := 5) scAnswers.nd rfl (.inl rfl) (pe_op op_add (pe_op op_add (pv 3) pe_int) (pe_ix ix_tup (pe_glob (v := .ref wt) (by rfl) mw rfl) (pv 4) (fun _ _ => rfl))))
        (pss_cons (ps_set (i := 6) scAnswers.nd rfl (.inl rfl) (pe_slice sl_list (pv 0) (po_some (pe_op op_add (pv 3) pe_int)) (po_some (pv 5))))
        (pss_cons (ps_set (i := 7) scAnswers.nd rfl (.inl rfl) (pe_cal CR (hr.mono (by decide)) (pa_cons (pv 0) (pa_cons (pv 5) (pa_cons (pe_ix ix_tup (pe_glob (v := .ref rt) (by rfl) mr rfl) (pv 4) (fun _ _ => rfl)) pa_nil)))))
        (pss_cons (ps_set (i := 8) scAnswers.nd rfl (.inl rfl) (pe_cal CC hr (pa_cons (pv 1) (pa_cons (pv 4) (pa_cons (pv 6) (pa_cons (pv 7) pa_nil))))))
        (pss_cons (ps_expr (pe_bm PySem.F.plainAttrs_list PySem.F.slot_list_append PySem.F.type_list_append mt_append (pv 2) (pa_cons (pe_callB call_len_seq (by rfl) c.len PySem.boot_len (pa_cons (pv 8) pa_nil)) pa_nil)))
        (pss_cons (ps_expr (pe_bm PySem.F.plainAttrs_list PySem.F.slot_list_extend PySem.F.type_list_extend mt_extend (pv 2) (pa_cons (pv 8) pa_nil)))
        (pss_one (ps_set (i := 3) scAnswers.nd rfl (.inl rfl) (pe_op op_add (pv 5) (pe_callB (cr_sum rfl) (by rfl) b.sum (by decide +kernel) (pa_cons
            (pe_lc (own := [("row", 9)]) (g := gName 9) (tt := tYes) rfl scAnswers.nd (pi_list (pv 7)) (blkOk_by (own := [("row", 9)]) (N := ["calls", "strand", "answered", "place", "number", "behind", "wholes", "rows", "numbers", "row"]) (sc := defScope sAnswers) (by decide +kernel))
              (fun _ _ _ _ _ => pg_name (i := 9) scAnswers.nd rfl (Or.inl rfl)) (fun _ _ _ _ _ => pts_nil)
              (fun _ _ _ _ _ => pe_op op_add pe_int (pe_callB (r := rLen K) cr_len (by rfl) c.len PySem.boot_len (pa_cons (pv 9) pa_nil)))) pa_nil)))))))))))))
      (pss_one (ps_ret (pv 2)))))), ?_⟩
    obtain ⟨cs0, hcs0, h60, hall0, hans0⟩ := BD.asked_inv hask
    have hsh := BD.asked_short hask
    -- strand = Strand()
    refine fun a dx na ndx nex => ⟨a, dx, rfl, upd_same, fun H1 g d hS kp hg hd => ⟨rfl, ?_⟩⟩
    have s1 : Same H H1 := fun b q e => kp b q (by rw [upd_ne (ne_of_none e na), upd_ne (ne_of_none e ndx)]; exact e) (ne_of_none e na)
    have fr1 : ∀ q, upd (upd H dx (.own a)) a (.ins C dx []) q = none → H q = none := fun q e => by
      have q1 : q ≠ a := fun y => by rw [y, upd_same] at e; cases e
      rw [upd_ne q1] at e
      have q2 : q ≠ dx := fun y => by rw [y, upd_same] at e; cases e
      rw [upd_ne q2] at e
      exact e
    have hg0 := fr1 g hg
    have hd0 := fr1 d hd
    -- answered = []; place = 0
    refine ⟨Nat.zero_le _, fun D hD => ?_⟩
    have s2 := same_upd (o := .lst []) hD
    have hD0 : H D = none := s1.free hD
    have nDg : D ≠ g := fun e => by
      obtain ⟨xs, h1, _⟩ := hS.gaps
      rw [e, h1] at hD; cases hD
    have nDd : D ≠ d := fun e => by
      obtain ⟨xs, h1, _⟩ := hS.beads
      rw [e, h1] at hD; cases hD
    let W : Nat → L2.St → Hp → Prop := fun m σ H' => ∃ (pl : Nat) (st : Option (List Rat × List Rat)) (g d : Addr) (y4 y5 y6 y7 y8 y9 : Option V) (cs : List (List (List Int))) (fl : Nat) (done : List Int), σ = [some (.ref ac), some (.ref a), some (.ref D), some (.int pl), y4, y5, y6, y7, y8, y9] ∧ Same H H' ∧ H g = none ∧ H d = none ∧ D ≠ g ∧ D ≠ d ∧
      StO K C H' a g d st ∧ KeepO st ∧ H' D = some (.lst (done.map V.int)) ∧ PyFlat.calls PySr74.shape fl (ns.drop pl) = some cs ∧ (∀ c ∈ cs, Sr74Neutral.asked1 c = true) ∧ PySr74.answers ns = done ++ PyFlat.told (PyFlat.played Sr74Neutral.step (BD.stOf st) cs) ∧ pl ≤ ns.length ∧ m = ns.length - pl
    refine ⟨W, ⟨_, 0, none, g, d, none, none, none, none, none, none, cs0, ns.length, [], rfl, s1.trans s2, hg0, hd0, nDg, nDd, StA.same hS s2, keepO_none, upd_same, hcs0, hall0, hans0, Nat.zero_le _, rfl⟩, ?_⟩
    clear hS kp hg hd hg0 hd0 nDg nDd s1 s2 fr1 hD
    rintro m σ H1 ⟨pl, st, g, d, y4, y5, y6, y7, y8, y9, cs, fl, done, rfl, sm, hg0, hd0, nDg, nDd, hS, hk, hD1, hcs, hall, hans, hpl, rfl⟩
    have ha1 := sm.seq ha
    refine ⟨_, rfl, _, rfl, ac, _, rfl, .inl ha1, _, _, rfl, rfl, _, rfl, ite2 (fun e => ?_) (fun e => ?_)⟩
    · have hlt : pl < ns.length := by
        have h1 : (pl : Int) < ((ns.map V.int).length : Int) := of_decide_eq_true e
        rw [List.length_map] at h1
        omega
      obtain ⟨p, r, hdr⟩ : ∃ p r, ns.drop pl = p :: r := ⟨_, _, List.drop_eq_getElem_cons hlt⟩
      obtain ⟨h1, h2, _⟩ := drop_at hdr
      rw [hdr] at hcs
      obtain ⟨args, xs, t, cs', fl', rfl, hr', hshape, hcs'⟩ := BD.calls_inv hcs
      obtain ⟨x, kd, hcall⟩ := BD.kind_of (hall _ (List.mem_cons_self ..))
      obtain ⟨kk, hpk, hwk, hrk, hx2⟩ := BD.kind_shape kd
      rw [hr'] at h2
      obtain ⟨c1, c2, c3⟩ := cut_ints h2 (by omega)
      obtain ⟨_, c5, c6⟩ := cut_ints c3 c2
      have hp := BD.played_cons (BD.stOf st) ((p :: args) :: xs) cs' hcall
      rw [hp] at hans
      have hlen2 : done.length + 1 + (BD.ansOf (Sr74.step (BD.stOf st) x).2).length ≤ 10000000 := by
        have := congrArg List.length hans
        rw [List.length_append, List.length_cons, List.length_append] at this
        omega
      have szl : sizeLine = 16777216 := by decide
      refine ⟨fun σ' H' => ∃ m', m' < ns.length - pl ∧ W m' σ' H', fun _ _ h => h, ?_⟩
      -- number = calls[place]
      refine ⟨_, rfl, _, rfl, ac, _, _, .int p, rfl, rfl, ha1, atI_nat (by rw [List.getElem?_map, h1]; rfl), ?_⟩
      -- behind = place + 1 + WHOLES[number]
      refine ⟨_, rfl, _, _, rfl, rfl, _, rfl, wt, _, _, .int (args.length : Int), rfl, rfl, hW H1, by rw [hpk]; exact atI_nat (by rw [List.getElem?_map, hwk]; rfl), _, _, rfl, rfl, ?_⟩
      have eb : (pl : Int) + 1 + (args.length : Int) = ((pl + 1 + args.length : Nat) : Int) := by omega
      -- wholes
      refine ⟨_, rfl, _, rfl, _, _, rfl, rfl, _, rfl, _, rfl, _, rfl, ac, _, rfl, ha1, fun wa nwa => ?_⟩
      rw [eb, show (pl : Int) + 1 = ((pl + 1 : Nat) : Int) by omega, c1]
      have s2 := same_upd (o := .lst (args.map V.int)) nwa
      have hwa : upd H1 wa (.lst (args.map V.int)) wa = some (.lst (args.map V.int)) := upd_same
      generalize upd H1 wa (HO.lst (args.map V.int)) = H2 at s2 hwa ⊢
      -- rows
      refine ⟨_, rfl, _, rfl, _, rfl, rt, _, _, .int (xs.length : Int), rfl, rfl, hRW H2, by rw [hpk]; exact atI_nat (by rw [List.getElem?_map, hrk]; rfl), ?_⟩
      refine ⟨ac, ns, pl + 1 + args.length, xs, t, rfl, s2.seq ha1, c3, c2, by omega, by omega, fun H3 R rs s3 nR hR hrs => ?_⟩
      have s13 := s2.trans s3
      have hS3 : StO K C H3 a g d st := StA.same hS s13
      have hD3 := s13 _ _ hD1
      have sm3 := sm.trans s13
      -- numbers
      refine ⟨_, rfl, _, rfl, _, rfl, _, rfl, a, g, d, wa, R, st, p, args, xs, x, rfl, hS3, hk, kd, s3 _ _ hwa, ⟨rs, hR, pairedMap (fun _ _ q => q.2) hrs⟩, fun st' est hk' H4 g' d' pN hS4 kp4 hg4 hd4 npN hpN => ?_⟩
      generalize hav : BD.ansOf (Sr74.step (BD.stOf st) x).2 = av at hans hlen2 hpN
      rw [est] at hans
      obtain ⟨⟨dx3, ho3⟩, ⟨xg3, hg3, _⟩, ⟨xd3, hd3, _⟩, _⟩ := id hS3
      have out : ∀ {q : Addr} {ob : HO}, H3 q = some ob → (∀ C dx fs, ob ≠ .ins C dx fs) → q ≠ g → q ≠ d → H4 q = some ob := fun {q ob} e1 e2 e3 e4 => kp4 q ob e1 (ne_of e1 ho3 (e2 _ _ _)) e3 e4
      have hD4 := out hD3 (by intro _ _ _ y; cases y) nDg nDd
      have sm4 : Same H H4 := fun q ob e => kp4 q ob (sm3 _ _ e) (ne_of_none e na) (ne_of_none e hg0) (ne_of_none e hd0)
      have nDp : pN ≠ D := fun y => by rw [y, hD3] at npN; cases npN
      have nDg' : D ≠ g' := fun y => by
        rcases hg4 with q | q
        · exact nDg (y.trans q)
        · rw [← y, hD3] at q; cases q
      have nDd' : D ≠ d' := fun y => by
        rcases hd4 with q | q
        · exact nDd (y.trans q)
        · rw [← y, hD3] at q; cases q
      have hg0' : H g' = none := by
        rcases hg4 with q | q
        · rw [q]; exact hg0
        · exact sm3.free q
      have hd0' : H d' = none := by
        rcases hd4 with q | q
        · rw [q]; exact hd0
        · exact sm3.free q
      -- rows are still there
      obtain ⟨_, ⟨xg2, hg2, _⟩, ⟨xd2, hd2, _⟩, _⟩ := StA.same (show StA K C H1 a g d st.isSome (stG st) (stD st) from hS) s2
      have nRg : R ≠ g := (ne_of_none hg2 nR).symm
      have nRd : R ≠ d := (ne_of_none hd2 nR).symm
      have nRD : R ≠ D := (ne_of_none (s2 _ _ hD1) nR).symm
      have hR4 := out hR (by intro _ _ _ y; cases y) nRg nRd
      have hrs4 : Paired (fun q (y : List Int) => q ≠ D ∧ H4 q = some (.lst (y.map V.int))) rs xs := pairedMap (fun q y hq => ⟨(ne_of_none (s2 _ _ hD1) hq.1).symm, out hq.2 (by intro _ _ _ y; cases y) (ne_of_none hg2 hq.1).symm (ne_of_none hd2 hq.1).symm⟩) hrs
      -- answered.append(len(numbers))
      refine ⟨_, rfl, .inl ⟨rfl, _, sqL hD4⟩, _, rfl, pN, _, rfl, .inl (sqL hpN), D, _, _, rfl, rfl, hD4, by rw [List.length_map]; omega, ?_⟩
      have hS5 := StA.atL (acc' := done.map V.int ++ [V.int ((av.map V.int).length : Int)]) hS4 hD4 nDg' nDd'
      have hD5 : upd H4 D (.lst (done.map V.int ++ [V.int ((av.map V.int).length : Int)])) D = some (.lst (done.map V.int ++ [V.int ((av.map V.int).length : Int)])) := upd_same
      have hpN5 : upd H4 D (.lst (done.map V.int ++ [V.int ((av.map V.int).length : Int)])) pN = some (.lst (av.map V.int)) := by rw [upd_ne nDp]; exact hpN
      have hR5 : upd H4 D (.lst (done.map V.int ++ [V.int ((av.map V.int).length : Int)])) R = some (.lst (rs.map V.ref)) := by rw [upd_ne nRD]; exact hR4
      have hrs5 : Paired (fun q (y : List Int) => q ≠ D ∧ upd H4 D (.lst (done.map V.int ++ [V.int ((av.map V.int).length : Int)])) q = some (.lst (y.map V.int))) rs xs := pairedMap (fun q y hq => ⟨hq.1, by rw [upd_ne hq.1]; exact hq.2⟩) hrs4
      have sm5 : Same H (upd H4 D (.lst (done.map V.int ++ [V.int ((av.map V.int).length : Int)]))) := same_grow sm4 hD0
      generalize upd H4 D (HO.lst (done.map V.int ++ [V.int ((av.map V.int).length : Int)])) = H5 at hS5 hD5 hpN5 hR5 hrs5 sm5 ⊢
      -- answered.extend(numbers)
      refine ⟨_, rfl, .inl ⟨rfl, _, sqL hD5⟩, _, rfl, D, pN, _, _, rfl, rfl, hD5, hpN5, by rw [List.length_append, List.length_map, List.length_map]; show done.length + 1 + _ ≤ _; omega, ?_⟩
      have hS6 := StA.atL (acc' := done.map V.int ++ [V.int ((av.map V.int).length : Int)] ++ av.map V.int) hS5 hD5 nDg' nDd'
      have hD6 : upd H5 D (.lst (done.map V.int ++ [V.int ((av.map V.int).length : Int)] ++ av.map V.int)) D = some (.lst (done.map V.int ++ [V.int ((av.map V.int).length : Int)] ++ av.map V.int)) := upd_same
      have hR6 : upd H5 D (.lst (done.map V.int ++ [V.int ((av.map V.int).length : Int)] ++ av.map V.int)) R = some (.lst (rs.map V.ref)) := by rw [upd_ne nRD]; exact hR5
      have hrs6 : Paired (fun q (y : List Int) => upd H5 D (.lst (done.map V.int ++ [V.int ((av.map V.int).length : Int)] ++ av.map V.int)) q = some (.lst (y.map V.int))) rs xs := pairedMap (fun q y hq => by rw [upd_ne hq.1]; exact hq.2) hrs5
      have sm6 : Same H (upd H5 D (.lst (done.map V.int ++ [V.int ((av.map V.int).length : Int)] ++ av.map V.int))) := same_grow sm5 hD0
      generalize upd H5 D (HO.lst (done.map V.int ++ [V.int ((av.map V.int).length : Int)] ++ av.map V.int)) = H6 at hS6 hD6 hR6 hrs6 sm6 ⊢
      -- place = behind + sum([1 + len(row) for row in rows])
      have lrs := paired_len hrs6
      refine ⟨_, rfl, _, rfl, R, rfl, ⟨_, sqL hR6⟩, fun D2 hD2 => ?_⟩
      refine lc_list (K := K) (a := R) (xs := rs.map V.ref) (fun i H' => Same H6 H' ∧ H' D2 = some (.lst (((xs.take i).map fun u => 1 + (u.length : Int)).map V.int))) ⟨same_upd hD2, upd_same⟩ (fun i H' _ hPv => sqL (hPv.1 _ _ hR6)) (fun i y H' hy hPv => ?_) (fun H7 hPv => ?_)
      · obtain ⟨sm7, hacc⟩ := hPv
        rw [List.getElem?_map] at hy
        cases er : rs[i]? with
        | none => rw [er] at hy; cases hy
        | some q =>
          rw [er] at hy
          obtain rfl : V.ref q = y := Option.some.inj hy
          obtain ⟨u, hu, hq⟩ := paired_at hrs6 er
          refine ⟨rfl, yes ?_⟩
          refine ⟨_, rfl, q, _, rfl, .inl (sqL (sm7 _ _ hq)), _, _, rfl, rfl, _, hacc, ?_, same_grow sm7 hD2, ?_⟩
          · rw [List.length_map, List.length_map, List.length_take]
            exact small1000 (by omega)
          · rw [upd_same, take_more hu, List.map_append, List.map_append, List.length_map]; rfl
      · obtain ⟨sm7, hacc⟩ := hPv
        rw [List.take_of_length_le (by rw [List.length_map, lrs]; exact Nat.le_refl _)] at hacc
        refine ⟨D2, _, rfl, sqL hacc, _, _, rfl, rfl, ?_⟩
        rw [← BD.rowsEnc_len]
        refine ⟨_, (show ns.length - (pl + 1 + args.length + (BD.rowsEnc xs).length) < ns.length - pl by omega), pl + 1 + args.length + (BD.rowsEnc xs).length, st', g', d', _, _, _, _, _, _, cs', fl', done ++ ((av.length : Int) :: av), rfl, sm6.trans sm7, hg0', hd0', nDg', nDd', StA.same hS6 sm7, hk', ?_, ?_, fun c hc => hall c (List.mem_cons_of_mem _ hc), ?_, c5, rfl⟩
        · rw [sm7 _ _ hD6, List.length_map, List.append_assoc, List.map_append]; rfl
        · rw [c6]; exact hcs'
        · rw [hans, List.append_assoc]; rfl
    · have hge : ns.length ≤ pl := by
        have h1 : ¬ (pl : Int) < ((ns.map V.int).length : Int) := fun y => e (decide_eq_true y)
        rw [List.length_map] at h1
        omega
      rw [List.drop_eq_nil_of_le hge] at hcs
      obtain rfl := BD.calls_nil hcs
      have e2 : PySr74.answers ns = done := by
        rw [hans]
        show done ++ [] = done
        rw [List.append_nil]
      refine ⟨_, rfl, k H1 D ?_⟩
      rw [e2]
      exact hD1
end
end BP
set_option Elab.async false
set_option linter.all false
set_option maxRecDepth 100000
set_option maxHeartbeats 2000000
namespace BP
open PySem PySem.Spec PyProof.Rows L2
section
variable {K : PySem.W.Frag} {h : Heap} {mg : Str → Option Value}
/-- a def of the top -/
theorem def_mk {x : Str} {st : Stmt} {f : Addr} {od an : Option Addr} {sl : Array (Option Value)} {oc kV dc pm cd ct : Value} (X : K.In h) (G : h.Ns mainGlobals mg)
    (a : PySem.W.nsIn K mainGlobals x = some (some (.ref f))) (l : K.lookup f = some ⟨oc, od, .func (PySem.W.fnOf x x (defArgs st) (defBody st) (defScope st) .none kV dc pm an cd ct), sl⟩)
    (c : PySem.W.codeIn K cd x = true) (k : PySem.W.keepIn K (.ref f) = true) : ∃ f fd, mg x = some (.ref f) ∧ Fun K x x st f fd :=
  ⟨f, _, PySem.W.mg_of X G a, fun_mk (st := st) l c k⟩
/-- a method of a class -/
theorem meth_mk {m qual : Str} {st : Stmt} {C f : Addr} {od an : Option Addr} {sl : Array (Option Value)} {oc kV dc pm cd ct : Value}
    (a : PySem.W.findIn K (.ref C) m = some (some (.ref f))) (i : PySem.W.isFn K (.ref f) = true) (l : K.lookup f = some ⟨oc, od, .func (PySem.W.fnOf m qual (defArgs st) (defBody st) (defScope st) .none kV dc pm an cd ct), sl⟩)
    (c : PySem.W.codeIn K cd qual = true) (k : PySem.W.keepIn K (.ref f) = true) : ∃ f fd, Meth K C m f ∧ Fun K m qual st f fd :=
  ⟨f, _, ⟨a, i, k⟩, fun_mk (st := st) l c k⟩
/-- a tuple of the top -/
theorem tup_mk {x : Str} {z : Addr} {ob : Obj} {its : Array Value} {n : Nat} {xs : List V} (X : K.In h) (G : h.Ns mainGlobals mg) (a : PySem.W.nsIn K mainGlobals x = some (some (.ref z))) (l : K.lookup z = some ob)
    (e1 : ob.cls = .type "tuple") (e2 : ob.data = .seq its n) (hs : its.size ≤ sizeLine) (hv : Vals xs its.toList) : ∃ z, mg x = some (.ref z) ∧ ∀ H, SqT K H z xs :=
  ⟨z, PySem.W.mg_of X G a, fun _ => .inr ⟨ob, its, n, l, e1, e2, hs, hv⟩⟩
theorem num_mk {x : Str} {i : Int} {t : Tok} (X : K.In h) (G : h.Ns mainGlobals mg) (a : PySem.W.nsIn K mainGlobals x = some (some (.int i t))) : ∃ t, mg x = some (.int i t) := ⟨t, PySem.W.mg_of X G a⟩
theorem cal_mk {P : Program} {w : World} {base : Heap} {k : Nat} {x : Str} {st : Stmt} {f : Addr} {fd : FuncData} {ps : List Str} {sp : Sp} (m : mg x = some (.ref f)) (F : Fun K x x st f fd) (ok : FnOk P w K mg base CX0 k f fd ps sp) (b : Binds K fd ps []) : Cal P w K mg base k x ps sp :=
  ⟨f, fd, ok, m, F.kp, b⟩
theorem calM_mk {P : Program} {w : World} {base : Heap} {C : Addr} {k : Nat} {m : Str} {f : Addr} {fd : FuncData} {ps : List Str} {sp : Sp} (hm : Meth K C m f) (ok : FnOk P w K mg base CX0 k f fd ps sp) (b : Binds K fd ps []) : CalM P w K mg base C k m ps sp :=
  ⟨f, fd, ok, hm, b⟩
end
end BP
set_option Elab.async false
set_option linter.all false
set_option maxRecDepth 100000
set_option maxHeartbeats 2000000
namespace BP
open PySem PySem.Spec PyProof.Rows L2
/-- a def of the top, a method of the class, as the top has left them -/
def Df (K : PySem.W.Frag) (mg : Str → Option Value) (x : Str) (st : Stmt) : Prop := ∃ (f : Addr) (fd : FuncData), mg x = some (.ref f) ∧ Fun K x x st f fd
def Md (K : PySem.W.Frag) (C : Addr) (m q : Str) (st : Stmt) : Prop := ∃ (f : Addr) (fd : FuncData), Meth K C m f ∧ Fun K m q st f fd
structure ClsF (K : PySem.W.Frag) (mg : Str → Option Value) (C : Addr) : Prop where
  at_ : mg "Strand" = some (.ref C)
  tx : Txt K C
  ini : ∃ (f : Addr) (fd : FuncData), Mk K C f ∧ Fun K "__init__" "Strand.__init__" mInit f fd
  begin_ : Md K C "begin" "Strand.begin" mBegin
  set_gap_ : Md K C "set_gap" "Strand.set_gap" mSetGap
  set_bead_ : Md K C "set_bead" "Strand.set_bead" mSetBead
  all_parts_ : Md K C "all_parts" "Strand.all_parts" mParts
  polynomials_ : Md K C "polynomials" "Strand.polynomials" mPoly
  answer_ : Md K C "answer" "Strand.answer" mAnswer
  answer_at_ : Md K C "answer_at" "Strand.answer_at" mAt
  rings_ : Md K C "rings" "Strand.rings" mRings
  all_rings_ : Md K C "all_rings" "Strand.all_rings" mAll
  told_ : Md K C "told" "Strand.told" mToldM
  take_ : Md K C "take" "Strand.take" mTake
  found_ : Md K C "found" "Strand.found" mFound
  turn_ : Md K C "turn" "Strand.turn" mTurn
  join_gaps_ : Md K C "join_gaps" "Strand.join_gaps" mJoin
  means_ : Md K C "means" "Strand.means" mMeans
  measures_ : Md K C "measures" "Strand.measures" mMeasures
structure DefF (K : PySem.W.Frag) (mg : Str → Option Value) : Prop where
  common_factor_ : Df K mg "common_factor" sCommon
  lowest_ : Df K mg "lowest" sLowest
  plus_ : Df K mg "plus" sPlus
  times_ : Df K mg "times" sTimes
  divided_ : Df K mg "divided" sDivided
  total_ : Df K mg "total" sTotal
  opposite_ : Df K mg "opposite" sOpposite
  is_less_ : Df K mg "is_less" sIsLess
  sign_ : Df K mg "sign" sSign
  factor_of_ : Df K mg "factor_of" sFactor
  added_ : Df K mg "added" sAdded
  scaled_ : Df K mg "scaled" sScaled
  raised_ : Df K mg "raised" sRaised
  trimmed_ : Df K mg "trimmed" sTrimmed
  value_at_ : Df K mg "value_at" sValueAt
  derivative_ : Df K mg "derivative" sDerivative
  remainder_ : Df K mg "remainder" sRemainder
  falling_factors_ : Df K mg "falling_factors" sFalling
  without_gap_ : Df K mg "without_gap" sLess
  without_bead_ : Df K mg "without_bead" sMore
  peeled_parts_ : Df K mg "peeled_parts" sPeeled
  find_parts_ : Df K mg "find_parts" sFind
  sturm_chain_ : Df K mg "sturm_chain" sSturm
  sign_changes_ : Df K mg "sign_changes" sSignChanges
  changes_at_ : Df K mg "changes_at" sChangesAt
  changes_far_right_ : Df K mg "changes_far_right" sFarRight
  sign_far_left_ : Df K mg "sign_far_left" sSignFarLeft
  changes_far_left_ : Df K mg "changes_far_left" sFarLeft
  zeros_between_ : Df K mg "zeros_between" sBetween
  zeros_above_ : Df K mg "zeros_above" sAbove
  zeros_everywhere_ : Df K mg "zeros_everywhere" sEverywhere
  lies_within_ : Df K mg "lies_within" sLies
  is_place_ : Df K mg "is_place" sIsPlace
  told_fractions_ : Df K mg "told_fractions" sTold
  told_parts_ : Df K mg "told_parts" sToldParts
  is_row_ : Df K mg "is_row" sIsRow
  is_too_great_ : Df K mg "is_too_great" sGreat
  read_answer_ : Df K mg "read_answer" sRead
  set_part_ : Df K mg "set_part" sSetPart
  read_rows_ : Df K mg "read_rows" sRows
  answer_changing_ : Df K mg "answer_changing" sChg
  answer_asking_ : Df K mg "answer_asking" sAsk
  answer_call_ : Df K mg "answer_call" sCall
theorem cls_mk {K : PySem.W.Frag} {h : Heap} {mg : Str → Option Value} {C f0 f1 f2 f3 f4 f5 f6 f7 f8 f9 f10 f11 f12 f13 f14 f15 f16 : Addr} (X : K.In h) (G : h.Ns mainGlobals mg) (aC : PySem.W.nsIn K mainGlobals "Strand" = some (some (.ref C)))
    (pg : PySem.W.plainGet K C Str.empty = true) (hd : PySem.W.hasDictIn K C = true) (po : PySem.W.plainOver K C = true) (sa : PySem.W.findIn K (.ref C) "__setattr__" = some (some (.builtin "object.__setattr__")))
    (nU : PySem.W.findIn K (.ref C) "begun" = some none) (nG : PySem.W.findIn K (.ref C) "gaps" = some none) (nB : PySem.W.findIn K (.ref C) "beads" = some none) (mk : PySem.W.makesIn K C = true) (kc : PySem.W.keepIn K (.ref C) = true)
    {od0 an0 : Option Addr} {sl0 : Array (Option Value)} {oc0 kV0 dc0 pm0 cd0 ct0 : Value} (a0 : PySem.W.findIn K (.ref C) "__init__" = some (some (.ref f0))) (i0 : PySem.W.isFn K (.ref f0) = true)
    (l0 : K.lookup f0 = some ⟨oc0, od0, .func (PySem.W.fnOf "__init__" "Strand.__init__" (defArgs mInit) (defBody mInit) (defScope mInit) .none kV0 dc0 pm0 an0 cd0 ct0), sl0⟩) (c0 : PySem.W.codeIn K cd0 "Strand.__init__" = true) (k0 : PySem.W.keepIn K (.ref f0) = true)
    {od1 an1 : Option Addr} {sl1 : Array (Option Value)} {oc1 kV1 dc1 pm1 cd1 ct1 : Value} (a1 : PySem.W.findIn K (.ref C) "begin" = some (some (.ref f1))) (i1 : PySem.W.isFn K (.ref f1) = true)
    (l1 : K.lookup f1 = some ⟨oc1, od1, .func (PySem.W.fnOf "begin" "Strand.begin" (defArgs mBegin) (defBody mBegin) (defScope mBegin) .none kV1 dc1 pm1 an1 cd1 ct1), sl1⟩) (c1 : PySem.W.codeIn K cd1 "Strand.begin" = true) (k1 : PySem.W.keepIn K (.ref f1) = true)
    {od2 an2 : Option Addr} {sl2 : Array (Option Value)} {oc2 kV2 dc2 pm2 cd2 ct2 : Value} (a2 : PySem.W.findIn K (.ref C) "set_gap" = some (some (.ref f2))) (i2 : PySem.W.isFn K (.ref f2) = true)
    (l2 : K.lookup f2 = some ⟨oc2, od2, .func (PySem.W.fnOf "set_gap" "Strand.set_gap" (defArgs mSetGap) (defBody mSetGap) (defScope mSetGap) .none kV2 dc2 pm2 an2 cd2 ct2), sl2⟩) (c2 : PySem.W.codeIn K cd2 "Strand.set_gap" = true) (k2 : PySem.W.keepIn K (.ref f2) = true)
    {od3 an3 : Option Addr} {sl3 : Array (Option Value)} {oc3 kV3 dc3 pm3 cd3 ct3 : Value} (a3 : PySem.W.findIn K (.ref C) "set_bead" = some (some (.ref f3))) (i3 : PySem.W.isFn K (.ref f3) = true)
    (l3 : K.lookup f3 = some ⟨oc3, od3, .func (PySem.W.fnOf "set_bead" "Strand.set_bead" (defArgs mSetBead) (defBody mSetBead) (defScope mSetBead) .none kV3 dc3 pm3 an3 cd3 ct3), sl3⟩) (c3 : PySem.W.codeIn K cd3 "Strand.set_bead" = true) (k3 : PySem.W.keepIn K (.ref f3) = true)
    {od4 an4 : Option Addr} {sl4 : Array (Option Value)} {oc4 kV4 dc4 pm4 cd4 ct4 : Value} (a4 : PySem.W.findIn K (.ref C) "all_parts" = some (some (.ref f4))) (i4 : PySem.W.isFn K (.ref f4) = true)
    (l4 : K.lookup f4 = some ⟨oc4, od4, .func (PySem.W.fnOf "all_parts" "Strand.all_parts" (defArgs mParts) (defBody mParts) (defScope mParts) .none kV4 dc4 pm4 an4 cd4 ct4), sl4⟩) (c4 : PySem.W.codeIn K cd4 "Strand.all_parts" = true) (k4 : PySem.W.keepIn K (.ref f4) = true)
    {od5 an5 : Option Addr} {sl5 : Array (Option Value)} {oc5 kV5 dc5 pm5 cd5 ct5 : Value} (a5 : PySem.W.findIn K (.ref C) "polynomials" = some (some (.ref f5))) (i5 : PySem.W.isFn K (.ref f5) = true)
    (l5 : K.lookup f5 = some ⟨oc5, od5, .func (PySem.W.fnOf "polynomials" "Strand.polynomials" (defArgs mPoly) (defBody mPoly) (defScope mPoly) .none kV5 dc5 pm5 an5 cd5 ct5), sl5⟩) (c5 : PySem.W.codeIn K cd5 "Strand.polynomials" = true) (k5 : PySem.W.keepIn K (.ref f5) = true)
    {od6 an6 : Option Addr} {sl6 : Array (Option Value)} {oc6 kV6 dc6 pm6 cd6 ct6 : Value} (a6 : PySem.W.findIn K (.ref C) "answer" = some (some (.ref f6))) (i6 : PySem.W.isFn K (.ref f6) = true)
    (l6 : K.lookup f6 = some ⟨oc6, od6, .func (PySem.W.fnOf "answer" "Strand.answer" (defArgs mAnswer) (defBody mAnswer) (defScope mAnswer) .none kV6 dc6 pm6 an6 cd6 ct6), sl6⟩) (c6 : PySem.W.codeIn K cd6 "Strand.answer" = true) (k6 : PySem.W.keepIn K (.ref f6) = true)
    {od7 an7 : Option Addr} {sl7 : Array (Option Value)} {oc7 kV7 dc7 pm7 cd7 ct7 : Value} (a7 : PySem.W.findIn K (.ref C) "answer_at" = some (some (.ref f7))) (i7 : PySem.W.isFn K (.ref f7) = true)
    (l7 : K.lookup f7 = some ⟨oc7, od7, .func (PySem.W.fnOf "answer_at" "Strand.answer_at" (defArgs mAt) (defBody mAt) (defScope mAt) .none kV7 dc7 pm7 an7 cd7 ct7), sl7⟩) (c7 : PySem.W.codeIn K cd7 "Strand.answer_at" = true) (k7 : PySem.W.keepIn K (.ref f7) = true)
    {od8 an8 : Option Addr} {sl8 : Array (Option Value)} {oc8 kV8 dc8 pm8 cd8 ct8 : Value} (a8 : PySem.W.findIn K (.ref C) "rings" = some (some (.ref f8))) (i8 : PySem.W.isFn K (.ref f8) = true)
    (l8 : K.lookup f8 = some ⟨oc8, od8, .func (PySem.W.fnOf "rings" "Strand.rings" (defArgs mRings) (defBody mRings) (defScope mRings) .none kV8 dc8 pm8 an8 cd8 ct8), sl8⟩) (c8 : PySem.W.codeIn K cd8 "Strand.rings" = true) (k8 : PySem.W.keepIn K (.ref f8) = true)
    {od9 an9 : Option Addr} {sl9 : Array (Option Value)} {oc9 kV9 dc9 pm9 cd9 ct9 : Value} (a9 : PySem.W.findIn K (.ref C) "all_rings" = some (some (.ref f9))) (i9 : PySem.W.isFn K (.ref f9) = true)
    (l9 : K.lookup f9 = some ⟨oc9, od9, .func (PySem.W.fnOf "all_rings" "Strand.all_rings" (defArgs mAll) (defBody mAll) (defScope mAll) .none kV9 dc9 pm9 an9 cd9 ct9), sl9⟩) (c9 : PySem.W.codeIn K cd9 "Strand.all_rings" = true) (k9 : PySem.W.keepIn K (.ref f9) = true)
    {od10 an10 : Option Addr} {sl10 : Array (Option Value)} {oc10 kV10 dc10 pm10 cd10 ct10 : Value} (a10 : PySem.W.findIn K (.ref C) "told" = some (some (.ref f10))) (i10 : PySem.W.isFn K (.ref f10) = true)
    (l10 : K.lookup f10 = some ⟨oc10, od10, .func (PySem.W.fnOf "told" "Strand.told" (defArgs mToldM) (defBody mToldM) (defScope mToldM) .none kV10 dc10 pm10 an10 cd10 ct10), sl10⟩) (c10 : PySem.W.codeIn K cd10 "Strand.told" = true) (k10 : PySem.W.keepIn K (.ref f10) = true)
    {od11 an11 : Option Addr} {sl11 : Array (Option Value)} {oc11 kV11 dc11 pm11 cd11 ct11 : Value} (a11 : PySem.W.findIn K (.ref C) "take" = some (some (.ref f11))) (i11 : PySem.W.isFn K (.ref f11) = true)
    (l11 : K.lookup f11 = some ⟨oc11, od11, .func (PySem.W.fnOf "take" "Strand.take" (defArgs mTake) (defBody mTake) (defScope mTake) .none kV11 dc11 pm11 an11 cd11 ct11), sl11⟩) (c11 : PySem.W.codeIn K cd11 "Strand.take" = true) (k11 : PySem.W.keepIn K (.ref f11) = true)
    {od12 an12 : Option Addr} {sl12 : Array (Option Value)} {oc12 kV12 dc12 pm12 cd12 ct12 : Value} (a12 : PySem.W.findIn K (.ref C) "found" = some (some (.ref f12))) (i12 : PySem.W.isFn K (.ref f12) = true)
    (l12 : K.lookup f12 = some ⟨oc12, od12, .func (PySem.W.fnOf "found" "Strand.found" (defArgs mFound) (defBody mFound) (defScope mFound) .none kV12 dc12 pm12 an12 cd12 ct12), sl12⟩) (c12 : PySem.W.codeIn K cd12 "Strand.found" = true) (k12 : PySem.W.keepIn K (.ref f12) = true)
    {od13 an13 : Option Addr} {sl13 : Array (Option Value)} {oc13 kV13 dc13 pm13 cd13 ct13 : Value} (a13 : PySem.W.findIn K (.ref C) "turn" = some (some (.ref f13))) (i13 : PySem.W.isFn K (.ref f13) = true)
    (l13 : K.lookup f13 = some ⟨oc13, od13, .func (PySem.W.fnOf "turn" "Strand.turn" (defArgs mTurn) (defBody mTurn) (defScope mTurn) .none kV13 dc13 pm13 an13 cd13 ct13), sl13⟩) (c13 : PySem.W.codeIn K cd13 "Strand.turn" = true) (k13 : PySem.W.keepIn K (.ref f13) = true)
    {od14 an14 : Option Addr} {sl14 : Array (Option Value)} {oc14 kV14 dc14 pm14 cd14 ct14 : Value} (a14 : PySem.W.findIn K (.ref C) "join_gaps" = some (some (.ref f14))) (i14 : PySem.W.isFn K (.ref f14) = true)
    (l14 : K.lookup f14 = some ⟨oc14, od14, .func (PySem.W.fnOf "join_gaps" "Strand.join_gaps" (defArgs mJoin) (defBody mJoin) (defScope mJoin) .none kV14 dc14 pm14 an14 cd14 ct14), sl14⟩) (c14 : PySem.W.codeIn K cd14 "Strand.join_gaps" = true) (k14 : PySem.W.keepIn K (.ref f14) = true)
    {od15 an15 : Option Addr} {sl15 : Array (Option Value)} {oc15 kV15 dc15 pm15 cd15 ct15 : Value} (a15 : PySem.W.findIn K (.ref C) "means" = some (some (.ref f15))) (i15 : PySem.W.isFn K (.ref f15) = true)
    (l15 : K.lookup f15 = some ⟨oc15, od15, .func (PySem.W.fnOf "means" "Strand.means" (defArgs mMeans) (defBody mMeans) (defScope mMeans) .none kV15 dc15 pm15 an15 cd15 ct15), sl15⟩) (c15 : PySem.W.codeIn K cd15 "Strand.means" = true) (k15 : PySem.W.keepIn K (.ref f15) = true)
    {od16 an16 : Option Addr} {sl16 : Array (Option Value)} {oc16 kV16 dc16 pm16 cd16 ct16 : Value} (a16 : PySem.W.findIn K (.ref C) "measures" = some (some (.ref f16))) (i16 : PySem.W.isFn K (.ref f16) = true)
    (l16 : K.lookup f16 = some ⟨oc16, od16, .func (PySem.W.fnOf "measures" "Strand.measures" (defArgs mMeasures) (defBody mMeasures) (defScope mMeasures) .none kV16 dc16 pm16 an16 cd16 ct16), sl16⟩) (c16 : PySem.W.codeIn K cd16 "Strand.measures" = true) (k16 : PySem.W.keepIn K (.ref f16) = true) : ∃ C, ClsF K mg C :=
  ⟨C, PySem.W.mg_of X G aC, ⟨⟨pg, hd, po, sa⟩, nU, nG, nB⟩, ⟨f0, _, ⟨mk, a0, i0, kc⟩, fun_mk (st := mInit) l0 c0 k0⟩,
      ⟨f1, _, ⟨a1, i1, k1⟩, fun_mk (st := mBegin) l1 c1 k1⟩,
      ⟨f2, _, ⟨a2, i2, k2⟩, fun_mk (st := mSetGap) l2 c2 k2⟩,
      ⟨f3, _, ⟨a3, i3, k3⟩, fun_mk (st := mSetBead) l3 c3 k3⟩,
      ⟨f4, _, ⟨a4, i4, k4⟩, fun_mk (st := mParts) l4 c4 k4⟩,
      ⟨f5, _, ⟨a5, i5, k5⟩, fun_mk (st := mPoly) l5 c5 k5⟩,
      ⟨f6, _, ⟨a6, i6, k6⟩, fun_mk (st := mAnswer) l6 c6 k6⟩,
      ⟨f7, _, ⟨a7, i7, k7⟩, fun_mk (st := mAt) l7 c7 k7⟩,
      ⟨f8, _, ⟨a8, i8, k8⟩, fun_mk (st := mRings) l8 c8 k8⟩,
      ⟨f9, _, ⟨a9, i9, k9⟩, fun_mk (st := mAll) l9 c9 k9⟩,
      ⟨f10, _, ⟨a10, i10, k10⟩, fun_mk (st := mToldM) l10 c10 k10⟩,
      ⟨f11, _, ⟨a11, i11, k11⟩, fun_mk (st := mTake) l11 c11 k11⟩,
      ⟨f12, _, ⟨a12, i12, k12⟩, fun_mk (st := mFound) l12 c12 k12⟩,
      ⟨f13, _, ⟨a13, i13, k13⟩, fun_mk (st := mTurn) l13 c13 k13⟩,
      ⟨f14, _, ⟨a14, i14, k14⟩, fun_mk (st := mJoin) l14 c14 k14⟩,
      ⟨f15, _, ⟨a15, i15, k15⟩, fun_mk (st := mMeans) l15 c15 k15⟩,
      ⟨f16, _, ⟨a16, i16, k16⟩, fun_mk (st := mMeasures) l16 c16 k16⟩⟩
theorem top_ok {P : Program} {w : World} {K : PySem.W.Frag} {mg : Str → Option Value} {z o C fa : Addr} (cn : Con K mg z o) (bu : Bui mg) (n1 : Nms mg) (n2 : Nms2 mg) (n3 : Nms3 mg) (tb : Tabs K mg) (D : DefF K mg) (M : ClsF K mg C) (hf : Df K mg "answers" sAnswers) (hfa : mg "answers" = some (.ref fa)) (ht : P.given.tree = none) :
    ∃ fd : FuncData, (∀ (s : Shared) (us : List Value), us.length = (["calls"] : List Str).length → BindsTo s fd ⟨us, []⟩ ((["calls"] : List Str).zip us)) ∧ ∀ base : Heap, K.In base → base.NoSeer → FnOk P w K mg base CX0 50 fa fd ["calls"] (spTop K) := by
  obtain ⟨f, fd, mf, F⟩ := hf
  obtain rfl : f = fa := Value.ref.inj (Option.some.inj (mf.symm.trans hfa))
  have tx := M.tx
  have bF : ∀ (s : Shared) (us : List Value), us.length = (["calls"] : List Str).length → BindsTo s fd ⟨us, []⟩ ((["calls"] : List Str).zip us) := by
    intro s us hu
    obtain ⟨oc, od, kV, doc, pm, an, cdv, ct, osl, rfl, lk, hcd⟩ := F.ex
    exact .of_eq (match us, hu with | [_], _ => rfl)
  refine ⟨fd, bF, fun base _ hN => ?_⟩
  have c_common_factor : Cal P w K mg base 1 "common_factor" ["one", "other"] spCommon := by
    obtain ⟨f1, fd1, m1, F1⟩ := D.common_factor_
    exact cal_mk m1 F1 (ok_common F1 cn.abs) (F1.binds (ps := ["one", "other"]) fun _ _ _ _ _ _ us hl => match us, hl with | [_, _], _ => rfl)
  have c_lowest : Cal P w K mg base 40 "lowest" ["above", "below"] spLowest := by
    obtain ⟨f1, fd1, m1, F1⟩ := D.lowest_
    exact cal_mk m1 F1 (ok_lowest F1 hN ht c_common_factor) (F1.binds (ps := ["above", "below"]) fun _ _ _ _ _ _ us hl => match us, hl with | [_, _], _ => rfl)
  have c_plus : Cal P w K mg base 41 "plus" ["one", "other"] (spPlus K) := by
    obtain ⟨f1, fd1, m1, F1⟩ := D.plus_
    exact cal_mk m1 F1 (ok_plus F1 c_lowest) (F1.binds (ps := ["one", "other"]) fun _ _ _ _ _ _ us hl => match us, hl with | [_, _], _ => rfl)
  have c_times : Cal P w K mg base 41 "times" ["one", "other"] (spTimes K) := by
    obtain ⟨f1, fd1, m1, F1⟩ := D.times_
    exact cal_mk m1 F1 (ok_times F1 c_lowest) (F1.binds (ps := ["one", "other"]) fun _ _ _ _ _ _ us hl => match us, hl with | [_, _], _ => rfl)
  have c_divided : Cal P w K mg base 41 "divided" ["one", "other"] (spDivided K) := by
    obtain ⟨f1, fd1, m1, F1⟩ := D.divided_
    exact cal_mk m1 F1 (ok_divided F1 c_lowest) (F1.binds (ps := ["one", "other"]) fun _ _ _ _ _ _ us hl => match us, hl with | [_, _], _ => rfl)
  have c_total : Cal P w K mg base 42 "total" ["fractions"] (spTotal K) := by
    obtain ⟨f1, fd1, m1, F1⟩ := D.total_
    exact cal_mk m1 F1 (ok_total F1 cn c_plus) (F1.binds (ps := ["fractions"]) fun _ _ _ _ _ _ us hl => match us, hl with | [_], _ => rfl)
  have c_opposite : Cal P w K mg base 1 "opposite" ["one"] (spOpposite K) := by
    obtain ⟨f1, fd1, m1, F1⟩ := D.opposite_
    exact cal_mk m1 F1 (ok_opposite F1 ) (F1.binds (ps := ["one"]) fun _ _ _ _ _ _ us hl => match us, hl with | [_], _ => rfl)
  have c_is_less : Cal P w K mg base 1 "is_less" ["one", "other"] (spIsLess K) := by
    obtain ⟨f1, fd1, m1, F1⟩ := D.is_less_
    exact cal_mk m1 F1 (ok_isLess F1 ) (F1.binds (ps := ["one", "other"]) fun _ _ _ _ _ _ us hl => match us, hl with | [_, _], _ => rfl)
  have c_sign : Cal P w K mg base 1 "sign" ["one"] (spSign K) := by
    obtain ⟨f1, fd1, m1, F1⟩ := D.sign_
    exact cal_mk m1 F1 (ok_sign F1 ) (F1.binds (ps := ["one"]) fun _ _ _ _ _ _ us hl => match us, hl with | [_], _ => rfl)
  have c_factor_of : Cal P w K mg base 1 "factor_of" ["polynomial", "power"] (spFactor K) := by
    obtain ⟨f1, fd1, m1, F1⟩ := D.factor_of_
    exact cal_mk m1 F1 (ok_factor F1 cn) (F1.binds (ps := ["polynomial", "power"]) fun _ _ _ _ _ _ us hl => match us, hl with | [_, _], _ => rfl)
  have c_added : Cal P w K mg base 42 "added" ["one", "other"] (spAdded K) := by
    obtain ⟨f1, fd1, m1, F1⟩ := D.added_
    exact cal_mk m1 F1 (ok_added F1 cn c_factor_of c_plus) (F1.binds (ps := ["one", "other"]) fun _ _ _ _ _ _ us hl => match us, hl with | [_, _], _ => rfl)
  have c_scaled : Cal P w K mg base 42 "scaled" ["polynomial", "number"] (spScaled K) := by
    obtain ⟨f1, fd1, m1, F1⟩ := D.scaled_
    exact cal_mk m1 F1 (ok_scaled F1 c_times) (F1.binds (ps := ["polynomial", "number"]) fun _ _ _ _ _ _ us hl => match us, hl with | [_, _], _ => rfl)
  have c_raised : Cal P w K mg base 1 "raised" ["polynomial", "steps"] (spRaised K) := by
    obtain ⟨f1, fd1, m1, F1⟩ := D.raised_
    exact cal_mk m1 F1 (ok_raised F1 cn) (F1.binds (ps := ["polynomial", "steps"]) fun _ _ _ _ _ _ us hl => match us, hl with | [_, _], _ => rfl)
  have c_trimmed : Cal P w K mg base 1 "trimmed" ["polynomial"] (spTrimmed K) := by
    obtain ⟨f1, fd1, m1, F1⟩ := D.trimmed_
    exact cal_mk m1 F1 (ok_trimmed F1 cn) (F1.binds (ps := ["polynomial"]) fun _ _ _ _ _ _ us hl => match us, hl with | [_], _ => rfl)
  have c_value_at : Cal P w K mg base 42 "value_at" ["polynomial", "place"] (spValueAt K) := by
    obtain ⟨f1, fd1, m1, F1⟩ := D.value_at_
    exact cal_mk m1 F1 (ok_valueAt F1 cn c_plus c_times) (F1.binds (ps := ["polynomial", "place"]) fun _ _ _ _ _ _ us hl => match us, hl with | [_, _], _ => rfl)
  have c_derivative : Cal P w K mg base 42 "derivative" ["polynomial"] (spDerivative K) := by
    obtain ⟨f1, fd1, m1, F1⟩ := D.derivative_
    exact cal_mk m1 F1 (ok_derivative F1 cn c_times) (F1.binds (ps := ["polynomial"]) fun _ _ _ _ _ _ us hl => match us, hl with | [_], _ => rfl)
  have c_remainder : Cal P w K mg base 43 "remainder" ["one", "other"] (spRemainder K) := by
    obtain ⟨f1, fd1, m1, F1⟩ := D.remainder_
    exact cal_mk m1 F1 (ok_remainder F1 cn c_divided c_opposite c_raised c_scaled c_added c_trimmed) (F1.binds (ps := ["one", "other"]) fun _ _ _ _ _ _ us hl => match us, hl with | [_, _], _ => rfl)
  have c_falling_factors : Cal P w K mg base 43 "falling_factors" ["one", "other", "count"] (spFalling K) := by
    obtain ⟨f1, fd1, m1, F1⟩ := D.falling_factors_
    exact cal_mk m1 F1 (ok_falling F1 cn c_factor_of c_divided c_opposite c_raised c_scaled c_added c_trimmed) (F1.binds (ps := ["one", "other", "count"]) fun _ _ _ _ _ _ us hl => match us, hl with | [_, _, _], _ => rfl)
  have c_without_gap : Cal P w K mg base 43 "without_gap" ["upper", "lower", "gap"] (spLess K) := by
    obtain ⟨f1, fd1, m1, F1⟩ := D.without_gap_
    exact cal_mk m1 F1 (ok_less F1 c_opposite c_scaled c_added c_trimmed) (F1.binds (ps := ["upper", "lower", "gap"]) fun _ _ _ _ _ _ us hl => match us, hl with | [_, _, _], _ => rfl)
  have c_without_bead : Cal P w K mg base 43 "without_bead" ["upper", "lower", "bead"] (spMore K) := by
    obtain ⟨f1, fd1, m1, F1⟩ := D.without_bead_
    exact cal_mk m1 F1 (ok_more F1 c_raised c_scaled c_added c_trimmed) (F1.binds (ps := ["upper", "lower", "bead"]) fun _ _ _ _ _ _ us hl => match us, hl with | [_, _, _], _ => rfl)
  have c_peeled_parts : Cal P w K mg base 44 "peeled_parts" ["upper", "lower"] (spPeeled K) := by
    obtain ⟨f1, fd1, m1, F1⟩ := D.peeled_parts_
    exact cal_mk m1 F1 (ok_peeled F1 cn c_divided c_opposite c_without_gap c_without_bead) (F1.binds (ps := ["upper", "lower"]) fun _ _ _ _ _ _ us hl => match us, hl with | [_, _], _ => rfl)
  have c_find_parts : Cal P w K mg base 45 "find_parts" ["upper", "lower"] (spFind K) := by
    obtain ⟨f1, fd1, m1, F1⟩ := D.find_parts_
    exact cal_mk m1 F1 (ok_find F1 cn bu c_trimmed c_peeled_parts c_sign) (F1.binds (ps := ["upper", "lower"]) fun _ _ _ _ _ _ us hl => match us, hl with | [_, _], _ => rfl)
  have c_sturm_chain : Cal P w K mg base 44 "sturm_chain" ["polynomial"] (spSturm K) := by
    obtain ⟨f1, fd1, m1, F1⟩ := D.sturm_chain_
    exact cal_mk m1 F1 (ok_sturm F1 cn c_derivative c_opposite c_remainder) (F1.binds (ps := ["polynomial"]) fun _ _ _ _ _ _ us hl => match us, hl with | [_], _ => rfl)
  have c_sign_changes : Cal P w K mg base 1 "sign_changes" ["signs"] spSignChanges := by
    obtain ⟨f1, fd1, m1, F1⟩ := D.sign_changes_
    exact cal_mk m1 F1 (ok_signChanges F1 ) (F1.binds (ps := ["signs"]) fun _ _ _ _ _ _ us hl => match us, hl with | [_], _ => rfl)
  have c_changes_at : Cal P w K mg base 43 "changes_at" ["chain", "place"] (spChangesAt K) := by
    obtain ⟨f1, fd1, m1, F1⟩ := D.changes_at_
    exact cal_mk m1 F1 (ok_changesAt F1 c_sign_changes c_sign c_value_at) (F1.binds (ps := ["chain", "place"]) fun _ _ _ _ _ _ us hl => match us, hl with | [_, _], _ => rfl)
  have c_changes_far_right : Cal P w K mg base 2 "changes_far_right" ["chain"] (spChanges (· ≠ []) (fun q => BD.sg (BD.ld q)) K) := by
    obtain ⟨f1, fd1, m1, F1⟩ := D.changes_far_right_
    exact cal_mk m1 F1 (ok_farRight F1 c_sign_changes c_sign) (F1.binds (ps := ["chain"]) fun _ _ _ _ _ _ us hl => match us, hl with | [_], _ => rfl)
  have c_sign_far_left : Cal P w K mg base 2 "sign_far_left" ["polynomial"] (spSignFarLeft K) := by
    obtain ⟨f1, fd1, m1, F1⟩ := D.sign_far_left_
    exact cal_mk m1 F1 (ok_signFarLeft F1 cn c_sign) (F1.binds (ps := ["polynomial"]) fun _ _ _ _ _ _ us hl => match us, hl with | [_], _ => rfl)
  have c_changes_far_left : Cal P w K mg base 3 "changes_far_left" ["chain"] (spChanges (· ≠ []) (fun q => BD.sg (BD.le' q)) K) := by
    obtain ⟨f1, fd1, m1, F1⟩ := D.changes_far_left_
    exact cal_mk m1 F1 (ok_farLeft F1 c_sign_changes c_sign_far_left) (F1.binds (ps := ["chain"]) fun _ _ _ _ _ _ us hl => match us, hl with | [_], _ => rfl)
  have c_zeros_between : Cal P w K mg base 45 "zeros_between" ["polynomial", "left", "right"] (spBetween K) := by
    obtain ⟨f1, fd1, m1, F1⟩ := D.zeros_between_
    exact cal_mk m1 F1 (ok_between F1 c_sturm_chain c_changes_at) (F1.binds (ps := ["polynomial", "left", "right"]) fun _ _ _ _ _ _ us hl => match us, hl with | [_, _, _], _ => rfl)
  have c_zeros_above : Cal P w K mg base 45 "zeros_above" ["polynomial", "left"] (spAbove K) := by
    obtain ⟨f1, fd1, m1, F1⟩ := D.zeros_above_
    exact cal_mk m1 F1 (ok_above F1 c_sturm_chain c_changes_at c_changes_far_right) (F1.binds (ps := ["polynomial", "left"]) fun _ _ _ _ _ _ us hl => match us, hl with | [_, _], _ => rfl)
  have c_zeros_everywhere : Cal P w K mg base 45 "zeros_everywhere" ["polynomial"] (spEverywhere K) := by
    obtain ⟨f1, fd1, m1, F1⟩ := D.zeros_everywhere_
    exact cal_mk m1 F1 (ok_everywhere F1 c_sturm_chain c_changes_far_left c_changes_far_right) (F1.binds (ps := ["polynomial"]) fun _ _ _ _ _ _ us hl => match us, hl with | [_], _ => rfl)
  have c_lies_within : Cal P w K mg base 1 "lies_within" ["number", "least", "most"] spLies := by
    obtain ⟨f1, fd1, m1, F1⟩ := D.lies_within_
    exact cal_mk m1 F1 (ok_lies F1 ) (F1.binds (ps := ["number", "least", "most"]) fun _ _ _ _ _ _ us hl => match us, hl with | [_, _, _], _ => rfl)
  have c_is_place : Cal P w K mg base 2 "is_place" ["above", "below"] spIsPlace := by
    obtain ⟨f1, fd1, m1, F1⟩ := D.is_place_
    exact cal_mk m1 F1 (ok_isPlace F1 n1 c_lies_within) (F1.binds (ps := ["above", "below"]) fun _ _ _ _ _ _ us hl => match us, hl with | [_, _], _ => rfl)
  have c_told_fractions : Cal P w K mg base 1 "told_fractions" ["fractions"] (spTold K) := by
    obtain ⟨f1, fd1, m1, F1⟩ := D.told_fractions_
    exact cal_mk m1 F1 (ok_told F1 ) (F1.binds (ps := ["fractions"]) fun _ _ _ _ _ _ us hl => match us, hl with | [_], _ => rfl)
  have c_told_parts : Cal P w K mg base 2 "told_parts" ["gaps", "beads"] (spToldParts K) := by
    obtain ⟨f1, fd1, m1, F1⟩ := D.told_parts_
    exact cal_mk m1 F1 (ok_toldParts F1 cn c_told_fractions) (F1.binds (ps := ["gaps", "beads"]) fun _ _ _ _ _ _ us hl => match us, hl with | [_, _], _ => rfl)
  have c_is_row : Cal P w K mg base 2 "is_row" ["row"] spIsRow := by
    obtain ⟨f1, fd1, m1, F1⟩ := D.is_row_
    exact cal_mk m1 F1 (ok_isRow F1 cn n1 c_lies_within) (F1.binds (ps := ["row"]) fun _ _ _ _ _ _ us hl => match us, hl with | [_], _ => rfl)
  have c_is_too_great : Cal P w K mg base 1 "is_too_great" ["part"] (spGreat K) := by
    obtain ⟨f1, fd1, m1, F1⟩ := D.is_too_great_
    exact cal_mk m1 F1 (ok_great F1 cn) (F1.binds (ps := ["part"]) fun _ _ _ _ _ _ us hl => match us, hl with | [_], _ => rfl)
  have c_read_answer : Cal P w K mg base 46 "read_answer" ["e", "upper", "lower"] (spRead K) := by
    obtain ⟨f1, fd1, m1, F1⟩ := D.read_answer_
    exact cal_mk m1 F1 (ok_read F1 n1 n2 c_is_row c_lowest c_find_parts) (F1.binds (ps := ["e", "upper", "lower"]) fun _ _ _ _ _ _ us hl => match us, hl with | [_, _, _], _ => rfl)
  have c_set_part : Cal P w K mg base 41 "set_part" ["parts", "i", "above", "below"] (spSetPart K) := by
    obtain ⟨f1, fd1, m1, F1⟩ := D.set_part_
    exact cal_mk m1 F1 (ok_setPart F1 cn n1 c_lies_within c_lowest c_told_fractions) (F1.binds (ps := ["parts", "i", "above", "below"]) fun _ _ _ _ _ _ us hl => match us, hl with | [_, _, _, _], _ => rfl)
  have m_begin : CalM P w K mg base C 2 "begin" ["self", "n"] (spBegin K C) := by
    obtain ⟨f1, fd1, m1, F1⟩ := M.begin_
    exact calM_mk m1 (ok_begin F1 tx cn n1 c_lies_within) (F1.binds (ps := ["self", "n"]) fun _ _ _ _ _ _ us hl => match us, hl with | [_, _], _ => rfl)
  have m_set_gap : CalM P w K mg base C 42 "set_gap" ["self", "i", "above", "below"] (spSetGap K C) := by
    obtain ⟨f1, fd1, m1, F1⟩ := M.set_gap_
    exact calM_mk m1 (ok_setGap F1 tx c_set_part) (F1.binds (ps := ["self", "i", "above", "below"]) fun _ _ _ _ _ _ us hl => match us, hl with | [_, _, _, _], _ => rfl)
  have m_set_bead : CalM P w K mg base C 42 "set_bead" ["self", "i", "above", "below"] (spSetBead K C) := by
    obtain ⟨f1, fd1, m1, F1⟩ := M.set_bead_
    exact calM_mk m1 (ok_setBead F1 tx c_set_part) (F1.binds (ps := ["self", "i", "above", "below"]) fun _ _ _ _ _ _ us hl => match us, hl with | [_, _, _, _], _ => rfl)
  have m_all_parts : CalM P w K mg base C 3 "all_parts" ["self"] (spAns K C fun ls bs => (bs.length : Int) :: BD.nums (ls ++ bs)) := by
    obtain ⟨f1, fd1, m1, F1⟩ := M.all_parts_
    exact calM_mk m1 (ok_parts F1 tx c_told_parts) (F1.binds (ps := ["self"]) fun _ _ _ _ _ _ us hl => match us, hl with | [_], _ => rfl)
  have m_polynomials : CalM P w K mg base C 43 "polynomials" ["self"] (spPoly K C) := by
    obtain ⟨f1, fd1, m1, F1⟩ := M.polynomials_
    exact calM_mk m1 (ok_poly F1 tx cn c_opposite c_raised c_scaled c_added) (F1.binds (ps := ["self"]) fun _ _ _ _ _ _ us hl => match us, hl with | [_], _ => rfl)
  have m_answer : CalM P w K mg base C 44 "answer" ["self"] (spAns K C fun ls bs => (bs.length : Int) :: BD.nums ((BD.rans ls bs).1 ++ (BD.rans ls bs).2)) := by
    obtain ⟨f1, fd1, m1, F1⟩ := M.answer_
    exact calM_mk m1 (ok_answer F1 tx cn m_polynomials c_told_fractions) (F1.binds (ps := ["self"]) fun _ _ _ _ _ _ us hl => match us, hl with | [_], _ => rfl)
  have m_answer_at : CalM P w K mg base C 44 "answer_at" ["self", "above", "below"] (spAt K C) := by
    obtain ⟨f1, fd1, m1, F1⟩ := M.answer_at_
    exact calM_mk m1 (ok_at F1 tx cn n1 c_is_place c_lowest m_polynomials c_value_at c_divided c_told_fractions) (F1.binds (ps := ["self", "above", "below"]) fun _ _ _ _ _ _ us hl => match us, hl with | [_, _, _], _ => rfl)
  have m_rings : CalM P w K mg base C 46 "rings" ["self", "left_above", "left_below", "right_above", "right_below"] (spRings K C) := by
    obtain ⟨f1, fd1, m1, F1⟩ := M.rings_
    exact calM_mk m1 (ok_rings F1 tx cn n1 c_is_place c_lowest c_is_less m_polynomials c_zeros_between) (F1.binds (ps := ["self", "left_above", "left_below", "right_above", "right_below"]) fun _ _ _ _ _ _ us hl => match us, hl with | [_, _, _, _, _], _ => rfl)
  have m_all_rings : CalM P w K mg base C 46 "all_rings" ["self"] (spAns K C fun ls bs => [(Sr71.rootsAbove (BD.fl (BD.rans ls bs).2) : Int), (Sr71.rootsAbove (BD.fl (BD.rans ls bs).1) : Int), (Sr71.roots (BD.fl (BD.rans ls bs).2) : Int), (Sr71.roots (BD.fl (BD.rans ls bs).1) : Int)]) := by
    obtain ⟨f1, fd1, m1, F1⟩ := M.all_rings_
    exact calM_mk m1 (ok_all F1 tx cn m_polynomials c_zeros_above c_zeros_everywhere) (F1.binds (ps := ["self"]) fun _ _ _ _ _ _ us hl => match us, hl with | [_], _ => rfl)
  have m_told : CalM P w K mg base C 47 "told" ["self", "e", "upper", "lower"] (spToldM K) := by
    obtain ⟨f1, fd1, m1, F1⟩ := M.told_
    exact calM_mk m1 (ok_toldM F1 c_read_answer c_told_parts) (F1.binds (ps := ["self", "e", "upper", "lower"]) fun _ _ _ _ _ _ us hl => match us, hl with | [_, _, _, _], _ => rfl)
  have m_take : CalM P w K mg base C 47 "take" ["self", "e", "upper", "lower"] (spTake K C) := by
    obtain ⟨f1, fd1, m1, F1⟩ := M.take_
    exact calM_mk m1 (ok_take F1 tx cn bu n2 c_read_answer c_is_too_great) (F1.binds (ps := ["self", "e", "upper", "lower"]) fun _ _ _ _ _ _ us hl => match us, hl with | [_, _, _, _], _ => rfl)
  have m_found : CalM P w K mg base C 46 "found" ["self"] (spAns K C fun ls bs => (bs.length : Int) :: BD.nums (ls ++ bs)) := by
    obtain ⟨f1, fd1, m1, F1⟩ := M.found_
    exact calM_mk m1 (ok_found F1 tx m_polynomials c_find_parts c_told_parts) (F1.binds (ps := ["self"]) fun _ _ _ _ _ _ us hl => match us, hl with | [_], _ => rfl)
  have m_turn : CalM P w K mg base C 1 "turn" ["self"] (spTurn K C) := by
    obtain ⟨f1, fd1, m1, F1⟩ := M.turn_
    exact calM_mk m1 (ok_turn F1 tx bu) (F1.binds (ps := ["self"]) fun _ _ _ _ _ _ us hl => match us, hl with | [_], _ => rfl)
  have m_join_gaps : CalM P w K mg base C 42 "join_gaps" ["self", "i"] (spJoin K C) := by
    obtain ⟨f1, fd1, m1, F1⟩ := M.join_gaps_
    exact calM_mk m1 (ok_join F1 tx cn n1 n2 c_lies_within c_plus c_told_fractions) (F1.binds (ps := ["self", "i"]) fun _ _ _ _ _ _ us hl => match us, hl with | [_, _], _ => rfl)
  have m_means : CalM P w K mg base C 44 "means" ["self", "k"] (spMeans K C) := by
    obtain ⟨f1, fd1, m1, F1⟩ := M.means_
    exact calM_mk m1 (ok_means F1 tx n1 n2 c_lies_within m_polynomials c_without_gap c_falling_factors c_opposite c_told_fractions) (F1.binds (ps := ["self", "k"]) fun _ _ _ _ _ _ us hl => match us, hl with | [_, _], _ => rfl)
  have m_measures : CalM P w K mg base C 43 "measures" ["self"] (spAns K C fun ls bs => 0 :: BD.nums [ls.foldl (· + ·) 0, bs.foldl (· + ·) 0]) := by
    obtain ⟨f1, fd1, m1, F1⟩ := M.measures_
    exact calM_mk m1 (ok_measures F1 tx c_total c_told_fractions) (F1.binds (ps := ["self"]) fun _ _ _ _ _ _ us hl => match us, hl with | [_], _ => rfl)
  have c_read_rows : Cal P w K mg base 1 "read_rows" ["calls", "place", "count"] (spRows K) := by
    obtain ⟨f1, fd1, m1, F1⟩ := D.read_rows_
    exact cal_mk m1 F1 (ok_rows F1 cn) (F1.binds (ps := ["calls", "place", "count"]) fun _ _ _ _ _ _ us hl => match us, hl with | [_, _, _], _ => rfl)
  have c_answer_changing : Cal P w K mg base 48 "answer_changing" ["strand", "number", "wholes", "rows"] (spChg K C) := by
    obtain ⟨f1, fd1, m1, F1⟩ := D.answer_changing_
    exact cal_mk m1 F1 (ok_chg F1 tx n3 m_set_gap m_set_bead m_take m_turn m_join_gaps) (F1.binds (ps := ["strand", "number", "wholes", "rows"]) fun _ _ _ _ _ _ us hl => match us, hl with | [_, _, _, _], _ => rfl)
  have c_answer_asking : Cal P w K mg base 48 "answer_asking" ["strand", "number", "wholes", "rows"] (spAsk K C) := by
    obtain ⟨f1, fd1, m1, F1⟩ := D.answer_asking_
    exact cal_mk m1 F1 (ok_ask F1 tx n3 m_all_parts m_answer m_answer_at m_rings m_all_rings m_told m_found m_means m_measures) (F1.binds (ps := ["strand", "number", "wholes", "rows"]) fun _ _ _ _ _ _ us hl => match us, hl with | [_, _, _, _], _ => rfl)
  have c_answer_call : Cal P w K mg base 49 "answer_call" ["strand", "number", "wholes", "rows"] (spCall K C) := by
    obtain ⟨f1, fd1, m1, F1⟩ := D.answer_call_
    exact cal_mk m1 F1 (ok_call F1 tx n3 m_begin c_answer_changing c_answer_asking) (F1.binds (ps := ["strand", "number", "wholes", "rows"]) fun _ _ _ _ _ _ us hl => match us, hl with | [_, _, _, _], _ => rfl)
  have ci : CalI P w K mg base C := by
    obtain ⟨f1, fd1, m1, F1⟩ := M.ini
    exact ⟨f1, fd1, m1, ok_init F1 tx, F1.binds (ps := ["self"]) fun _ _ _ _ _ _ us hl => match us, hl with | [_], _ => rfl, M.at_⟩
  exact ok_answers F cn bu tb ci c_read_rows c_answer_call
/-- how many numbers are handed in -/
theorem len_of {a : PySem.W.Codec.denoteAll PySem.Challenge.rw_beadstring_s01_answers.args} (h : PySem.W.Codec.withinAll PySem.Challenge.rw_beadstring_s01_answers.args a = true) : (show List Int from a.1).length ≤ 8640 := by
  have h1 : (PySem.W.Codec.within (.list 0 8640 (.int (-2147483648) 2147483647)) a.1 && true) = true := h
  rw [Bool.and_true] at h1
  have h2 : (decide (0 ≤ (show List Int from a.1).length) && decide ((show List Int from a.1).length ≤ 8640) && (show List Int from a.1).all (PySem.W.Codec.within (.int (-2147483648) 2147483647))) = true := h1
  rw [Bool.and_eq_true, Bool.and_eq_true] at h2
  exact of_decide_eq_true h2.1.2
end BP
open PySem PySem.W PyProof.Rows
set_option Elab.async false
set_option maxRecDepth 100000 in
set_option maxHeartbeats 0 in
theorem PySem.Challenge.cw_beadstring_s01_answers_holds : PySem.Challenge.rw_beadstring_s01_answers.Holds := by
  w_on; k_headS; (case hw => exact ⟨[.list [.int 3]], by decide +kernel, by decide +kernel⟩)
  k_fillS
  refine BP.row_seer (r := PySem.Challenge.rw_beadstring_s01_answers) (k := 50) (CX := L2.CX0) (ps := ["calls"]) (sp := BP.spTop) (by decide +kernel) (by decide +kernel) rfl ⟨rfl, by decide, by decide⟩ (fun w h Y => PySem.W.kIn_of Y) ?F ?S (fun _ _ _ _ z => z)
  case F =>
    intro w mg fa h Y KX G hmg
    obtain ⟨z, mz, sz⟩ := BP.tup_mk (x := "ZERO") (xs := BP.fr 0) KX G (by k_is) (by k_is) rfl rfl (by decide) (.cons ⟨_, rfl⟩ (.cons ⟨_, rfl⟩ .nil))
    obtain ⟨o, mo, so⟩ := BP.tup_mk (x := "ONE") (xs := BP.fr 1) KX G (by k_is) (by k_is) rfl rfl (by decide) (.cons ⟨_, rfl⟩ (.cons ⟨_, rfl⟩ .nil))
    have tb : BP.Tabs _ mg := ⟨BP.tup_mk (x := "WHOLES") (xs := BD.WH.map L2.V.int) KX G (by k_is) (by k_is) rfl rfl (by decide) (.cons ⟨_, rfl⟩ (.cons ⟨_, rfl⟩ (.cons ⟨_, rfl⟩ (.cons ⟨_, rfl⟩ (.cons ⟨_, rfl⟩ (.cons ⟨_, rfl⟩ (.cons ⟨_, rfl⟩ (.cons ⟨_, rfl⟩ (.cons ⟨_, rfl⟩ (.cons ⟨_, rfl⟩ (.cons ⟨_, rfl⟩ (.cons ⟨_, rfl⟩ (.cons ⟨_, rfl⟩ (.cons ⟨_, rfl⟩ (.cons ⟨_, rfl⟩ .nil))))))))))))))), BP.tup_mk (x := "ROWS") (xs := BD.RWS.map L2.V.int) KX G (by k_is) (by k_is) rfl rfl (by decide) (.cons ⟨_, rfl⟩ (.cons ⟨_, rfl⟩ (.cons ⟨_, rfl⟩ (.cons ⟨_, rfl⟩ (.cons ⟨_, rfl⟩ (.cons ⟨_, rfl⟩ (.cons ⟨_, rfl⟩ (.cons ⟨_, rfl⟩ (.cons ⟨_, rfl⟩ (.cons ⟨_, rfl⟩ (.cons ⟨_, rfl⟩ (.cons ⟨_, rfl⟩ (.cons ⟨_, rfl⟩ (.cons ⟨_, rfl⟩ (.cons ⟨_, rfl⟩ .nil)))))))))))))))⟩
    have cn : BP.Con _ mg z o := ⟨mz, mo, sz, so, PySem.W.mg_none_of KX G (by k_is), PySem.W.mg_none_of KX G (by k_is), PySem.W.mg_none_of KX G (by k_is), PySem.W.mg_none_of KX G (by k_is)⟩
    have bu : BP.Bui mg := ⟨PySem.W.mg_none_of KX G (by k_is), PySem.W.mg_none_of KX G (by k_is), PySem.W.mg_none_of KX G (by k_is), PySem.W.mg_none_of KX G (by k_is), PySem.W.mg_none_of KX G (by k_is)⟩
    have n1 : BP.Nms mg := ⟨BP.num_mk (x := "NOT_THERE") (i := -2) KX G (by k_is), BP.num_mk (x := "NOT_LET") (i := -22) KX G (by k_is), BP.num_mk (x := "MOST_BEADS") (i := 4) KX G (by k_is), BP.num_mk (x := "MOST_OF_A_PART") (i := 99) KX G (by k_is), BP.num_mk (x := "MOST_OF_A_PLACE") (i := 999) KX G (by k_is)⟩
    have n2 : BP.Nms2 mg := ⟨BP.num_mk (x := "CANNOT_BE") (i := -33) KX G (by k_is), BP.num_mk (x := "TOO_GREAT") (i := -75) KX G (by k_is), BP.num_mk (x := "MOST_MEANS") (i := 12) KX G (by k_is)⟩
    have n3 : BP.Nms3 mg := ⟨BP.num_mk (x := "NOT_BEGUN") (i := -11) KX G (by k_is), BP.num_mk (x := "BEGIN") (i := 0) KX G (by k_is), BP.num_mk (x := "GAP") (i := 1) KX G (by k_is), BP.num_mk (x := "BEAD") (i := 2) KX G (by k_is), BP.num_mk (x := "STRING") (i := 3) KX G (by k_is), BP.num_mk (x := "ANSWER") (i := 4) KX G (by k_is), BP.num_mk (x := "AT") (i := 5) KX G (by k_is), BP.num_mk (x := "RINGS") (i := 6) KX G (by k_is), BP.num_mk (x := "ALL") (i := 7) KX G (by k_is), BP.num_mk (x := "TOLD") (i := 8) KX G (by k_is), BP.num_mk (x := "TAKE") (i := 9) KX G (by k_is), BP.num_mk (x := "FOUND") (i := 10) KX G (by k_is), BP.num_mk (x := "TURN") (i := 11) KX G (by k_is), BP.num_mk (x := "JOIN") (i := 12) KX G (by k_is), BP.num_mk (x := "MEANS") (i := 13) KX G (by k_is)⟩
    have D : BP.DefF _ mg := {
      common_factor_ := BP.def_mk (x := "common_factor") (st := BP.sCommon) KX G (by k_is) (by k_is) (by k_is) (by k_is),
      lowest_ := BP.def_mk (x := "lowest") (st := BP.sLowest) KX G (by k_is) (by k_is) (by k_is) (by k_is),
      plus_ := BP.def_mk (x := "plus") (st := BP.sPlus) KX G (by k_is) (by k_is) (by k_is) (by k_is),
      times_ := BP.def_mk (x := "times") (st := BP.sTimes) KX G (by k_is) (by k_is) (by k_is) (by k_is),
      divided_ := BP.def_mk (x := "divided") (st := BP.sDivided) KX G (by k_is) (by k_is) (by k_is) (by k_is),
      total_ := BP.def_mk (x := "total") (st := BP.sTotal) KX G (by k_is) (by k_is) (by k_is) (by k_is),
      opposite_ := BP.def_mk (x := "opposite") (st := BP.sOpposite) KX G (by k_is) (by k_is) (by k_is) (by k_is),
      is_less_ := BP.def_mk (x := "is_less") (st := BP.sIsLess) KX G (by k_is) (by k_is) (by k_is) (by k_is),
      sign_ := BP.def_mk (x := "sign") (st := BP.sSign) KX G (by k_is) (by k_is) (by k_is) (by k_is),
      factor_of_ := BP.def_mk (x := "factor_of") (st := BP.sFactor) KX G (by k_is) (by k_is) (by k_is) (by k_is),
      added_ := BP.def_mk (x := "added") (st := BP.sAdded) KX G (by k_is) (by k_is) (by k_is) (by k_is),
      scaled_ := BP.def_mk (x := "scaled") (st := BP.sScaled) KX G (by k_is) (by k_is) (by k_is) (by k_is),
      raised_ := BP.def_mk (x := "raised") (st := BP.sRaised) KX G (by k_is) (by k_is) (by k_is) (by k_is),
      trimmed_ := BP.def_mk (x := "trimmed") (st := BP.sTrimmed) KX G (by k_is) (by k_is) (by k_is) (by k_is),
      value_at_ := BP.def_mk (x := "value_at") (st := BP.sValueAt) KX G (by k_is) (by k_is) (by k_is) (by k_is),
      derivative_ := BP.def_mk (x := "derivative") (st := BP.sDerivative) KX G (by k_is) (by k_is) (by k_is) (by k_is),
      remainder_ := BP.def_mk (x := "remainder") (st := BP.sRemainder) KX G (by k_is) (by k_is) (by k_is) (by k_is),
      falling_factors_ := BP.def_mk (x := "falling_factors") (st := BP.sFalling) KX G (by k_is) (by k_is) (by k_is) (by k_is),
      without_gap_ := BP.def_mk (x := "without_gap") (st := BP.sLess) KX G (by k_is) (by k_is) (by k_is) (by k_is),
      without_bead_ := BP.def_mk (x := "without_bead") (st := BP.sMore) KX G (by k_is) (by k_is) (by k_is) (by k_is),
      peeled_parts_ := BP.def_mk (x := "peeled_parts") (st := BP.sPeeled) KX G (by k_is) (by k_is) (by k_is) (by k_is),
      find_parts_ := BP.def_mk (x := "find_parts") (st := BP.sFind) KX G (by k_is) (by k_is) (by k_is) (by k_is),
      sturm_chain_ := BP.def_mk (x := "sturm_chain") (st := BP.sSturm) KX G (by k_is) (by k_is) (by k_is) (by k_is),
      sign_changes_ := BP.def_mk (x := "sign_changes") (st := BP.sSignChanges) KX G (by k_is) (by k_is) (by k_is) (by k_is),
      changes_at_ := BP.def_mk (x := "changes_at") (st := BP.sChangesAt) KX G (by k_is) (by k_is) (by k_is) (by k_is),
      changes_far_right_ := BP.def_mk (x := "changes_far_right") (st := BP.sFarRight) KX G (by k_is) (by k_is) (by k_is) (by k_is),
      sign_far_left_ := BP.def_mk (x := "sign_far_left") (st := BP.sSignFarLeft) KX G (by k_is) (by k_is) (by k_is) (by k_is),
      changes_far_left_ := BP.def_mk (x := "changes_far_left") (st := BP.sFarLeft) KX G (by k_is) (by k_is) (by k_is) (by k_is),
      zeros_between_ := BP.def_mk (x := "zeros_between") (st := BP.sBetween) KX G (by k_is) (by k_is) (by k_is) (by k_is),
      zeros_above_ := BP.def_mk (x := "zeros_above") (st := BP.sAbove) KX G (by k_is) (by k_is) (by k_is) (by k_is),
      zeros_everywhere_ := BP.def_mk (x := "zeros_everywhere") (st := BP.sEverywhere) KX G (by k_is) (by k_is) (by k_is) (by k_is),
      lies_within_ := BP.def_mk (x := "lies_within") (st := BP.sLies) KX G (by k_is) (by k_is) (by k_is) (by k_is),
      is_place_ := BP.def_mk (x := "is_place") (st := BP.sIsPlace) KX G (by k_is) (by k_is) (by k_is) (by k_is),
      told_fractions_ := BP.def_mk (x := "told_fractions") (st := BP.sTold) KX G (by k_is) (by k_is) (by k_is) (by k_is),
      told_parts_ := BP.def_mk (x := "told_parts") (st := BP.sToldParts) KX G (by k_is) (by k_is) (by k_is) (by k_is),
      is_row_ := BP.def_mk (x := "is_row") (st := BP.sIsRow) KX G (by k_is) (by k_is) (by k_is) (by k_is),
      is_too_great_ := BP.def_mk (x := "is_too_great") (st := BP.sGreat) KX G (by k_is) (by k_is) (by k_is) (by k_is),
      read_answer_ := BP.def_mk (x := "read_answer") (st := BP.sRead) KX G (by k_is) (by k_is) (by k_is) (by k_is),
      set_part_ := BP.def_mk (x := "set_part") (st := BP.sSetPart) KX G (by k_is) (by k_is) (by k_is) (by k_is),
      read_rows_ := BP.def_mk (x := "read_rows") (st := BP.sRows) KX G (by k_is) (by k_is) (by k_is) (by k_is),
      answer_changing_ := BP.def_mk (x := "answer_changing") (st := BP.sChg) KX G (by k_is) (by k_is) (by k_is) (by k_is),
      answer_asking_ := BP.def_mk (x := "answer_asking") (st := BP.sAsk) KX G (by k_is) (by k_is) (by k_is) (by k_is),
      answer_call_ := BP.def_mk (x := "answer_call") (st := BP.sCall) KX G (by k_is) (by k_is) (by k_is) (by k_is) }
    have hf : BP.Df _ mg "answers" BP.sAnswers := BP.def_mk (x := "answers") (st := BP.sAnswers) KX G (by k_is) (by k_is) (by k_is) (by k_is)
    refine' Exists.elim (BP.cls_mk KX G ?aC ?pg ?hd ?po ?sa ?nU ?nG ?nB ?mk ?kc ?a0 ?i0 ?l0 ?c0 ?k0 ?a1 ?i1 ?l1 ?c1 ?k1 ?a2 ?i2 ?l2 ?c2 ?k2 ?a3 ?i3 ?l3 ?c3 ?k3 ?a4 ?i4 ?l4 ?c4 ?k4 ?a5 ?i5 ?l5 ?c5 ?k5 ?a6 ?i6 ?l6 ?c6 ?k6 ?a7 ?i7 ?l7 ?c7 ?k7 ?a8 ?i8 ?l8 ?c8 ?k8 ?a9 ?i9 ?l9 ?c9 ?k9 ?a10 ?i10 ?l10 ?c10 ?k10 ?a11 ?i11 ?l11 ?c11 ?k11 ?a12 ?i12 ?l12 ?c12 ?k12 ?a13 ?i13 ?l13 ?c13 ?k13 ?a14 ?i14 ?l14 ?c14 ?k14 ?a15 ?i15 ?l15 ?c15 ?k15 ?a16 ?i16 ?l16 ?c16 ?k16) ?fin
    (case aC => k_is)
    (case pg => k_is)
    (case hd => k_is)
    (case po => k_is)
    (case sa => k_is)
    (case nU => k_is)
    (case nG => k_is)
    (case nB => k_is)
    (case mk => k_is)
    (case kc => k_is)
    (case a0 => k_is)
    (case i0 => k_is)
    (case l0 => k_is)
    (case c0 => k_is)
    (case k0 => k_is)
    (case a1 => k_is)
    (case i1 => k_is)
    (case l1 => k_is)
    (case c1 => k_is)
    (case k1 => k_is)
    (case a2 => k_is)
    (case i2 => k_is)
    (case l2 => k_is)
    (case c2 => k_is)
    (case k2 => k_is)
    (case a3 => k_is)
    (case i3 => k_is)
    (case l3 => k_is)
    (case c3 => k_is)
    (case k3 => k_is)
    (case a4 => k_is)
    (case i4 => k_is)
    (case l4 => k_is)
    (case c4 => k_is)
    (case k4 => k_is)
    (case a5 => k_is)
    (case i5 => k_is)
    (case l5 => k_is)
    (case c5 => k_is)
    (case k5 => k_is)
    (case a6 => k_is)
    (case i6 => k_is)
    (case l6 => k_is)
    (case c6 => k_is)
    (case k6 => k_is)
    (case a7 => k_is)
    (case i7 => k_is)
    (case l7 => k_is)
    (case c7 => k_is)
    (case k7 => k_is)
    (case a8 => k_is)
    (case i8 => k_is)
    (case l8 => k_is)
    (case c8 => k_is)
    (case k8 => k_is)
    (case a9 => k_is)
    (case i9 => k_is)
    (case l9 => k_is)
    (case c9 => k_is)
    (case k9 => k_is)
    (case a10 => k_is)
    (case i10 => k_is)
    (case l10 => k_is)
    (case c10 => k_is)
    (case k10 => k_is)
    (case a11 => k_is)
    (case i11 => k_is)
    (case l11 => k_is)
    (case c11 => k_is)
    (case k11 => k_is)
    (case a12 => k_is)
    (case i12 => k_is)
    (case l12 => k_is)
    (case c12 => k_is)
    (case k12 => k_is)
    (case a13 => k_is)
    (case i13 => k_is)
    (case l13 => k_is)
    (case c13 => k_is)
    (case k13 => k_is)
    (case a14 => k_is)
    (case i14 => k_is)
    (case l14 => k_is)
    (case c14 => k_is)
    (case k14 => k_is)
    (case a15 => k_is)
    (case i15 => k_is)
    (case l15 => k_is)
    (case c15 => k_is)
    (case k15 => k_is)
    (case a16 => k_is)
    (case i16 => k_is)
    (case l16 => k_is)
    (case c16 => k_is)
    (case k16 => k_is)
    case fin =>
      intro C M
      exact BP.top_ok cn bu n1 n2 n3 tb D M hf hmg rfl
  case S =>
    intro K H xs a hwi hask hx
    cases hx with
    | cons h1 h2 =>
      cases h2
      cases h1 with
      | lst hs ha =>
        have e := L2.ints_dw a.1 _ ha
        subst e
        exact ⟨_, a.1, rfl, hs, hask, BP.len_of hwi, fun H' p hp => .lst (L2.SqL.of hp) (L2.dw_ints _)⟩
