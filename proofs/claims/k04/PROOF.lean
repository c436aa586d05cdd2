import PyProof.Rows.All
import Wide.All
import OpenK.AllK
import Wide.FinOn
import HandS.ForMost
import HandS.ForExc
import HandS.ExcInit
import HandS.ExcValue
import HandS.IsInst
import HandS.Wide
import HandS.Gcd
import HandS.Lambda
import HandS.ExcIs
import HandS.ExcField
import HandS.Defaults
import HandS.Style
import HandS.TupAny
import HandS.RevRange
import PySem.Challenge.RW_spindleway_k04_planes_through_points
import PyProof.ZipIter
import HandS.Zip
import HandS.Walk
import HandS.Star
import PyProof.NeKinds
import HandS.LawCells
import HandS.TupMul
import PyProof.StrLawsRepr
import PyProof.ReprLen
import KE.GoesMore
import HandS.EndTab
import HandS.Ends
set_option linter.all false
namespace K3
abbrev Vec := List Int
/-- the sum of the products, as far as both go -/
def dot : Vec → Vec → Int
  | a :: as, b :: bs => a * b + dot as bs
  | _, _ => 0
theorem dot_nil_l (b : Vec) : dot [] b = 0 := by cases b <;> rfl
theorem dot_nil_r (a : Vec) : dot a [] = 0 := by cases a <;> rfl
theorem dot_comm : ∀ (a b : Vec), dot a b = dot b a
  | [], b => by rw [dot_nil_l, dot_nil_r]
  | a :: as, [] => rfl
  | a :: as, b :: bs => by simp only [dot, dot_comm as bs, Int.mul_comm]
/-- p times a less q times b -/
def lin (p q : Int) (a b : Vec) : Vec := List.zipWith (fun x y => x * p - y * q) a b
theorem lin_len {p q : Int} {a b : Vec} {w : Nat} (ha : a.length = w) (hb : b.length = w) : (lin p q a b).length = w := by simp [lin, ha, hb]
theorem dot_lin (p q : Int) : ∀ (a b r : Vec), a.length = b.length → dot (lin p q a b) r = p * dot a r - q * dot b r
  | [], [], r, _ => by simp [lin, dot_nil_l]
  | a :: as, b :: bs, [], _ => by simp [lin, dot_nil_r]
  | a :: as, b :: bs, r :: rs, h => by
    have ih := dot_lin p q as bs rs (by simpa using h)
    simp only [lin] at ih
    simp only [lin, List.zipWith_cons_cons, dot, ih]
    grind
theorem lin_get (p q : Int) : ∀ (a b : Vec), a.length = b.length → ∀ i, (lin p q a b).getD i 0 = a.getD i 0 * p - b.getD i 0 * q
  | [], [], _, i => by simp [lin]
  | a :: as, b :: bs, h, 0 => by simp [lin]
  | a :: as, b :: bs, h, i + 1 => by
    have ih := lin_get p q as bs (by simpa using h) i
    simp only [lin] at ih
    simpa [lin] using ih
/-- all noughts -/
def Zr (x : Vec) : Prop := ∀ i, x.getD i 0 = 0
theorem zr_cons {a : Int} {as : Vec} (h : Zr (a :: as)) : a = 0 ∧ Zr as := ⟨by simpa using h 0, fun i => by simpa using h (i + 1)⟩
theorem dot_zr : ∀ {x : Vec} (_ : Zr x) (r : Vec), dot x r = 0
  | [], _, r => dot_nil_l r
  | a :: as, _, [] => rfl
  | a :: as, h, r :: rs => by
    obtain ⟨h1, h2⟩ := zr_cons h
    simp [dot, h1, dot_zr h2 rs]
/-- a sum of multiples -/
def comb (w : Nat) : Vec → List Vec → Vec
  | a :: as, h :: hs => List.zipWith (fun x y => a * x + y) h (comb w as hs)
  | _, _ => List.replicate w 0
theorem comb_len (w : Nat) : ∀ (as : Vec) (hs : List Vec), (∀ h ∈ hs, h.length = w) → (comb w as hs).length = w
  | [], hs, _ => by cases hs <;> simp [comb]
  | a :: as, [], _ => by simp [comb]
  | a :: as, h :: hs, H => by
    have := comb_len w as hs (fun h' m => H h' (List.mem_cons_of_mem _ m))
    simp [comb, this, H h List.mem_cons_self]
theorem dot_axpy (a : Int) : ∀ (x y r : Vec), x.length = y.length → dot (List.zipWith (fun u v => a * u + v) x y) r = a * dot x r + dot y r
  | [], [], r, _ => by simp [dot_nil_l]
  | x :: xs, y :: ys, [], _ => by simp [dot_nil_r]
  | x :: xs, y :: ys, r :: rs, h => by
    have ih := dot_axpy a xs ys rs (by simpa using h)
    simp only [List.zipWith_cons_cons, dot, ih]
    grind
theorem get_axpy (a : Int) : ∀ (x y : Vec), x.length = y.length → ∀ i, (List.zipWith (fun u v => a * u + v) x y).getD i 0 = a * x.getD i 0 + y.getD i 0
  | [], [], _, i => by simp
  | x :: xs, y :: ys, h, 0 => by simp
  | x :: xs, y :: ys, h, i + 1 => by simpa using get_axpy a xs ys (by simpa using h) i
theorem dot_comb (w : Nat) (r : Vec) : ∀ (as : Vec) (hs : List Vec), (∀ h ∈ hs, h.length = w) → dot (comb w as hs) r = dot as (hs.map fun h => dot h r)
  | [], hs, _ => by
    cases hs <;> simp only [comb, dot_nil_l] <;> exact dot_zr (fun i => by simp [List.getD_eq_getElem?_getD, List.getElem?_replicate]; split <;> rfl) r
  | a :: as, [], _ => by
    simp only [comb, List.map_nil, dot_nil_r]
    exact dot_zr (fun i => by simp [List.getD_eq_getElem?_getD, List.getElem?_replicate]; split <;> rfl) r
  | a :: as, h :: hs, H => by
    have hl : ∀ h' ∈ hs, h'.length = w := fun h' m => H h' (List.mem_cons_of_mem _ m)
    have ih := dot_comb w r as hs hl
    simp only [comb, List.map_cons, dot]
    rw [dot_axpy a h _ r (by rw [comb_len w as hs hl, H h List.mem_cons_self]), ih]
theorem get_comb (w : Nat) (i : Nat) : ∀ (as : Vec) (hs : List Vec), (∀ h ∈ hs, h.length = w) → (comb w as hs).getD i 0 = dot as (hs.map fun h => h.getD i 0)
  | [], hs, _ => by cases hs <;> simp [comb, dot, List.getD_eq_getElem?_getD, List.getElem?_replicate] <;> split <;> rfl
  | a :: as, [], _ => by simp [comb, dot, List.getD_eq_getElem?_getD, List.getElem?_replicate]; split <;> rfl
  | a :: as, h :: hs, H => by
    have hl : ∀ h' ∈ hs, h'.length = w := fun h' m => H h' (List.mem_cons_of_mem _ m)
    have ih := get_comb w i as hs hl
    simp only [comb, List.map_cons, dot]
    rw [get_axpy a h _ (by rw [comb_len w as hs hl, H h List.mem_cons_self]), ih]

/-! ### more unknowns than equations: a small solution -/
theorem pigeon : ∀ (N : Nat) (f : Nat → Nat), (∀ i, i ≤ N → f i < N) → ∃ i j, i < j ∧ j ≤ N ∧ f i = f j
  | 0, f, h => absurd (h 0 (Nat.le_refl 0)) (Nat.not_lt_zero _)
  | N + 1, f, h => by
    -- all that have the value of N + 1 are led to N, what is N is led there
    by_cases c : ∃ i, i ≤ N ∧ f i = f (N + 1)
    · obtain ⟨i, hi, e⟩ := c
      exact ⟨i, N + 1, by omega, Nat.le_refl _, e⟩
    · have c' : ∀ i, i ≤ N → f i ≠ f (N + 1) := fun i hi e => c ⟨i, hi, e⟩
      have hN := h (N + 1) (Nat.le_refl _)
      let g : Nat → Nat := fun i => if f i = N then f (N + 1) else f i
      have hg : ∀ i, i ≤ N → g i < N := by
        intro i hi
        have h1 := h i (by omega)
        have h2 := c' i hi
        show (if f i = N then f (N + 1) else f i) < N
        split <;> omega
      obtain ⟨i, j, h1, h2, h3⟩ := pigeon N g hg
      refine ⟨i, j, h1, by omega, ?_⟩
      have a1 := c' i (by omega)
      have a2 := c' j (by omega)
      have e : (if f i = N then f (N + 1) else f i) = (if f j = N then f (N + 1) else f j) := h3
      split at e <;> split at e <;> omega
/-- w digits to a base -/
def dig (q : Nat) : Nat → Nat → Vec
  | 0, _ => []
  | w + 1, i => ((i % q : Nat) : Int) :: dig q w (i / q)
theorem dig_len (q : Nat) : ∀ w i, (dig q w i).length = w
  | 0, _ => rfl
  | w + 1, i => by simp [dig, dig_len q w]
theorem dig_inj (q : Nat) : ∀ (w i j : Nat), i < q ^ w → j < q ^ w → dig q w i = dig q w j → i = j
  | 0, i, j, hi, hj, _ => by simp at hi hj; omega
  | w + 1, i, j, hi, hj, h => by
    simp only [dig, List.cons.injEq] at h
    obtain ⟨h1, h2⟩ := h
    have h1' : i % q = j % q := by exact_mod_cast h1
    have hq : 0 < q := by
      rcases Nat.eq_zero_or_pos q with e | e
      · rw [e, Nat.pow_succ, Nat.mul_zero] at hi; omega
      · exact e
    have d1 : i / q < q ^ w := Nat.div_lt_of_lt_mul (by rw [Nat.mul_comm, ← Nat.pow_succ]; exact hi)
    have d2 : j / q < q ^ w := Nat.div_lt_of_lt_mul (by rw [Nat.mul_comm, ← Nat.pow_succ]; exact hj)
    have h3 := dig_inj q w _ _ d1 d2 h2
    rw [← Nat.div_add_mod i q, ← Nat.div_add_mod j q, h1', h3]
theorem dig_rng (q : Nat) (hq : 0 < q) : ∀ (w i k : Nat), 0 ≤ (dig q w i).getD k 0 ∧ (dig q w i).getD k 0 < q
  | 0, i, k => by simp [dig]; omega
  | w + 1, i, 0 => by
    have := Nat.mod_lt i hq
    simp [dig]
    omega
  | w + 1, i, k + 1 => by simpa [dig] using dig_rng q hq w (i / q) k
/-- a list of ints from -c to c as one number -/
def enc (c : Nat) : Vec → Nat
  | [] => 0
  | a :: as => (a + c).toNat + (2 * c + 1) * enc c as
theorem enc_lt (c : Nat) : ∀ (l : Vec), (∀ a ∈ l, a.natAbs ≤ c) → enc c l < (2 * c + 1) ^ l.length
  | [], _ => by simp [enc]
  | a :: as, h => by
    have h1 := h a List.mem_cons_self
    have ih := enc_lt c as fun b hb => h b (List.mem_cons_of_mem _ hb)
    have h2 : (a + c).toNat < 2 * c + 1 := by omega
    simp only [enc, List.length_cons, Nat.pow_succ]
    have h3 : (2 * c + 1) * (enc c as + 1) ≤ (2 * c + 1) * (2 * c + 1) ^ as.length := Nat.mul_le_mul_left _ ih
    rw [Nat.mul_comm ((2 * c + 1) ^ as.length)]
    rw [Nat.mul_add] at h3
    omega
theorem enc_inj (c : Nat) : ∀ (l m : Vec), l.length = m.length → (∀ a ∈ l, a.natAbs ≤ c) → (∀ a ∈ m, a.natAbs ≤ c) → enc c l = enc c m → l = m
  | [], [], _, _, _, _ => rfl
  | a :: as, b :: bs, hl, h1, h2, e => by
    have a1 := h1 a List.mem_cons_self
    have b1 := h2 b List.mem_cons_self
    simp only [enc] at e
    have x1 : (a + c).toNat < 2 * c + 1 := by omega
    have x2 : (b + c).toNat < 2 * c + 1 := by omega
    have e1 := congrArg (· % (2 * c + 1)) e
    simp only [Nat.add_mul_mod_self_left, Nat.mod_eq_of_lt x1, Nat.mod_eq_of_lt x2] at e1
    have e2 := congrArg (· / (2 * c + 1)) e
    simp only [Nat.add_mul_div_left _ _ (show 0 < 2 * c + 1 by omega), Nat.div_eq_of_lt x1, Nat.div_eq_of_lt x2, Nat.zero_add] at e2
    have ih := enc_inj c as bs (by simpa using hl) (fun b hb => h1 b (List.mem_cons_of_mem _ hb)) (fun b hb => h2 b (List.mem_cons_of_mem _ hb)) e2
    have : a = b := by omega
    rw [this, ih]
theorem dot_bound (R q : Nat) : ∀ (x r : Vec), (∀ i, (x.getD i 0).natAbs ≤ q) → (∀ b ∈ r, b.natAbs ≤ R) → (dot x r).natAbs ≤ x.length * (q * R)
  | [], r, _, _ => by simp [dot_nil_l]
  | x :: xs, [], _, _ => by simp [dot_nil_r]
  | x :: xs, r :: rs, h1, h2 => by
    have ih := dot_bound R q xs rs (fun i => by simpa using h1 (i + 1)) fun b hb => h2 b (List.mem_cons_of_mem _ hb)
    have a1 : x.natAbs ≤ q := by simpa using h1 0
    have a2 := h2 r List.mem_cons_self
    have a3 : (x * r).natAbs ≤ q * R := by rw [Int.natAbs_mul]; exact Nat.mul_le_mul a1 a2
    simp only [dot, List.length_cons, Nat.succ_mul]
    have := Int.natAbs_add_le (x * r) (dot xs rs)
    omega
theorem siegel (w R : Nat) (P : List Vec) (hP : P.length < w) (hR : 0 < R) (hb : ∀ r ∈ P, ∀ b ∈ r, b.natAbs ≤ R) :
    ∃ y : Vec, y.length = w ∧ ¬ Zr y ∧ (∀ r ∈ P, dot y r = 0) ∧ ∀ i, (y.getD i 0).natAbs ≤ (4 * (w * R)) ^ P.length := by
  obtain ⟨n, hn⟩ : ∃ n, n = P.length := ⟨_, rfl⟩
  obtain ⟨B, hB⟩ : ∃ B, B = (4 * (w * R)) ^ n := ⟨_, rfl⟩
  obtain ⟨q, hq⟩ : ∃ q, q = B + 1 := ⟨_, rfl⟩
  have hw : 0 < w := by omega
  have hwR : 0 < w * R := Nat.mul_pos hw hR
  -- the box of values
  obtain ⟨c, hc⟩ : ∃ c, c = w * (B * R) := ⟨_, rfl⟩
  have hBp : 0 < B := by rw [hB]; exact Nat.pow_pos (by omega)
  let F : Nat → Nat := fun i => enc c (P.map fun r => dot (dig q w i) r)
  have inb : ∀ i, ∀ a ∈ P.map (fun r => dot (dig q w i) r), a.natAbs ≤ c := by
    intro i a ha
    obtain ⟨r, hr, rfl⟩ := List.mem_map.mp ha
    have := dot_bound R B (dig q w i) r (fun k => by
      have := dig_rng q (by omega) w i k
      omega) (hb r hr)
    rw [dig_len] at this
    rw [hc]
    exact this
  have hF : ∀ i, F i < (2 * c + 1) ^ n := by
    intro i
    have := enc_lt c _ (inb i)
    rw [List.length_map, ← hn] at this
    exact this
  have big : (2 * c + 1) ^ n < q ^ w := by
    have h1 : 2 * c + 1 ≤ 4 * (w * R) * B := by
      have e : w * (B * R) = w * R * B := by rw [Nat.mul_assoc, Nat.mul_comm B R]
      have : 0 < w * R * B := Nat.mul_pos hwR hBp
      rw [hc, e, Nat.mul_assoc 4 (w * R) B]
      generalize w * R * B = z at this ⊢
      omega
    calc (2 * c + 1) ^ n ≤ (4 * (w * R) * B) ^ n := Nat.pow_le_pow_left h1 n
      _ = B * B ^ n := by rw [Nat.mul_pow, ← hB]
      _ = B ^ (n + 1) := by rw [Nat.pow_succ, Nat.mul_comm]
      _ < q ^ (n + 1) := Nat.pow_lt_pow_left (by omega) (by omega)
      _ ≤ q ^ w := Nat.pow_le_pow_right (by omega) (by omega)
  obtain ⟨i, j, h1, h2, h3⟩ := pigeon ((2 * c + 1) ^ n) F fun i _ => hF i
  have hi : i < q ^ w := by omega
  have hj : j < q ^ w := by omega
  have same := enc_inj c _ _ (by simp) (inb i) (inb j) h3
  have same' : ∀ r ∈ P, dot (dig q w i) r = dot (dig q w j) r := by
    intro r hr
    exact List.map_inj_left.mp same r hr
  refine ⟨lin 1 1 (dig q w i) (dig q w j), lin_len (dig_len ..) (dig_len ..), fun z => ?_, fun r hr => ?_, fun k => ?_⟩
  · have e : dig q w i = dig q w j := by
      refine List.ext_getElem (by rw [dig_len, dig_len]) fun k k1 k2 => ?_
      have := z k
      rw [lin_get 1 1 _ _ (by rw [dig_len, dig_len])] at this
      simp only [List.getD_eq_getElem?_getD, List.getElem?_eq_getElem k1, List.getElem?_eq_getElem k2, Option.getD_some] at this
      omega
    have := dig_inj q w i j hi hj e
    omega
  · rw [dot_lin 1 1 _ _ r (by rw [dig_len, dig_len]), same' r hr]
    omega
  · rw [lin_get 1 1 _ _ (by rw [dig_len, dig_len]), ← hn, ← hB]
    have a1 := dig_rng q (by omega) w i k
    have a2 := dig_rng q (by omega) w j k
    omega
end K3


set_option linter.all false
namespace K3
/-! ### the greatest divisor -/
def gstep (d : Nat) (n : Int) : Nat := Nat.gcd d n.natAbs
def gcdL (ns : List Int) : Nat := ns.foldl gstep 0
/-- the ints divided by what divides them all -/
def redL (ns : List Int) : List Int := if (gcdL ns : Int) ≤ 1 then ns else ns.map fun n => n / (gcdL ns : Int)
theorem gf_dvd : ∀ (ns : List Int) (d : Nat), ns.foldl gstep d ∣ d ∧ ∀ n ∈ ns, ns.foldl gstep d ∣ n.natAbs
  | [], d => ⟨Nat.dvd_refl d, fun _ h => absurd h List.not_mem_nil⟩
  | n :: ns, d => by
    obtain ⟨h1, h2⟩ := gf_dvd ns (gstep d n)
    refine ⟨Nat.dvd_trans h1 (Nat.gcd_dvd_left ..), fun m hm => ?_⟩
    cases List.mem_cons.mp hm with
    | inl e => rw [e]; exact Nat.dvd_trans h1 (Nat.gcd_dvd_right ..)
    | inr h => exact h2 m h
theorem gcdL_dvd {ns : List Int} {n : Int} (h : n ∈ ns) : (gcdL ns : Int) ∣ n := Int.ofNat_dvd_left.mpr ((gf_dvd ns 0).2 n h)
theorem gf_mul (k : Nat) : ∀ (ns : List Int) (d : Nat) (c : Int), c.natAbs = k → (ns.map (c * ·)).foldl gstep (k * d) = k * ns.foldl gstep d
  | [], d, c, _ => rfl
  | n :: ns, d, c, h => by
    have ih := gf_mul k ns (gstep d n) c h
    simp only [List.map_cons, List.foldl_cons]
    rw [← ih]
    congr 1
    simp only [gstep, Int.natAbs_mul, h, Nat.gcd_mul_left]
theorem gcdL_mul (c : Int) (ns : List Int) : gcdL (ns.map (c * ·)) = c.natAbs * gcdL ns := by
  have := gf_mul c.natAbs ns 0 c rfl
  rwa [Nat.mul_zero] at this
theorem gf_great : ∀ (ns : List Int) (d k : Nat), k ∣ d → (∀ n ∈ ns, k ∣ n.natAbs) → k ∣ ns.foldl gstep d
  | [], d, k, h, _ => h
  | n :: ns, d, k, h, H => gf_great ns _ k (Nat.dvd_gcd h (H n List.mem_cons_self)) fun m hm => H m (List.mem_cons_of_mem _ hm)
def Prim (v : Vec) : Prop := ∀ a m : Int, (∀ i, a ∣ m * v.getD i 0) → a ∣ m
theorem prim_of {v : Vec} (h : gcdL v = 1) : Prim v := by
  intro a m H
  have h1 : a.natAbs ∣ gcdL (v.map (m * ·)) := gf_great _ _ _ (Nat.dvd_zero _) fun n hn => by
    obtain ⟨x, hx, rfl⟩ := List.mem_map.mp hn
    obtain ⟨i, hi, e⟩ := List.mem_iff_getElem.mp hx
    have := H i
    rw [List.getD_eq_getElem?_getD, List.getElem?_eq_getElem hi, Option.getD_some, e] at this
    exact Int.natAbs_dvd_natAbs.mpr this
  rw [gcdL_mul, h, Nat.mul_one] at h1
  exact Int.natAbs_dvd_natAbs.mp h1
theorem gcdL_pos {v : Vec} (h : ¬ Zr v) : 0 < gcdL v := by
  rcases Nat.eq_zero_or_pos (gcdL v) with e | e
  · exfalso
    apply h
    intro i
    by_cases hi : i < v.length
    · have := gcdL_dvd (List.getElem_mem hi)
      rw [e] at this
      rw [List.getD_eq_getElem?_getD, List.getElem?_eq_getElem hi, Option.getD_some]
      exact Int.zero_dvd.mp this
    · simp [List.getD_eq_getElem?_getD, List.getElem?_eq_none (by omega : v.length ≤ i)]
  · exact e
theorem redL_facts {u : Vec} (h : ¬ Zr u) : (redL u).length = u.length ∧ gcdL (redL u) = 1 ∧ ∀ i, u.getD i 0 = (gcdL u : Int) * (redL u).getD i 0 := by
  have hp := gcdL_pos h
  unfold redL
  split
  · have e : gcdL u = 1 := by omega
    exact ⟨rfl, e, fun i => by rw [e]; simp⟩
  · have e2 : (u.map fun n => n / (gcdL u : Int)).map ((gcdL u : Int) * ·) = u := by
      rw [List.map_map]
      conv => rhs; rw [← List.map_id u]
      refine List.map_congr_left fun n hn => ?_
      show (gcdL u : Int) * (n / (gcdL u : Int)) = n
      exact Int.mul_ediv_cancel' (gcdL_dvd hn)
    refine ⟨by simp, ?_, fun i => ?_⟩
    · have := gcdL_mul (gcdL u : Int) (u.map fun n => n / (gcdL u : Int))
      rw [e2, Int.natAbs_natCast] at this
      exact Nat.eq_of_mul_eq_mul_left hp (by rw [Nat.mul_one]; exact this.symm)
    · conv => lhs; rw [← e2]
      simp only [List.getD_eq_getElem?_getD, List.getElem?_map]
      cases u[i]? <;> simp
/-! ### vectors that hold -/
def unit (w s : Nat) : Vec := (List.range w).map fun p => if p = s then 1 else 0
theorem unit_len (w s : Nat) : (unit w s).length = w := by simp [unit]
theorem unit_get (w s i : Nat) : (unit w s).getD i 0 = if i < w ∧ i = s then 1 else 0 := by
  simp only [unit, List.getD_eq_getElem?_getD, List.getElem?_map]
  by_cases h : i < w
  · simp [List.getElem?_range h, h]
  · simp [h]
theorem dot_unit_aux (s : Nat) : ∀ (x : Vec) (k : Nat), dot x ((List.range' k x.length).map fun p => if p = s then (1 : Int) else 0) = if k ≤ s then x.getD (s - k) 0 else 0
  | [], k => by simp [dot_nil_l]
  | a :: as, k => by
    have ih := dot_unit_aux s as (k + 1)
    simp only [List.length_cons, List.range'_succ, List.map_cons, dot, ih]
    by_cases h1 : k = s
    · subst h1
      simp [show ¬ (k + 1 ≤ k) by omega]
    · by_cases h2 : k < s
      · have e : s - k = (s - (k + 1)) + 1 := by omega
        simp [h1, show k + 1 ≤ s by omega, show k ≤ s by omega, e]
      · simp [h1, show ¬ k + 1 ≤ s by omega, show ¬ k ≤ s by omega]
theorem dot_unit {w s : Nat} {x : Vec} (h : x.length = w) : dot x (unit w s) = x.getD s 0 := by
  have := dot_unit_aux s x 0
  rw [h] at this
  unfold unit
  rw [List.range_eq_range', this]
  simp
theorem unit_gcd {w s : Nat} (h : s < w) : gcdL (unit w s) = 1 := by
  have h1 := (gf_dvd (unit w s) 0).2 1 (by
    refine List.mem_map.mpr ⟨s, List.mem_range.mpr h, ?_⟩
    simp)
  have : gcdL (unit w s) ∣ 1 := h1
  exact Nat.dvd_one.mp this
def units (w : Nat) : List Vec := (List.range w).map (unit w)
def wout (row : Vec) (p : Int) (pr : Vec) (pp : Int) : Vec := if p = 0 then row else redL (lin pp p row pr)
def narrow (held : List Vec) (row : Vec) : List Vec :=
  match held.findIdx? (fun h => dot h row != 0) with
  | none => held
  | some k => (held.eraseIdx k).map fun h => wout h (dot h row) (held.getD k []) (dot (held.getD k []) row)
structure Good (w : Nat) (L P : List Vec) (G : List (Nat × Vec)) : Prop where
  wid : ∀ p ∈ G, p.2.length = w
  nd : (G.map (·.1)).Nodup
  tri : ∀ p ∈ G, ∀ q ∈ G, p.1 ≠ q.1 → p.2.getD q.1 0 = 0
  piv : ∀ p ∈ G, p.2.getD p.1 0 ≠ 0
  ker : ∀ p ∈ G, ∀ r ∈ L, dot p.2 r = 0
  sub : ∀ r ∈ P, r ∈ L
  cnt : P.length + G.length = w
  det : ∀ x : Vec, x.length = w → (∀ r ∈ P, dot x r = 0) → (∀ p ∈ G, x.getD p.1 0 = 0) → Zr x
  prim : ∀ p ∈ G, gcdL p.2 = 1
theorem good_start (w : Nat) : Good w [] [] ((List.range w).map fun s => (s, unit w s)) where
  wid := fun p h => by obtain ⟨s, _, rfl⟩ := List.mem_map.mp h; exact unit_len w s
  nd := by
    rw [List.map_map]
    show ((List.range w).map fun s => s).Nodup
    rw [List.map_id']
    exact List.nodup_range
  tri := fun p h q h' n => by
    obtain ⟨s, _, rfl⟩ := List.mem_map.mp h
    rw [unit_get]
    exact if_neg fun z => n z.2.symm
  piv := fun p h => by
    obtain ⟨s, hs, rfl⟩ := List.mem_map.mp h
    rw [unit_get, if_pos ⟨List.mem_range.mp hs, rfl⟩]
    decide
  ker := fun _ _ r h => absurd h List.not_mem_nil
  sub := fun r h => absurd h List.not_mem_nil
  cnt := by simp
  det := fun x hx _ h i => by
    by_cases hi : i < w
    · exact h (i, unit w i) (List.mem_map.mpr ⟨i, List.mem_range.mpr hi, rfl⟩)
    · simp [List.getD_eq_getElem?_getD, List.getElem?_eq_none (by omega : x.length ≤ i)]
  prim := fun p h => by
    obtain ⟨s, hs, rfl⟩ := List.mem_map.mp h
    exact unit_gcd (List.mem_range.mp hs)
theorem key_inj {G : List (Nat × Vec)} (nd : (G.map (·.1)).Nodup) {i j : Nat} {p q : Nat × Vec} (hi : G[i]? = some p) (hj : G[j]? = some q) (e : p.1 = q.1) : i = j := by
  have li := (List.getElem?_eq_some_iff.mp hi).1
  have lj := (List.getElem?_eq_some_iff.mp hj).1
  have e1 : (G.map (·.1))[i]? = (G.map (·.1))[j]? := by rw [List.getElem?_map, List.getElem?_map, hi, hj]; simp [e]
  exact (List.getElem?_inj (by simpa using li) nd).mp e1
theorem wout_facts {w : Nat} {h q : Vec} {p pp : Int} (hh : h.length = w) (hq : q.length = w) (nz : p ≠ 0 → ¬ Zr (lin pp p h q)) (g1 : gcdL h = 1) :
    (wout h p q pp).length = w ∧ gcdL (wout h p q pp) = 1 ∧ ∃ g c : Int, g ≠ 0 ∧ (p = 0 → g = 1 ∧ c = 1) ∧ (p ≠ 0 → c = pp) ∧ ∀ i, g * (wout h p q pp).getD i 0 = c * h.getD i 0 - p * q.getD i 0 := by
  unfold wout
  by_cases e : p = 0
  · rw [if_pos e]
    exact ⟨hh, g1, 1, 1, by decide, fun _ => ⟨rfl, rfl⟩, fun n => absurd e n, fun i => by rw [e]; omega⟩
  · rw [if_neg e]
    obtain ⟨f1, f2, f3⟩ := redL_facts (nz e)
    refine ⟨by rw [f1, lin_len hh hq], f2, (gcdL (lin pp p h q) : Int), pp, ?_, fun z => absurd z e, fun _ => rfl, fun i => ?_⟩
    · have := gcdL_pos (nz e)
      omega
    · rw [← f3 i, lin_get pp p h q (by rw [hh, hq]), Int.mul_comm pp, Int.mul_comm p]
theorem dot_of_get (g c p : Int) : ∀ (v h q r : Vec), v.length = h.length → v.length = q.length → (∀ i, g * v.getD i 0 = c * h.getD i 0 - p * q.getD i 0) → g * dot v r = c * dot h r - p * dot q r
  | [], [], [], r, _, _, _ => by simp [dot_nil_l]
  | v :: vs, h :: hs, q :: qs, [], _, _, _ => by simp [dot_nil_r]
  | v :: vs, h :: hs, q :: qs, r :: rs, l1, l2, H => by
    have h0 := H 0
    have ih := dot_of_get g c p vs hs qs rs (by simpa using l1) (by simpa using l2) fun i => by simpa using H (i + 1)
    simp only [List.getD_cons_zero] at h0
    simp only [dot]
    grind
theorem erase_map {α β : Type} (f : α → β) : ∀ (l : List α) (k : Nat), (l.map f).eraseIdx k = (l.eraseIdx k).map f
  | [], k => by simp
  | a :: l, 0 => rfl
  | a :: l, k + 1 => by simp [erase_map f l k]
theorem narrow_step {w : Nat} {L P : List Vec} {G : List (Nat × Vec)} (I : Good w L P G) (row : Vec) :
    ∃ P' G', Good w (L ++ [row]) P' G' ∧ G'.map (·.2) = narrow (G.map (·.2)) row ∧
      ((∃ p ∈ G, dot p.2 row ≠ 0) → G'.length + 1 = G.length) := by
  cases hk : (G.map (·.2)).findIdx? (fun h => dot h row != 0) with
  | none =>
    have hz : ∀ p ∈ G, dot p.2 row = 0 := fun p hp => by
      have := List.findIdx?_eq_none_iff.mp hk p.2 (List.mem_map.mpr ⟨p, hp, rfl⟩)
      simpa using this
    refine ⟨P, G, ⟨I.wid, I.nd, I.tri, I.piv, fun p hp r hr => ?_, fun r hr => List.mem_append_left _ (I.sub r hr), I.cnt, I.det, I.prim⟩, ?_, fun ⟨p, hp, n⟩ => absurd (hz p hp) n⟩
    · cases List.mem_append.mp hr with
      | inl h => exact I.ker p hp r h
      | inr h => rw [List.mem_singleton.mp h]; exact hz p hp
    · unfold narrow
      rw [hk]
  | some k =>
    obtain ⟨hkl, hkp, _⟩ := List.findIdx?_eq_some_iff_getElem.mp hk
    rw [List.length_map] at hkl
    obtain ⟨q, hq⟩ : ∃ q, q = G[k] := ⟨_, rfl⟩
    have hqk : G[k]? = some q := by rw [hq]; exact List.getElem?_eq_getElem hkl
    have hqm : q ∈ G := List.mem_of_getElem? hqk
    have hpp : dot q.2 row ≠ 0 := by
      have := hkp
      rw [List.getElem_map, ← hq] at this
      simpa using this
    obtain ⟨pp, epp⟩ : ∃ pp, pp = dot q.2 row := ⟨_, rfl⟩
    rw [← epp] at hpp
    let f : Nat × Vec → Nat × Vec := fun p => (p.1, wout p.2 (dot p.2 row) q.2 pp)
    -- what stays
    have stay : ∀ p ∈ G.eraseIdx k, p ∈ G ∧ p.1 ≠ q.1 := by
      intro p hp
      obtain ⟨i, hi, e⟩ := (List.mem_eraseIdx_iff_getElem?).mp hp
      exact ⟨List.mem_of_getElem? e, fun z => hi (key_inj I.nd e hqk z)⟩
    have nz : ∀ p ∈ G.eraseIdx k, dot p.2 row ≠ 0 → ¬ Zr (lin pp (dot p.2 row) p.2 q.2) := by
      intro p hp _ z
      obtain ⟨m, n⟩ := stay p hp
      have := z p.1
      rw [lin_get _ _ _ _ (by rw [I.wid p m, I.wid q hqm]), I.tri q hqm p m (Ne.symm n), Int.zero_mul, Int.sub_zero] at this
      rcases Int.mul_eq_zero.mp this with h | h
      · exact I.piv p m h
      · exact hpp h
    have wf := fun p (hp : p ∈ G.eraseIdx k) => wout_facts (I.wid p (stay p hp).1) (I.wid q hqm) (nz p hp) (I.prim p (stay p hp).1)
    have len : (G.eraseIdx k).length + 1 = G.length := by rw [List.length_eraseIdx_of_lt hkl]; omega
    refine ⟨P ++ [row], (G.eraseIdx k).map f, ⟨?_, ?_, ?_, ?_, ?_, ?_, ?_, ?_, ?_⟩, ?_, fun _ => by rw [List.length_map]; exact len⟩
    · intro p hp
      obtain ⟨p0, h0, rfl⟩ := List.mem_map.mp hp
      exact (wf p0 h0).1
    · rw [List.map_map]
      show ((G.eraseIdx k).map (·.1)).Nodup
      exact (I.nd.sublist ((List.eraseIdx_sublist G k).map _))
    · intro p hp p' hp' n
      obtain ⟨p0, h0, rfl⟩ := List.mem_map.mp hp
      obtain ⟨p1, h1, rfl⟩ := List.mem_map.mp hp'
      obtain ⟨_, _, g, c, gn, _, _, gg⟩ := wf p0 h0
      have e := gg p1.1
      rw [I.tri p0 (stay p0 h0).1 p1 (stay p1 h1).1 n, I.tri q hqm p1 (stay p1 h1).1 (Ne.symm (stay p1 h1).2)] at e
      have e2 : g * (wout p0.2 (dot p0.2 row) q.2 pp).getD p1.1 0 = 0 := by rw [e]; omega
      exact (Int.mul_eq_zero.mp e2).resolve_left gn
    · intro p hp
      obtain ⟨p0, h0, rfl⟩ := List.mem_map.mp hp
      obtain ⟨_, _, g, c, gn, c1, c2, gg⟩ := wf p0 h0
      have e := gg p0.1
      rw [I.tri q hqm p0 (stay p0 h0).1 (Ne.symm (stay p0 h0).2)] at e
      intro z
      have z' : (wout p0.2 (dot p0.2 row) q.2 pp).getD p0.1 0 = 0 := z
      rw [z'] at e
      have e3 : c * p0.2.getD p0.1 0 = 0 := by omega
      have cn : c ≠ 0 := by
        by_cases h : dot p0.2 row = 0
        · rw [(c1 h).2]; decide
        · rw [c2 h]; exact hpp
      exact (Int.mul_eq_zero.mp e3).elim cn (I.piv p0 (stay p0 h0).1)
    · intro p hp r hr
      obtain ⟨p0, h0, rfl⟩ := List.mem_map.mp hp
      obtain ⟨l0, _, g, c, gn, c1, c2, gg⟩ := wf p0 h0
      have e := dot_of_get g c (dot p0.2 row) _ p0.2 q.2 r (by rw [l0, I.wid p0 (stay p0 h0).1]) (by rw [l0, I.wid q hqm]) gg
      have e2 : g * dot (wout p0.2 (dot p0.2 row) q.2 pp) r = 0 := by
        rw [e]
        cases List.mem_append.mp hr with
        | inl h => rw [I.ker p0 (stay p0 h0).1 r h, I.ker q hqm r h]; omega
        | inr h =>
          rw [List.mem_singleton.mp h, ← epp]
          by_cases z : dot p0.2 row = 0
          · rw [z]; omega
          · rw [c2 z, Int.mul_comm]; omega
      exact (Int.mul_eq_zero.mp e2).resolve_left gn
    · intro r hr
      cases List.mem_append.mp hr with
      | inl h => exact List.mem_append_left _ (I.sub r h)
      | inr h => exact List.mem_append_right _ h
    · have := I.cnt
      rw [List.length_append, List.length_map]
      simp only [List.length_cons, List.length_nil]
      omega
    · intro x hx h1 h2
      have hl : x.length = q.2.length := by rw [hx, I.wid q hqm]
      have y0 : Zr (lin (q.2.getD q.1 0) (x.getD q.1 0) x q.2) := by
        refine I.det _ (lin_len hx (I.wid q hqm)) (fun r hr => ?_) fun p hp => ?_
        · rw [dot_lin _ _ _ _ _ hl, h1 r (List.mem_append_left _ hr), I.ker q hqm r (I.sub r hr)]
          omega
        · rw [lin_get _ _ _ _ hl]
          by_cases e : p.1 = q.1
          · rw [e, Int.mul_comm]; omega
          · have hx0 : x.getD p.1 0 = 0 := by
              obtain ⟨i, hi⟩ := List.mem_iff_getElem?.mp hp
              have hik : i ≠ k := fun z => e (by rw [z, hqk] at hi; rw [Option.some.inj hi])
              have hm : p ∈ G.eraseIdx k := (List.mem_eraseIdx_iff_getElem?).mpr ⟨i, hik, hi⟩
              exact h2 (f p) (List.mem_map.mpr ⟨p, hm, rfl⟩)
            rw [hx0, I.tri q hqm p hp (Ne.symm e)]
            omega
      have d0 := dot_zr y0 row
      rw [dot_lin _ _ _ _ _ hl, h1 row (List.mem_append_right _ (List.mem_singleton.mpr rfl)), ← epp] at d0
      have xq : x.getD q.1 0 = 0 := by
        have : x.getD q.1 0 * pp = 0 := by omega
        exact (Int.mul_eq_zero.mp this).resolve_right hpp
      refine I.det x hx (fun r hr => h1 r (List.mem_append_left _ hr)) fun p hp => ?_
      by_cases e : p.1 = q.1
      · rw [e]; exact xq
      · obtain ⟨i, hi⟩ := List.mem_iff_getElem?.mp hp
        have hik : i ≠ k := fun z => e (by rw [z, hqk] at hi; rw [Option.some.inj hi])
        have hm : p ∈ G.eraseIdx k := (List.mem_eraseIdx_iff_getElem?).mpr ⟨i, hik, hi⟩
        exact h2 (f p) (List.mem_map.mpr ⟨p, hm, rfl⟩)
    · intro p hp
      obtain ⟨p0, h0, rfl⟩ := List.mem_map.mp hp
      exact (wf p0 h0).2.1
    · unfold narrow
      rw [hk]
      have eq2 : (G.map (·.2)).getD k [] = q.2 := by
        rw [List.getD_eq_getElem?_getD, List.getElem?_map, hqk]
        rfl
      simp only [eq2, ← epp]
      rw [List.map_map, erase_map, List.map_map]
      rfl
end K3


set_option linter.all false
namespace K3
theorem good_run {w : Nat} : ∀ (rows L P : List Vec) (G : List (Nat × Vec)), Good w L P G →
    ∃ P' G', Good w (L ++ rows) P' G' ∧ G'.map (·.2) = rows.foldl narrow (G.map (·.2))
  | [], L, P, G, I => ⟨P, G, by rw [List.append_nil]; exact I, rfl⟩
  | row :: rows, L, P, G, I => by
    obtain ⟨P1, G1, I1, e1, _⟩ := narrow_step I row
    obtain ⟨P2, G2, I2, e2⟩ := good_run rows _ _ _ I1
    refine ⟨P2, G2, ?_, ?_⟩
    · rw [List.append_assoc] at I2
      exact I2
    · rw [e2, e1]
      rfl
def heldM (w : Nat) (rows : List Vec) : List Vec := rows.foldl narrow (units w)
theorem good_held (w : Nat) (rows : List Vec) : ∃ P G, Good w rows P G ∧ G.map (·.2) = heldM w rows := by
  obtain ⟨P, G, I, e⟩ := good_run rows [] [] _ (good_start w)
  refine ⟨P, G, I, e.trans ?_⟩
  unfold heldM units
  rw [List.map_map]
  rfl
/-- what all that hold hold of, all that are led by the same hold of -/
theorem span_aux {w : Nat} {L P : List Vec} {G : List (Nat × Vec)} (I : Good w L P G) {e : Vec} (h : ∀ p ∈ G, dot p.2 e = 0) :
    ∀ (l : List (Nat × Vec)), (∀ p ∈ l, p ∈ G) → ∀ x : Vec, x.length = w → (∀ r ∈ P, dot x r = 0) → (∀ p ∈ G, p.1 ∉ l.map (·.1) → x.getD p.1 0 = 0) → dot x e = 0
  | [], _, x, hx, h1, h2 => dot_zr (I.det x hx h1 fun p hp => h2 p hp (by simp)) e
  | q :: l, hl, x, hx, h1, h2 => by
    have hq := hl q List.mem_cons_self
    have ll : x.length = q.2.length := by rw [hx, I.wid q hq]
    have d := span_aux I h l (fun p hp => hl p (List.mem_cons_of_mem _ hp)) (lin (q.2.getD q.1 0) (x.getD q.1 0) x q.2) (lin_len hx (I.wid q hq))
      (fun r hr => by rw [dot_lin _ _ _ _ _ ll, h1 r hr, I.ker q hq r (I.sub r hr)]; omega)
      (fun p hp hn => by
        rw [lin_get _ _ _ _ ll]
        by_cases z : p.1 = q.1
        · rw [z, Int.mul_comm]; omega
        · rw [I.tri q hq p hp (Ne.symm z), h2 p hp (by simp only [List.map_cons, List.mem_cons, not_or]; exact ⟨z, hn⟩)]; omega)
    rw [dot_lin _ _ _ _ _ ll, h q hq] at d
    have d2 : q.2.getD q.1 0 * dot x e = 0 := by omega
    exact (Int.mul_eq_zero.mp d2).resolve_left (I.piv q hq)
theorem span {w : Nat} {L P : List Vec} {G : List (Nat × Vec)} (I : Good w L P G) {e : Vec} (h : ∀ p ∈ G, dot p.2 e = 0) (x : Vec) (hx : x.length = w) (h1 : ∀ r ∈ P, dot x r = 0) : dot x e = 0 :=
  span_aux I h G (fun _ h => h) x hx h1 fun p hp hn => absurd (List.mem_map.mpr ⟨p, hp, rfl⟩) hn
theorem vec_bound : ∀ (v : Vec), ∃ R, ∀ b ∈ v, b.natAbs ≤ R
  | [] => ⟨0, fun _ h => absurd h List.not_mem_nil⟩
  | a :: as => by
    obtain ⟨R, h⟩ := vec_bound as
    refine ⟨R + a.natAbs, fun b hb => ?_⟩
    cases List.mem_cons.mp hb with
    | inl e => rw [e]; omega
    | inr m => have := h b m; omega
theorem all_bound : ∀ (P : List Vec), ∃ R, 0 < R ∧ ∀ r ∈ P, ∀ b ∈ r, b.natAbs ≤ R
  | [] => ⟨1, by decide, fun _ h => absurd h List.not_mem_nil⟩
  | v :: P => by
    obtain ⟨R, hR, h⟩ := all_bound P
    obtain ⟨S, k⟩ := vec_bound v
    refine ⟨R + S, by omega, fun r hr b hb => ?_⟩
    cases List.mem_cons.mp hr with
    | inl e => rw [e] at hb; have := k b hb; omega
    | inr m => have := h r m b hb; omega
theorem dot_single : ∀ (a v : Vec) (k : Nat), a.length = v.length → (∀ j, j ≠ k → v.getD j 0 = 0) → dot a v = a.getD k 0 * v.getD k 0
  | [], [], k, _, _ => by simp [dot]
  | a :: as, v :: vs, 0, h, H => by
    have z : Zr vs := fun i => by simpa using H (i + 1) (by omega)
    have : dot as vs = 0 := by rw [dot_comm]; exact dot_zr z as
    simp [dot, this]
  | a :: as, v :: vs, k + 1, h, H => by
    have ih := dot_single as vs k (by simpa using h) fun j hj => by simpa using H (j + 1) (by omega)
    have v0 : v = 0 := by simpa using H 0 (by omega)
    simp [dot, ih, v0]
theorem dot_noughts {a : Vec} {n : Nat} : ∀ (v : Vec), (∀ b ∈ v, b = 0) → dot a v = 0 := fun v h => by
  rw [dot_comm]
  refine dot_zr (fun i => ?_) a
  rw [List.getD_eq_getElem?_getD]
  cases e : v[i]? with
  | none => rfl
  | some x => exact h x (List.mem_of_getElem? e)
theorem count_le {w : Nat} {L P L' P' : List Vec} {G G' : List (Nat × Vec)} (I : Good w L P G) (J : Good w L' P' G')
    (h : ∀ x : Vec, x.length = w → (∀ r ∈ L, dot x r = 0) → ∀ r ∈ P', dot x r = 0) : G.length ≤ G'.length := by
  refine Nat.le_of_not_lt fun hlt => ?_
  obtain ⟨R, hR, hb⟩ := all_bound (G'.map fun q => G.map fun p => p.2.getD q.1 0)
  obtain ⟨a, al, an, ad, _⟩ := siegel G.length R (G'.map fun q => G.map fun p => p.2.getD q.1 0) (by rw [List.length_map]; exact hlt) hR hb
  have wl : ∀ v ∈ G.map (·.2), v.length = w := fun v hv => by
    obtain ⟨p, hp, rfl⟩ := List.mem_map.mp hv
    exact I.wid p hp
  have x0 : Zr (comb w a (G.map (·.2))) := by
    refine J.det _ (comb_len w a _ wl) (h _ (comb_len w a _ wl) fun r hr => ?_) fun q hq => ?_
    · rw [dot_comb w r a _ wl]
      refine dot_noughts (n := 0) _ fun b hb => ?_
      rw [List.map_map] at hb
      obtain ⟨p, hp, rfl⟩ := List.mem_map.mp hb
      exact I.ker p hp r hr
    · rw [get_comb w q.1 a _ wl, List.map_map]
      exact ad _ (List.mem_map.mpr ⟨q, hq, rfl⟩)
  apply an
  intro k
  by_cases hk : k < G.length
  · obtain ⟨p, hp⟩ : ∃ p, G[k]? = some p := ⟨_, List.getElem?_eq_getElem hk⟩
    have e := x0 p.1
    rw [get_comb w p.1 a _ wl, List.map_map, dot_single a _ k (by rw [List.length_map, al]) (fun j hj => ?_)] at e
    · have e2 : (List.map ((fun h => h.getD p.1 0) ∘ fun x => x.2) G).getD k 0 = p.2.getD p.1 0 := by
        rw [List.getD_eq_getElem?_getD, List.getElem?_map, hp]; rfl
      rw [e2] at e
      exact (Int.mul_eq_zero.mp e).resolve_right (I.piv p (List.mem_of_getElem? hp))
    · rw [List.getD_eq_getElem?_getD, List.getElem?_map]
      cases ej : G[j]? with
      | none => rfl
      | some p' =>
        refine I.tri p' (List.mem_of_getElem? ej) p (List.mem_of_getElem? hp) fun z => hj (key_inj I.nd ej hp z)
  · rw [List.getD_eq_getElem?_getD, List.getElem?_eq_none (by omega)]
    rfl
/-! ### rows with a place of their own each, where all later ones have 0 -/
inductive Ech (w : Nat) : List Vec → Prop where
  | nil : Ech w []
  | cons {e : Vec} {es : List Vec} {p : Nat} (len : e.length = w) (nz : e.getD p 0 ≠ 0) (z : ∀ e' ∈ es, e'.getD p 0 = 0) (r : Ech w es) : Ech w (e :: es)
theorem Ech.len {w : Nat} : ∀ {E : List Vec}, Ech w E → ∀ e ∈ E, e.length = w
  | _, .nil, _, h => absurd h List.not_mem_nil
  | _, .cons len _ _ r, e, h => (List.mem_cons.mp h).elim (fun z => z ▸ len) (r.len e)
theorem ech_good {w : Nat} : ∀ {E : List Vec}, Ech w E → ∃ P G, Good w E.reverse P G ∧ G.length + E.length = w
  | _, .nil => ⟨[], _, good_start w, by simp⟩
  | e :: es, .cons (p := p) len nz z r => by
    obtain ⟨P, G, I, c⟩ := ech_good r
    obtain ⟨P', G', I', _, hc⟩ := narrow_step I e
    refine ⟨P', G', by rw [List.reverse_cons]; exact I', ?_⟩
    have hp : p < w := by
      refine Nat.lt_of_not_le fun h => nz ?_
      rw [List.getD_eq_getElem?_getD, List.getElem?_eq_none (by omega)]
      rfl
    have : ∃ q ∈ G, dot q.2 e ≠ 0 := by
      refine Classical.byContradiction fun n => nz ?_
      have all : ∀ q ∈ G, dot q.2 e = 0 := fun q hq => Classical.byContradiction fun m => n ⟨q, hq, m⟩
      have := span I all (unit w p) (unit_len w p) fun r hr => by
        have hr' := I.sub r hr
        have hm : r ∈ es := List.mem_reverse.mp hr'
        rw [dot_comm, dot_unit (Ech.len (by assumption) r hm)]
        exact z r hm
      rw [dot_comm, dot_unit len] at this
      exact this
    have := hc this
    simp only [List.length_cons]
    omega

def rankM (w : Nat) (rows : List Vec) : Nat := w - (heldM w rows).length
theorem rank_eq {w : Nat} {rows E : List Vec} (hE : Ech w E) (h : ∀ x : Vec, x.length = w → ((∀ r ∈ rows, dot x r = 0) ↔ ∀ e ∈ E, dot x e = 0)) : (heldM w rows).length + E.length = w := by
  obtain ⟨P, G, I, e⟩ := good_held w rows
  obtain ⟨P1, G1, I1, c⟩ := ech_good hE
  have a1 := count_le I I1 fun x hx hr r hm => (h x hx).mp hr r (List.mem_reverse.mp (I1.sub r hm))
  have a2 := count_le I1 I fun x hx hr r hm => (h x hx).mpr (fun e he => hr e (List.mem_reverse.mpr he)) r (I.sub r hm)
  rw [← e, List.length_map]
  omega
/-! ### how great what holds can be -/
theorem good_bound {w : Nat} {L P : List Vec} {G : List (Nat × Vec)} (I : Good w L P G) {R : Nat} (hR : 0 < R) (hb : ∀ r ∈ L, ∀ b ∈ r, b.natAbs ≤ R) :
    ∀ p ∈ G, ∀ i, (p.2.getD i 0).natAbs ≤ (4 * (w * R)) ^ (w - 1) := by
  intro p hp i
  obtain ⟨l1, l2, eG⟩ := List.append_of_mem hp
  have cnt := I.cnt
  have gl : G.length = l1.length + (l2.length + 1) := by rw [eG]; simp
  obtain ⟨y, yl, yn, yd, yb⟩ := siegel w R (P ++ (l1 ++ l2).map fun q => unit w q.1) (by simp only [List.length_append, List.length_map]; omega) hR (by
    intro r hr b hb'
    cases List.mem_append.mp hr with
    | inl m => exact hb r (I.sub r m) b hb'
    | inr m =>
      obtain ⟨q, _, rfl⟩ := List.mem_map.mp m
      obtain ⟨k, _, rfl⟩ := List.mem_map.mp hb'
      split <;> simp <;> omega)
  have pl : y.length = p.2.length := by rw [yl, I.wid p hp]
  have nd := I.nd
  have other : ∀ q ∈ G, q.1 ≠ p.1 → y.getD q.1 0 = 0 := by
    intro q hq n
    have hm : q ∈ l1 ++ l2 := by
      rw [eG] at hq
      cases List.mem_append.mp hq with
      | inl m => exact List.mem_append_left _ m
      | inr m =>
        cases List.mem_cons.mp m with
        | inl e => exact absurd (by rw [e]) n
        | inr m => exact List.mem_append_right _ m
    have := yd _ (List.mem_append_right _ (List.mem_map.mpr ⟨q, hm, rfl⟩))
    rwa [dot_unit yl] at this
  have z := I.det (lin (p.2.getD p.1 0) (y.getD p.1 0) y p.2) (lin_len yl (I.wid p hp))
    (fun r hr => by rw [dot_lin _ _ _ _ _ pl, yd r (List.mem_append_left _ hr), I.ker p hp r (I.sub r hr)]; omega)
    (fun q hq => by
      rw [lin_get _ _ _ _ pl]
      by_cases e : q.1 = p.1
      · rw [e, Int.mul_comm]; omega
      · rw [other q hq e, I.tri p hp q hq (Ne.symm e)]; omega)
  have prop : ∀ k, y.getD k 0 * p.2.getD p.1 0 = p.2.getD k 0 * y.getD p.1 0 := fun k => by
    have := z k
    rw [lin_get _ _ _ _ pl] at this
    omega
  have dv : p.2.getD p.1 0 ∣ y.getD p.1 0 := prim_of (I.prim p hp) _ _ fun k => ⟨y.getD k 0, by rw [Int.mul_comm, ← prop k, Int.mul_comm]⟩
  obtain ⟨m, hm⟩ := dv
  have pz := I.piv p hp
  have ym : ∀ k, y.getD k 0 = m * p.2.getD k 0 := fun k => by
    have h1 := prop k
    rw [hm] at h1
    refine Int.eq_of_mul_eq_mul_right pz ?_
    rw [h1]
    grind
  have mn : m ≠ 0 := fun e => yn fun k => by rw [ym k, e, Int.zero_mul]
  have b1 := yb i
  rw [ym i, Int.natAbs_mul] at b1
  have b2 : (p.2.getD i 0).natAbs ≤ m.natAbs * (p.2.getD i 0).natAbs := Nat.le_mul_of_pos_left _ (by omega)
  refine Nat.le_trans (Nat.le_trans b2 b1) (Nat.pow_le_pow_right ?_ ?_)
  · have : 0 < w * R := Nat.mul_pos (by omega) hR
    omega
  · simp only [List.length_append, List.length_map]
    omega
theorem held_facts (w : Nat) (rows : List Vec) {R : Nat} (hR : 0 < R) (hb : ∀ r ∈ rows, ∀ b ∈ r, b.natAbs ≤ R) :
    (heldM w rows).length ≤ w ∧ ∀ h ∈ heldM w rows, h.length = w ∧ ∀ b ∈ h, b.natAbs ≤ (4 * (w * R)) ^ (w - 1) := by
  obtain ⟨P, G, I, e⟩ := good_held w rows
  rw [← e]
  refine ⟨by have := I.cnt; rw [List.length_map]; omega, fun h hh => ?_⟩
  obtain ⟨p, hp, rfl⟩ := List.mem_map.mp hh
  refine ⟨I.wid p hp, fun b hb' => ?_⟩
  obtain ⟨i, hi, rfl⟩ := List.mem_iff_getElem.mp hb'
  have := good_bound I hR hb p hp i
  rwa [List.getD_eq_getElem?_getD, List.getElem?_eq_getElem hi] at this
end K3


set_option linter.all false
namespace K3
theorem getD_mem {l : Vec} {i : Nat} {P : Int → Prop} (h0 : P 0) (h : ∀ b ∈ l, P b) : P (l.getD i 0) := by
  rw [List.getD_eq_getElem?_getD]
  cases e : l[i]? with
  | none => exact h0
  | some x => exact h x (List.mem_of_getElem? e)
theorem ext_get {a b : Vec} (hl : a.length = b.length) (h : ∀ i, a.getD i 0 = b.getD i 0) : a = b := by
  refine List.ext_getElem hl fun i h1 h2 => ?_
  have := h i
  rwa [List.getD_eq_getElem?_getD, List.getD_eq_getElem?_getD, List.getElem?_eq_getElem h1, List.getElem?_eq_getElem h2] at this
/-! ### clearing place after place -/
def ownStep (s : List Vec × Nat) (place : Nat) : List Vec × Nat :=
  match s.1.filter (fun r => r.getD place 0 != 0) with
  | [] => s
  | head :: tl => (s.1.filter (fun r => r.getD place 0 == 0) ++ tl.map (fun row => lin (head.getD place 0) (row.getD place 0) row head), s.2 + 1)
def ownS (rows : List Vec) (p : Nat) : List Vec × Nat := (List.range p).foldl ownStep (rows, 0)
theorem own_aux {w : Nat} : ∀ (n p : Nat) (left : List Vec) (k : Nat), p + n = w → (∀ r ∈ left, r.length = w ∧ ∀ i, i < p → r.getD i 0 = 0) →
    ∃ E, Ech w E ∧ ((List.range' p n).foldl ownStep (left, k)).2 = k + E.length ∧ (∀ e ∈ E, ∀ i, i < p → e.getD i 0 = 0) ∧
      ∀ x : Vec, x.length = w → ((∀ r ∈ left, dot x r = 0) ↔ ∀ e ∈ E, dot x e = 0)
  | 0, p, left, k, hp, h => by
    refine ⟨[], .nil, rfl, fun _ h => absurd h List.not_mem_nil, fun x hx => ⟨fun _ _ h => absurd h List.not_mem_nil, fun _ r hr => ?_⟩⟩
    rw [dot_comm]
    refine dot_zr (fun i => ?_) x
    obtain ⟨h1, h2⟩ := h r hr
    by_cases hi : i < p
    · exact h2 i hi
    · rw [List.getD_eq_getElem?_getD, List.getElem?_eq_none (by omega)]; rfl
  | n + 1, p, left, k, hp, h => by
    simp only [List.range'_succ, List.foldl_cons]
    cases hf : left.filter (fun r => r.getD p 0 != 0) with
    | nil =>
      have e : ownStep (left, k) p = (left, k) := by simp only [ownStep, hf]
      rw [e]
      have allz : ∀ r ∈ left, r.getD p 0 = 0 := fun r hr => by
        have := List.filter_eq_nil_iff.mp hf r hr
        simpa using this
      obtain ⟨E, h1, h2, h3, h4⟩ := own_aux n (p + 1) left k (by omega) fun r hr => ⟨(h r hr).1, fun i hi => by
        by_cases z : i = p
        · rw [z]; exact allz r hr
        · exact (h r hr).2 i (by omega)⟩
      exact ⟨E, h1, h2, fun e he i hi => h3 e he i (by omega), h4⟩
    | cons head tl =>
      have sub : ∀ r, r ∈ head :: tl → r ∈ left ∧ r.getD p 0 ≠ 0 := fun r hr => by
        rw [← hf] at hr
        obtain ⟨a, b⟩ := List.mem_filter.mp hr
        exact ⟨a, by simpa using b⟩
      have sub2 : ∀ r ∈ left, r.getD p 0 ≠ 0 → r ∈ head :: tl := fun r hr n => by
        rw [← hf]
        exact List.mem_filter.mpr ⟨hr, by simpa using n⟩
      obtain ⟨left', hl'⟩ : ∃ l, l = left.filter (fun r => r.getD p 0 == 0) ++ tl.map (fun row => lin (head.getD p 0) (row.getD p 0) row head) := ⟨_, rfl⟩
      have e : ownStep (left, k) p = (left', k + 1) := by simp only [ownStep, hf, hl']
      rw [e]
      obtain ⟨hh1, hh2⟩ := sub head List.mem_cons_self
      have hd := (h head hh1)
      have new : ∀ r ∈ left', r.length = w ∧ ∀ i, i < p + 1 → r.getD i 0 = 0 := by
        intro r hr
        rw [hl'] at hr
        cases List.mem_append.mp hr with
        | inl m =>
          obtain ⟨a, b⟩ := List.mem_filter.mp m
          refine ⟨(h r a).1, fun i hi => ?_⟩
          by_cases z : i = p
          · rw [z]; simpa using b
          · exact (h r a).2 i (by omega)
        | inr m =>
          obtain ⟨row, hm, rfl⟩ := List.mem_map.mp m
          obtain ⟨a, b⟩ := sub row (List.mem_cons_of_mem _ hm)
          refine ⟨lin_len (h row a).1 hd.1, fun i hi => ?_⟩
          rw [lin_get _ _ _ _ (by rw [(h row a).1, hd.1])]
          by_cases z : i = p
          · rw [z, Int.mul_comm]; omega
          · rw [(h row a).2 i (by omega), hd.2 i (by omega)]; omega
      obtain ⟨E, h1, h2, h3, h4⟩ := own_aux n (p + 1) left' (k + 1) (by omega) new
      refine ⟨head :: E, .cons (p := p) hd.1 hh2 (fun e' he' => h3 e' he' p (by omega)) h1, ?_, ?_, fun x hx => ?_⟩
      · rw [h2, List.length_cons]; omega
      · intro e' he' i hi
        cases List.mem_cons.mp he' with
        | inl z => rw [z]; exact hd.2 i hi
        | inr m => exact h3 e' m i (by omega)
      · constructor
        · intro H e' he'
          cases List.mem_cons.mp he' with
          | inl z => rw [z]; exact H head hh1
          | inr m =>
            refine (h4 x hx).mp (fun r hr => ?_) e' m
            rw [hl'] at hr
            cases List.mem_append.mp hr with
            | inl m => exact H r (List.mem_filter.mp m).1
            | inr m =>
              obtain ⟨row, hm, rfl⟩ := List.mem_map.mp m
              obtain ⟨a, b⟩ := sub row (List.mem_cons_of_mem _ hm)
              rw [dot_comm, dot_lin _ _ _ _ _ (by rw [(h row a).1, hd.1]), dot_comm row, dot_comm head, H row a, H head hh1]
              omega
        · intro H r hr
          have k1 := H head List.mem_cons_self
          have k2 := (h4 x hx).mpr fun e' he' => H e' (List.mem_cons_of_mem _ he')
          by_cases z : r.getD p 0 = 0
          · exact k2 r (by rw [hl']; exact List.mem_append_left _ (List.mem_filter.mpr ⟨hr, by simpa using z⟩))
          · cases List.mem_cons.mp (sub2 r hr z) with
            | inl e => rw [e]; exact k1
            | inr m =>
              have := k2 _ (by rw [hl']; exact List.mem_append_right _ (List.mem_map.mpr ⟨r, m, rfl⟩))
              rw [dot_comm, dot_lin _ _ _ _ _ (by rw [(h r hr).1, hd.1]), dot_comm head, k1] at this
              rw [dot_comm]
              have t2 : head.getD p 0 * dot r x = 0 := by omega
              exact (Int.mul_eq_zero.mp t2).resolve_left hh2
theorem own_ech {w : Nat} {rows : List Vec} (h : ∀ r ∈ rows, r.length = w) : ∃ E, Ech w E ∧ (ownS rows w).2 = E.length ∧
    ∀ x : Vec, x.length = w → ((∀ r ∈ rows, dot x r = 0) ↔ ∀ e ∈ E, dot x e = 0) := by
  obtain ⟨E, h1, h2, _, h4⟩ := own_aux w 0 rows 0 (by omega) fun r hr => ⟨h r hr, fun i hi => absurd hi (Nat.not_lt_zero _)⟩
  refine ⟨E, h1, ?_, h4⟩
  unfold ownS
  rw [List.range_eq_range', h2, Nat.zero_add]
theorem ownS_succ (rows : List Vec) (p : Nat) : ownS rows (p + 1) = ownStep (ownS rows p) p := by
  unfold ownS
  rw [List.range_succ, List.foldl_append]
  rfl
theorem filt2 {α : Type} (f : α → Int) : ∀ l : List α, l.length = (l.filter (fun r => f r != 0)).length + (l.filter (fun r => f r == 0)).length
  | [] => rfl
  | a :: l => by
    have ih := filt2 f l
    by_cases h : f a = 0
    · simp [h]; omega
    · simp [h]; omega
/-- how great the numbers get -/
theorem own_bound {w : Nat} {rows : List Vec} (h : ∀ r ∈ rows, r.length = w ∧ ∀ b ∈ r, b.natAbs < 2 ^ 90) : ∀ p, (ownS rows p).1.length ≤ rows.length ∧
    ∀ r ∈ (ownS rows p).1, r.length = w ∧ ∀ b ∈ r, b.natAbs < 2 ^ (91 * 2 ^ p - 1)
  | 0 => ⟨Nat.le_refl _, fun r hr => h r hr⟩
  | p + 1 => by
    obtain ⟨h1, h2⟩ := own_bound h p
    rw [ownS_succ]
    generalize ownS rows p = s at h1 h2 ⊢
    have pp : 0 < 2 ^ p := Nat.pow_pos (by decide)
    have big : 91 * 2 ^ (p + 1) - 1 = (91 * 2 ^ p - 1) + (91 * 2 ^ p - 1) + 1 := by rw [Nat.pow_succ]; omega
    have mono : 2 ^ (91 * 2 ^ p - 1) ≤ 2 ^ (91 * 2 ^ (p + 1) - 1) := Nat.pow_le_pow_right (by decide) (by omega)
    cases hf : s.1.filter (fun r => r.getD p 0 != 0) with
    | nil =>
      simp only [ownStep, hf]
      exact ⟨h1, fun r hr => ⟨(h2 r hr).1, fun b hb => Nat.lt_of_lt_of_le ((h2 r hr).2 b hb) mono⟩⟩
    | cons head tl =>
      simp only [ownStep, hf]
      have sub : ∀ r, r ∈ head :: tl → r ∈ s.1 := fun r hr => by
        rw [← hf] at hr
        exact (List.mem_filter.mp hr).1
      constructor
      · have e : s.1.length = (s.1.filter (fun r => r.getD p 0 != 0)).length + (s.1.filter (fun r => r.getD p 0 == 0)).length := by
          exact filt2 (fun r : Vec => r.getD p 0) s.1
        rw [hf, List.length_cons] at e
        rw [List.length_append, List.length_map]
        omega
      · intro r hr
        cases List.mem_append.mp hr with
        | inl m =>
          have m' := (List.mem_filter.mp m).1
          exact ⟨(h2 r m').1, fun b hb => Nat.lt_of_lt_of_le ((h2 r m').2 b hb) mono⟩
        | inr m =>
          obtain ⟨row, hm, rfl⟩ := List.mem_map.mp m
          have a := h2 row (sub row (List.mem_cons_of_mem _ hm))
          have b := h2 head (sub head List.mem_cons_self)
          refine ⟨lin_len a.1 b.1, fun z hz => ?_⟩
          obtain ⟨i, hi, rfl⟩ := List.mem_iff_getElem.mp hz
          have e := lin_get (head.getD p 0) (row.getD p 0) row head (by rw [a.1, b.1]) i
          rw [List.getD_eq_getElem?_getD, List.getElem?_eq_getElem hi, Option.getD_some] at e
          rw [e, big]
          have q0 : (0 : Int).natAbs < 2 ^ (91 * 2 ^ p - 1) := Nat.pow_pos (by decide)
          have x1 := getD_mem (i := i) (P := fun v => v.natAbs < 2 ^ (91 * 2 ^ p - 1)) q0 a.2
          have x2 := getD_mem (i := p) (P := fun v => v.natAbs < 2 ^ (91 * 2 ^ p - 1)) q0 a.2
          have x3 := getD_mem (i := i) (P := fun v => v.natAbs < 2 ^ (91 * 2 ^ p - 1)) q0 b.2
          have x4 := getD_mem (i := p) (P := fun v => v.natAbs < 2 ^ (91 * 2 ^ p - 1)) q0 b.2
          have y1 := Nat.mul_lt_mul'' x1 x4
          have y2 := Nat.mul_lt_mul'' x3 x2
          rw [← Int.natAbs_mul] at y1 y2
          rw [Nat.pow_succ, Nat.pow_add]
          omega
/-! ### rows of a rank that is known -/
structure Ranked (w r : Nat) (M : List Vec) : Prop where
  ex : ∃ E, Ech w E ∧ E.length = r ∧ (∀ row ∈ M, ∃ g : Vec, g.length = r ∧ row = comb w g E) ∧ ∀ e ∈ E, e ∈ M
theorem Ranked.ker {w r : Nat} {M : List Vec} (h : Ranked w r M) : ∃ E, Ech w E ∧ E.length = r ∧ ∀ x : Vec, x.length = w → ((∀ r ∈ M, dot x r = 0) ↔ ∀ e ∈ E, dot x e = 0) := by
  obtain ⟨E, hE, hl, h1, h2⟩ := h.ex
  refine ⟨E, hE, hl, fun x hx => ⟨fun H e he => H e (h2 e he), fun H row hr => ?_⟩⟩
  obtain ⟨g, gl, rfl⟩ := h1 row hr
  rw [dot_comm, dot_comb w x g E hE.len]
  refine dot_noughts (n := 0) _ fun b hb => ?_
  obtain ⟨e, he, rfl⟩ := List.mem_map.mp hb
  rw [dot_comm]
  exact H e he
theorem Ranked.len {w r : Nat} {M : List Vec} (h : Ranked w r M) : ∀ row ∈ M, row.length = w := fun row hr => by
  obtain ⟨E, hE, _, h1, _⟩ := h.ex
  obtain ⟨g, _, rfl⟩ := h1 row hr
  exact comb_len w g E hE.len
theorem Ranked.rank {w r : Nat} {M : List Vec} (h : Ranked w r M) : (heldM w M).length + r = w := by
  obtain ⟨E, hE, hl, k⟩ := h.ker
  rw [← hl]
  exact rank_eq hE k
theorem comb_unit {w r i : Nat} {E : List Vec} (hE : ∀ e ∈ E, e.length = w) (hl : E.length = r) {e : Vec} (h : E[i]? = some e) : comb w (unit r i) E = e := by
  refine ext_get (by rw [comb_len w _ _ hE, hE e (List.mem_of_getElem? h)]) fun j => ?_
  rw [get_comb w j _ _ hE, dot_comm, dot_unit (by rw [List.length_map, hl])]
  rw [List.getD_eq_getElem?_getD, List.getElem?_map, h]
  rfl
theorem ech_ind {w : Nat} : ∀ {E : List Vec}, Ech w E → ∀ a : Vec, a.length = E.length → (∀ j, dot a (E.map fun h => h.getD j 0) = 0) → Zr a
  | _, .nil, a, h, _ => by
    have : a = [] := List.eq_nil_of_length_eq_zero (by simpa using h)
    intro i
    simp [this]
  | e :: es, .cons (p := p) len nz z r, a :: as, h, H => by
    have z0 : dot as (es.map fun h => h.getD p 0) = 0 := dot_noughts (n := 0) _ fun b hb => by
      obtain ⟨e', he', rfl⟩ := List.mem_map.mp hb
      exact z e' he'
    have a0 : a = 0 := by
      have := H p
      simp only [List.map_cons, dot, z0] at this
      have t : a * e.getD p 0 = 0 := by omega
      exact (Int.mul_eq_zero.mp t).resolve_right nz
    have ih := ech_ind r as (by simpa using h) fun j => by
      have := H j
      simp only [List.map_cons, dot, a0] at this
      omega
    intro i
    cases i with
    | zero => simpa using a0
    | succ i => simpa using ih i
  | e :: es, .cons _ _ _ _, [], h, _ => by simp at h
theorem choose_list {α : Type} {M : List Vec} {Q : α → Prop} {f : α → Vec} (h : ∀ row ∈ M, ∃ g, Q g ∧ row = f g) : ∃ Gs : List α, M = Gs.map f ∧ ∀ g ∈ Gs, Q g := by
  induction M with
  | nil => exact ⟨[], rfl, fun _ h => absurd h List.not_mem_nil⟩
  | cons a M ih =>
    obtain ⟨Gs, e, q⟩ := ih fun row hr => h row (List.mem_cons_of_mem _ hr)
    obtain ⟨g, qg, eg⟩ := h a List.mem_cons_self
    refine ⟨g :: Gs, by rw [List.map_cons, ← e, ← eg], fun g' hg' => ?_⟩
    cases List.mem_cons.mp hg' with
    | inl z => rw [z]; exact qg
    | inr m => exact q g' m
theorem Ranked.cols {w r : Nat} {M : List Vec} (h : Ranked w r M) : (heldM M.length ((List.range w).map fun j => M.map fun row => row.getD j 0)).length + r = M.length := by
  obtain ⟨E, hE, hl, h1, h2⟩ := h.ex
  obtain ⟨Gs, eM, hG⟩ := choose_list h1
  have lenM : M.length = Gs.length := by rw [eM, List.length_map]
  have hGl : ∀ g ∈ Gs, g.length = r := hG
  let F : Nat → Vec := fun i => Gs.map fun g => g.getD i 0
  -- each F i has a place of its own
  have own : ∀ i, i < r → ∃ k, ∀ i', i' < r → (F i').getD k 0 = if i' = i then 1 else 0 := by
    intro i hi
    have hEi := List.getElem?_eq_getElem (l := E) (i := i) (by omega)
    generalize E[i]'(by omega) = e at hEi
    have hm : e ∈ M := h2 e (List.mem_of_getElem? hEi)
    rw [eM] at hm
    obtain ⟨g, hg, eg⟩ := List.mem_map.mp hm
    obtain ⟨k, hk⟩ := List.mem_iff_getElem?.mp hg
    have gu : Zr (lin 1 1 g (unit r i)) := by
      refine ech_ind hE _ (by rw [lin_len (hGl g hg) (unit_len r i), hl]) fun j => ?_
      rw [dot_lin _ _ _ _ _ (by rw [hGl g hg, unit_len]), ← get_comb w j g E hE.len, ← get_comb w j (unit r i) E hE.len, comb_unit hE.len hl hEi, eg]
      omega
    refine ⟨k, fun i' hi' => ?_⟩
    have e1 : (F i').getD k 0 = g.getD i' 0 := by
      rw [List.getD_eq_getElem?_getD, List.getElem?_map, hk]
      rfl
    have e2 := gu i'
    rw [lin_get _ _ _ _ (by rw [hGl g hg, unit_len]), unit_get] at e2
    rw [e1]
    by_cases z : i' = i
    · rw [if_pos ⟨hi', z⟩] at e2; rw [if_pos z]; omega
    · rw [if_neg fun q => z q.2] at e2; rw [if_neg z]; omega
  have ech : ∀ n s, s + n = r → Ech M.length ((List.range' s n).map F) := by
    intro n
    induction n with
    | zero => intro s _; exact .nil
    | succ n ih =>
      intro s hs
      obtain ⟨k, hk⟩ := own s (by omega)
      rw [List.range'_succ, List.map_cons]
      refine .cons (p := k) (by rw [lenM]; simp [F]) (by rw [hk s (by omega), if_pos rfl]; decide) (fun e' he' => ?_) (ih (s + 1) (by omega))
      obtain ⟨i', hi', rfl⟩ := List.mem_map.mp he'
      rw [List.mem_range'_1] at hi'
      rw [hk i' (by omega), if_neg (by omega)]
  have fin := rank_eq (rows := (List.range w).map fun j => M.map fun row => row.getD j 0) (ech r 0 (by omega)) fun y hy => by
    have key : ∀ j, dot y (M.map fun row => row.getD j 0) = dot (comb r y Gs) (E.map fun h => h.getD j 0) := fun j => by
      rw [eM, List.map_map, dot_comb r _ y Gs hGl]
      congr 1
      refine List.map_congr_left fun g hg => ?_
      exact get_comb w j g E hE.len
    have fk : ∀ i, dot y (F i) = (comb r y Gs).getD i 0 := fun i => (get_comb r i y Gs hGl).symm
    constructor
    · intro H e he
      obtain ⟨i, hi, rfl⟩ := List.mem_map.mp he
      rw [fk i]
      refine ech_ind hE _ (by rw [comb_len r y Gs hGl, hl]) (fun j => ?_) i
      by_cases hj : j < w
      · rw [← key j]
        exact H _ (List.mem_map.mpr ⟨j, List.mem_range.mpr hj, rfl⟩)
      · refine dot_noughts (n := 0) _ fun b hb => ?_
        obtain ⟨e, he, rfl⟩ := List.mem_map.mp hb
        rw [List.getD_eq_getElem?_getD, List.getElem?_eq_none (by rw [hE.len e he]; omega)]
        rfl
    · intro H c hc
      obtain ⟨j, hj, rfl⟩ := List.mem_map.mp hc
      rw [key j]
      refine dot_zr (fun i => ?_) _
      by_cases hi : i < r
      · rw [← fk i]
        exact H _ (List.mem_map.mpr ⟨i, by rw [List.mem_range'_1]; omega, rfl⟩)
      · rw [List.getD_eq_getElem?_getD, List.getElem?_eq_none (by rw [comb_len r y Gs hGl]; omega)]
        rfl
  rw [List.length_map, List.length_range'] at fin
  exact fin
/-! ### points with a 1 behind -/
theorem dot_snoc : ∀ (x p : Vec) (t c : Int), x.length = p.length → dot (x ++ [t]) (p ++ [c]) = dot x p + t * c
  | [], [], t, c, _ => by simp [dot]
  | a :: as, b :: bs, t, c, h => by
    have ih := dot_snoc as bs t c (by simpa using h)
    simp only [List.cons_append, dot, ih]
    omega
def addV (a b : Vec) : Vec := List.zipWith (· + ·) a b
theorem dot_add : ∀ (a b x : Vec), a.length = b.length → dot x (addV a b) = dot x a + dot x b
  | [], [], x, _ => by simp [addV, dot_nil_r]
  | a :: as, b :: bs, [], _ => by simp [dot_nil_l]
  | a :: as, b :: bs, x :: xs, h => by
    have ih := dot_add as bs xs (by simpa using h)
    simp only [addV] at ih
    simp only [addV, List.zipWith_cons_cons, dot, ih]
    grind
theorem ech_snoc {w : Nat} : ∀ {E : List Vec}, Ech w E → Ech (w + 1) (E.map (· ++ [0]))
  | _, .nil => .nil
  | e :: es, .cons (p := p) len nz z r => by
    have hp : p < w := by
      refine Nat.lt_of_not_le fun h => nz ?_
      rw [List.getD_eq_getElem?_getD, List.getElem?_eq_none (by omega)]
      rfl
    have g : ∀ v : Vec, v.length = w → (v ++ [0]).getD p 0 = v.getD p 0 := fun v hv => by
      rw [List.getD_eq_getElem?_getD, List.getD_eq_getElem?_getD, List.getElem?_append_left (by omega)]
    rw [List.map_cons]
    refine .cons (p := p) (by simp [len]) (by rw [g e len]; exact nz) (fun e' he' => ?_) (ech_snoc r)
    obtain ⟨e0, h0, rfl⟩ := List.mem_map.mp he'
    rw [g e0 (r.len e0 h0)]
    exact z e0 h0
theorem span_eq {w : Nat} {pts D E : List Vec} {p0 : Vec} (hE : Ech w E) (h0 : p0.length = w) (hD : ∀ d ∈ D, d.length = w)
    (hk : ∀ x : Vec, x.length = w → ((∀ r ∈ D, dot x r = 0) ↔ ∀ e ∈ E, dot x e = 0))
    (m0 : p0 ∈ pts) (m1 : ∀ p ∈ pts, p = p0 ∨ ∃ d ∈ D, p = addV p0 d) (m2 : ∀ d ∈ D, addV p0 d ∈ pts) :
    (heldM (w + 1) (pts.map (· ++ [1]))).length + (E.length + 1) = w + 1 := by
  have ech : Ech (w + 1) ((p0 ++ [1]) :: E.map (· ++ [0])) := by
    refine .cons (p := w) (by simp [h0]) ?_ (fun e' he' => ?_) (ech_snoc hE)
    · rw [List.getD_eq_getElem?_getD, List.getElem?_append_right (by omega), h0]
      simp
    · obtain ⟨e0, h0, rfl⟩ := List.mem_map.mp he'
      rw [List.getD_eq_getElem?_getD, List.getElem?_append_right (by rw [hE.len e0 h0]; omega), hE.len e0 h0]
      simp
  have := rank_eq (rows := pts.map (· ++ [1])) ech fun x hx => by
    obtain ⟨x', t, rfl⟩ : ∃ x' t, x = x' ++ [t] := ⟨x.dropLast, x.getLast (fun z => by rw [z] at hx; simp at hx), (List.dropLast_concat_getLast _).symm⟩
    have hx' : x'.length = w := by simpa using hx
    have f : ∀ p : Vec, p.length = w → ∀ c, dot (x' ++ [t]) (p ++ [c]) = dot x' p + t * c := fun p hp c => dot_snoc x' p t c (by rw [hx', hp])
    have fa : ∀ d ∈ D, dot (x' ++ [t]) (addV p0 d ++ [1]) = dot (x' ++ [t]) (p0 ++ [1]) + dot x' d := fun d hd => by
      rw [f _ (by simp [addV, h0, hD d hd]), f _ h0, dot_add p0 d x' (by rw [h0, hD d hd])]
      omega
    constructor
    · intro H e he
      have k0 := H _ (List.mem_map.mpr ⟨p0, m0, rfl⟩)
      cases List.mem_cons.mp he with
      | inl z => rw [z]; exact k0
      | inr m =>
        obtain ⟨e0, he0, rfl⟩ := List.mem_map.mp m
        rw [f e0 (hE.len e0 he0), (hk x' hx').mp (fun d hd => ?_) e0 he0]
        · omega
        · have := H _ (List.mem_map.mpr ⟨_, m2 d hd, rfl⟩)
          rw [fa d hd, k0] at this
          omega
    · intro H p hp
      obtain ⟨q, hq, rfl⟩ := List.mem_map.mp hp
      have k0 := H _ List.mem_cons_self
      cases m1 q hq with
      | inl z => rw [z]; exact k0
      | inr m =>
        obtain ⟨d, hd, rfl⟩ := m
        rw [fa d hd, k0]
        have := (hk x' hx').mpr (fun e he => ?_) d hd
        · rw [this]; omega
        · have := H _ (List.mem_cons_of_mem _ (List.mem_map.mpr ⟨e, he, rfl⟩))
          rw [f e (hE.len e he)] at this
          omega
  rw [List.length_cons, List.length_map] at this
  exact this
end K3


set_option linter.all false
namespace K3
theorem ech_of {w : Nat} : ∀ (E : List Vec) (P : List Nat), E.length ≤ P.length → (∀ (t : Nat) (e : Vec) (p : Nat), E[t]? = some e → P[t]? = some p → e.length = w ∧ e.getD p 0 ≠ 0) →
    (∀ (s t : Nat) (e : Vec) (p : Nat), s < t → E[t]? = some e → P[s]? = some p → e.getD p 0 = 0) → Ech w E
  | [], _, _, _, _ => .nil
  | e :: es, [], h, _, _ => by simp at h
  | e :: es, p :: ps, h, h1, h2 => by
    obtain ⟨l, n⟩ := h1 0 e p rfl rfl
    refine .cons (p := p) l n (fun e' he' => ?_) (ech_of es ps (by simpa using h) (fun t e' p' a b => h1 (t + 1) e' p' a b) fun s t e' p' hs a b => h2 (s + 1) (t + 1) e' p' (by omega) a b)
    obtain ⟨t, ht⟩ := List.mem_iff_getElem?.mp he'
    exact h2 0 (t + 1) e' p (by omega) ht rfl
theorem dot_snoc' : ∀ (x p : Vec) (t c : Int), x.length = p.length → dot (x ++ [t]) (p ++ [c]) = dot x p + t * c := dot_snoc
theorem comb_snoc {w : Nat} {g : Vec} {E : List Vec} {e : Vec} {by_ : Int} (hE : ∀ v ∈ E, v.length = w) (he : e.length = w) (hl : g.length = E.length) :
    List.zipWith (fun mine its => mine + by_ * its) (comb w g E) e = comb w (g ++ [by_]) (E ++ [e]) := by
  have hE' : ∀ v ∈ E ++ [e], v.length = w := fun v hv => by
    rcases List.mem_append.mp hv with m | m
    · exact hE v m
    · rw [List.mem_singleton.mp m]; exact he
  have l1 := comb_len w g E hE
  refine ext_get (by rw [comb_len w _ _ hE', List.length_zipWith, l1, he]; omega) fun i => ?_
  rw [get_comb w i _ _ hE', List.map_append, List.map_singleton, dot_snoc g _ by_ _ (by rw [List.length_map, hl]), ← get_comb w i g E hE]
  by_cases hi : i < w
  · have h1 : i < (comb w g E).length := by omega
    have h2 : i < e.length := by omega
    simp only [List.getD_eq_getElem?_getD, List.getElem?_zipWith, List.getElem?_eq_getElem h1, List.getElem?_eq_getElem h2, Option.getD_some]
  · have h1 : (comb w g E).length ≤ i := by omega
    have h2 : e.length ≤ i := by omega
    simp only [List.getD_eq_getElem?_getD, List.getElem?_zipWith, List.getElem?_eq_none h1, List.getElem?_eq_none h2, Option.getD_none]
    simp
theorem comb_nil (w : Nat) : comb w [] [] = List.replicate w 0 := rfl
theorem zip_bound {w B C D : Nat} {x e : Vec} {b : Int} (hb : b.natAbs ≤ 2) (hx : ∀ v ∈ x, v.natAbs ≤ B) (he : ∀ v ∈ e, v.natAbs ≤ C) (hD : B + 2 * C ≤ D) : ∀ v ∈ List.zipWith (fun mine its => mine + b * its) x e, v.natAbs ≤ D := by
  intro v hv
  obtain ⟨i, hi, rfl⟩ := List.mem_iff_getElem.mp hv
  rw [List.length_zipWith] at hi
  rw [List.getElem_zipWith]
  have a1 := hx _ (List.getElem_mem (by omega : i < x.length))
  have a2 := he _ (List.getElem_mem (by omega : i < e.length))
  have a3 : (b * e[i]).natAbs ≤ 2 * C := by rw [Int.natAbs_mul]; exact Nat.mul_le_mul hb a2
  have a4 := Int.natAbs_add_le x[i] (b * e[i])
  omega
theorem set_get {x : Vec} {p i : Nat} {v : Int} : (x.set p v).getD i 0 = if i = p ∧ p < x.length then v else x.getD i 0 := by
  simp only [List.getD_eq_getElem?_getD, List.getElem?_set]
  by_cases h : p = i
  · subst h
    by_cases h2 : p < x.length
    · simp [h2]
    · simp [h2]
  · have : ¬ (i = p ∧ p < x.length) := fun z => h z.1.symm
    rw [if_neg h, if_neg this]
theorem set_bound {x : Vec} {p : Nat} {v : Int} {B : Nat} (hv : v.natAbs ≤ B) (hx : ∀ b ∈ x, b.natAbs ≤ B) : ∀ b ∈ x.set p v, b.natAbs ≤ B := fun b hb => by
  rcases List.mem_or_eq_of_mem_set hb with m | e
  · exact hx b m
  · rw [e]; exact hv
def zeroAt (x : Vec) (ps : List Nat) : Vec := ps.foldl (fun x p => x.set p 0) x
theorem zeroAt_len : ∀ (ps : List Nat) (x : Vec), (zeroAt x ps).length = x.length
  | [], x => rfl
  | p :: ps, x => by
    show (zeroAt (x.set p 0) ps).length = _
    rw [zeroAt_len ps, List.length_set]
theorem zeroAt_snoc (x : Vec) (ps : List Nat) (p : Nat) : zeroAt x (ps ++ [p]) = (zeroAt x ps).set p 0 := by
  unfold zeroAt
  rw [List.foldl_append]
  rfl
theorem zeroAt_bound {B : Nat} : ∀ (ps : List Nat) (x : Vec), (∀ b ∈ x, b.natAbs ≤ B) → ∀ b ∈ zeroAt x ps, b.natAbs ≤ B
  | [], x, h => h
  | p :: ps, x, h => zeroAt_bound ps (x.set p 0) (set_bound (Nat.zero_le _) h)
theorem zeroAt_keep : ∀ (ps : List Nat) (x : Vec) (i : Nat), x.getD i 0 = 0 → (zeroAt x ps).getD i 0 = 0
  | [], x, i, h => h
  | p :: ps, x, i, h => zeroAt_keep ps (x.set p 0) i (by
    rw [set_get]
    split
    · rfl
    · exact h)
theorem zeroAt_get : ∀ (ps : List Nat) (x : Vec) (i : Nat), i ∈ ps → (zeroAt x ps).getD i 0 = 0
  | p :: ps, x, i, h => by
    cases List.mem_cons.mp h with
    | inl e =>
      subst e
      refine zeroAt_keep ps _ i ?_
      rw [set_get]
      split
      · rfl
      · rename_i n
        have : ¬ i < x.length := fun z => n ⟨rfl, z⟩
        rw [List.getD_eq_getElem?_getD, List.getElem?_eq_none (by omega)]
        rfl
    | inr m => exact zeroAt_get ps _ i m
end K3


set_option Elab.async false
set_option linter.all false
namespace K3
/-! ### determinants, by the first column -/
def sgn : Nat → Int
  | 0 => 1
  | n + 1 => - sgn n
theorem sgn_ne : ∀ n, sgn n ≠ 0
  | 0 => by decide
  | n + 1 => by have := sgn_ne n; simp only [sgn]; omega
theorem sgn_eq : ∀ n : Nat, sgn n = 1 - 2 * ((n : Int) % 2)
  | 0 => rfl
  | n + 1 => by
    have := sgn_eq n
    simp only [sgn]
    omega
theorem sgn_sq (n : Nat) : sgn n * sgn n = 1 := by
  rw [sgn_eq]
  have h : (n : Int) % 2 = 0 ∨ (n : Int) % 2 = 1 := by omega
  rcases h with h | h <;> rw [h] <;> decide
def ex (f : List Vec → Int) : List Vec → List Vec → Int
  | _, [] => 0
  | pre, r :: post => sgn pre.length * r.getD 0 0 * f (pre ++ post) + ex f (pre ++ [r]) post
def D : Nat → List Vec → Int
  | 0, _ => 1
  | k + 1, rows => ex (fun l => D k (l.map List.tail)) [] rows
theorem ex_congr {f g : List Vec → Int} : ∀ (post pre : List Vec), (∀ l, l.length + 1 = pre.length + post.length → f l = g l) → ex f pre post = ex g pre post
  | [], _, _ => rfl
  | r :: post, pre, h => by
    simp only [ex]
    rw [h (pre ++ post) (by simp; omega), ex_congr post (pre ++ [r]) fun l hl => h l (by simp at hl ⊢; omega)]
theorem ex_pre {f : List Vec → Int} : ∀ (post pre : List Vec) (s : Vec), ex f (s :: pre) post = - ex (fun l => f (s :: l)) pre post
  | [], _, _ => rfl
  | r :: post, pre, s => by
    simp only [ex, List.length_cons, sgn, List.cons_append]
    have e := ex_pre (f := f) post (pre ++ [r]) s
    rw [e]
    generalize ex (fun l => f (s :: l)) (pre ++ [r]) post = z
    generalize f (s :: (pre ++ post)) = y
    rw [Int.neg_mul, Int.neg_mul, Int.neg_add]
def SwN (k : Nat) (f : List Vec → Int) : Prop := ∀ p x y q, (p ++ x :: y :: q).length = k → f (p ++ x :: y :: q) = - f (p ++ y :: x :: q)
theorem ex_swA {f : List Vec → Int} {k : Nat} (h : SwN k f) : ∀ (post p : List Vec) (x y : Vec) (q : List Vec), (p ++ x :: y :: q).length + post.length = k + 1 → ex f (p ++ x :: y :: q) post = - ex f (p ++ y :: x :: q) post
  | [], _, _, _, _, _ => rfl
  | r :: post, p, x, y, q, hl => by
    have hl' : p.length + (q.length + 2) + (post.length + 1) = k + 1 := by simpa using hl
    simp only [ex]
    have e1 : (p ++ x :: y :: q).length = (p ++ y :: x :: q).length := by simp
    have e2 : (p ++ x :: y :: q) ++ post = p ++ x :: y :: (q ++ post) := by simp
    have e3 : (p ++ y :: x :: q) ++ post = p ++ y :: x :: (q ++ post) := by simp
    have e4 : (p ++ x :: y :: q) ++ [r] = p ++ x :: y :: (q ++ [r]) := by simp
    have e5 : (p ++ y :: x :: q) ++ [r] = p ++ y :: x :: (q ++ [r]) := by simp
    rw [e1, e2, e3, e4, e5, h p x y (q ++ post) (by simp; omega), ex_swA h post p x y (q ++ [r]) (by simp; omega), Int.mul_neg, Int.neg_add]
theorem ex_swB {f : List Vec → Int} {k : Nat} (h : SwN k f) : ∀ (p pre : List Vec) (x y : Vec) (post : List Vec), pre.length + (p ++ x :: y :: post).length = k + 1 → ex f pre (p ++ x :: y :: post) = - ex f pre (p ++ y :: x :: post)
  | [], pre, x, y, post, hl => by
    have hl' : pre.length + (post.length + 2) = k + 1 := by simpa using hl
    simp only [ex, List.nil_append]
    have e1 : (pre ++ [x]).length = pre.length + 1 := by simp
    have e2 : (pre ++ [y]).length = pre.length + 1 := by simp
    have e3 : pre ++ [x] ++ post = pre ++ x :: post := by simp
    have e4 : pre ++ [y] ++ post = pre ++ y :: post := by simp
    have e5 : pre ++ [x] ++ [y] = pre ++ x :: y :: [] := by simp
    have e6 : pre ++ [y] ++ [x] = pre ++ y :: x :: [] := by simp
    rw [e1, e2, e3, e4, e5, e6, ex_swA h post pre x y [] (by simp; omega)]
    simp only [sgn]
    generalize ex f (pre ++ [y, x]) post = z
    generalize f (pre ++ y :: post) = a
    generalize f (pre ++ x :: post) = b
    generalize sgn pre.length = s
    rw [Int.neg_mul, Int.neg_mul, Int.neg_mul, Int.neg_mul]
    omega
  | r :: p, pre, x, y, post, hl => by
    have hl' : pre.length + (p.length + (post.length + 2) + 1) = k + 1 := by simpa using hl
    simp only [ex, List.cons_append]
    have e1 : pre ++ (p ++ x :: y :: post) = (pre ++ p) ++ x :: y :: post := by simp
    have e2 : pre ++ (p ++ y :: x :: post) = (pre ++ p) ++ y :: x :: post := by simp
    rw [e1, e2, h (pre ++ p) x y post (by simp; omega), ex_swB h p (pre ++ [r]) x y post (by simp; omega), Int.mul_neg, Int.neg_add]
theorem D_sw : ∀ k, SwN k (D k)
  | 0, p, x, y, q, hl => by simp at hl
  | k + 1, p, x, y, q, hl => by
    simp only [D]
    refine ex_swB (k := k) (fun p x y q h => ?_) p [] x y q (by simpa using hl)
    simp only [List.map_append, List.map_cons]
    exact D_sw k _ _ _ _ (by simpa using h)
theorem mv {f : List Vec → Int} {k : Nat} (h : SwN k f) : ∀ (pre p : List Vec) (x : Vec) (post : List Vec), (p ++ (pre ++ x :: post)).length = k → f (p ++ (pre ++ x :: post)) = sgn pre.length * f (p ++ x :: (pre ++ post))
  | [], p, x, post, _ => by simp [sgn]
  | y :: pre, p, x, post, hl => by
    have hl' : p.length + (pre.length + (post.length + 1) + 1) = k := by simpa using hl
    have e1 : p ++ (y :: pre ++ x :: post) = (p ++ [y]) ++ (pre ++ x :: post) := by simp
    have e2 : (p ++ [y]) ++ x :: (pre ++ post) = p ++ y :: x :: (pre ++ post) := by simp
    rw [e1, mv h pre (p ++ [y]) x post (by simp; omega), e2, h p y x (pre ++ post) (by simp; omega)]
    simp only [List.length_cons, sgn, List.cons_append]
    rw [Int.mul_neg, Int.neg_mul]
theorem same0 {f : List Vec → Int} {k : Nat} (h : SwN k f) : ∀ (a p : List Vec) (s : Vec) (b : List Vec), (p ++ s :: (a ++ s :: b)).length = k → f (p ++ s :: (a ++ s :: b)) = 0
  | [], p, s, b, hl => by
    have := h p s s b hl
    simp only [List.nil_append]
    omega
  | x :: a, p, s, b, hl => by
    have hl' : p.length + (a.length + (b.length + 1) + 1 + 1) = k := by simpa using hl
    have e := same0 h a (p ++ [x]) s b (by simp; omega)
    simp only [List.append_assoc, List.cons_append, List.nil_append] at e
    have e2 := h p s x (a ++ s :: b) (by simpa using hl)
    simp only [List.cons_append]
    rw [e2, e]
    rfl
def rsum (g : Nat → Int) : Nat → Vec → Int
  | _, [] => 0
  | i, x :: s => sgn i * x * g i + rsum g (i + 1) s
theorem ex_lin {f g : List Vec → Int} {c : Int} : ∀ (post pre : List Vec), ex (fun l => c * f l + g l) pre post = c * ex f pre post + ex g pre post
  | [], _ => by simp [ex]
  | r :: post, pre => by
    simp only [ex]
    rw [ex_lin post (pre ++ [r]), Int.mul_add, Int.mul_add]
    have e : sgn pre.length * r.getD 0 0 * (c * f (pre ++ post)) = c * (sgn pre.length * r.getD 0 0 * f (pre ++ post)) := by
      rw [← Int.mul_assoc, Int.mul_comm _ c, Int.mul_assoc]
    rw [e]
    omega
theorem ex_zero : ∀ (post pre : List Vec), ex (fun _ => 0) pre post = 0
  | [], _ => rfl
  | r :: post, pre => by simp only [ex]; rw [ex_zero post]; omega
theorem ex_rsum {F : Nat → List Vec → Int} {post pre : List Vec} : ∀ (s : Vec) (i : Nat), ex (fun l => rsum (fun i => F i l) i s) pre post = rsum (fun i => ex (F i) pre post) i s
  | [], i => by simp only [rsum]; exact ex_zero post pre
  | x :: s, i => by
    simp only [rsum]
    rw [ex_lin, ex_rsum s (i + 1)]
theorem rsum_congr {g h : Nat → Int} : ∀ (s : Vec) (i : Nat), (∀ i, g i = h i) → rsum g i s = rsum h i s
  | [], _, _ => rfl
  | x :: s, i, e => by simp only [rsum]; rw [e i, rsum_congr s (i + 1) e]
theorem rsum_shift {g : Nat → Int} : ∀ (s : Vec) (i : Nat), rsum g (i + 1) s = - rsum (fun i => g (i + 1)) i s
  | [], _ => rfl
  | x :: s, i => by
    simp only [rsum, sgn]
    rw [rsum_shift s (i + 1), Int.neg_mul, Int.neg_mul, Int.neg_add]
theorem ex_map {f : List Vec → Int} {h : Vec → Vec} (hh : ∀ r, (h r).getD 0 0 = r.getD 0 0) : ∀ (post pre : List Vec), ex f (pre.map h) (post.map h) = ex (fun l => f (l.map h)) pre post
  | [], _ => rfl
  | r :: post, pre => by
    simp only [ex, List.map_cons, List.length_map, hh]
    have e := ex_map hh (f := f) post (pre ++ [r])
    simp only [List.map_append, List.map_cons, List.map_nil] at e
    rw [e, List.map_append]
theorem era_head (i : Nat) (r : Vec) : (r.eraseIdx (i + 1)).getD 0 0 = r.getD 0 0 := by cases r <;> rfl
theorem era_tail (i : Nat) (r : Vec) : (r.eraseIdx (i + 1)).tail = r.tail.eraseIdx i := by cases r <;> rfl
/-- by the first row -/
theorem D_row : ∀ (k : Nat) (s : Vec) (S : List Vec), s.length = k + 1 → S.length = k → D (k + 1) (s :: S) = rsum (fun i => D k (S.map (·.eraseIdx i))) 0 s
  | 0, s, S, hs, hS => by
    match s, S, hs, hS with
    | [a], [], _, _ => simp [D, ex, rsum, sgn]
  | k + 1, s, S, hs, hS => by
    match s, hs with
    | a :: t, hs =>
      have ht : t.length = k + 1 := by simpa using hs
      have e1 : D (k + 2) ((a :: t) :: S) = sgn 0 * a * D (k + 1) (S.map List.tail) + ex (fun l => D (k + 1) (l.map List.tail)) [a :: t] S := rfl
      have e2 : ex (fun l => D (k + 1) (l.map List.tail)) [a :: t] S = - rsum (fun i => ex (fun l => D k ((l.map List.tail).map (·.eraseIdx i))) [] S) 0 t := by
        rw [ex_pre, ← ex_rsum]
        congr 1
        refine ex_congr S [] fun l hl => ?_
        simp only [List.map_cons, List.tail_cons]
        exact D_row k t (l.map List.tail) ht (by rw [List.length_map]; simp at hl; omega)
      rw [e1, e2]
      simp only [rsum]
      rw [rsum_shift]
      have e3 : S.map (·.eraseIdx 0) = S.map List.tail := List.map_congr_left fun v _ => by cases v <;> rfl
      rw [e3]
      congr 2
      refine rsum_congr t 0 fun i => ?_
      have e4 := ex_map (f := fun l => D k (l.map List.tail)) (h := fun v => v.eraseIdx (i + 1)) (era_head i) S []
      show _ = ex (fun l => D k (l.map List.tail)) [] (S.map fun v => v.eraseIdx (i + 1))
      simp only [List.map_nil] at e4
      rw [e4]
      refine ex_congr S [] fun l _ => ?_
      congr 1
      rw [List.map_map, List.map_map]
      exact List.map_congr_left fun v _ => (era_tail i v).symm
theorem rsum_lin {g : Nat → Int} {a b : Int} : ∀ (u v : Vec) (i : Nat), u.length = v.length → rsum g i (lin a b u v) = a * rsum g i u - b * rsum g i v
  | [], [], _, _ => by simp [lin, rsum]
  | [], _ :: _, _, h => by cases h
  | _ :: _, [], _, h => by cases h
  | x :: u, y :: v, i, h => by
    have e := rsum_lin (g := g) (a := a) (b := b) u v (i + 1) (by simpa using h)
    unfold lin at e ⊢
    simp only [List.zipWith_cons_cons, rsum]
    rw [e, Int.mul_add, Int.mul_add]
    have e2 : sgn i * (x * a - y * b) * g i = a * (sgn i * x * g i) - b * (sgn i * y * g i) := by
      rw [Int.mul_sub, Int.sub_mul]
      congr 1
      · rw [Int.mul_comm x a, ← Int.mul_assoc, Int.mul_comm (sgn i) a, Int.mul_assoc a, Int.mul_assoc a]
      · rw [Int.mul_comm y b, ← Int.mul_assoc, Int.mul_comm (sgn i) b, Int.mul_assoc b, Int.mul_assoc b]
    rw [e2]
    omega
theorem D_lin {k : Nat} {a b : Int} {u v : Vec} {pre post : List Vec} (hu : u.length = k + 1) (hv : v.length = k + 1) (hl : pre.length + post.length = k) :
    D (k + 1) (pre ++ lin a b u v :: post) = a * D (k + 1) (pre ++ u :: post) - b * D (k + 1) (pre ++ v :: post) := by
  have m := fun x => mv (D_sw (k + 1)) pre [] x post (by simp; omega)
  simp only [List.nil_append] at m
  rw [m, m, m, D_row k _ _ (lin_len hu hv) (by simp; omega), D_row k _ _ hu (by simp; omega), D_row k _ _ hv (by simp; omega), rsum_lin _ _ _ (by rw [hu, hv])]
  generalize rsum _ 0 u = y
  generalize rsum _ 0 v = z
  rw [Int.mul_sub, ← Int.mul_assoc, ← Int.mul_assoc, ← Int.mul_assoc, ← Int.mul_assoc, Int.mul_comm a, Int.mul_comm b]
theorem D_ops {k : Nat} {r : Vec} (hr : r.length = k + 1) : ∀ (q pre : List Vec), (∀ x ∈ q, x.length = k + 1) → pre.length + q.length = k →
    D (k + 1) (r :: (pre ++ q.map fun x => lin (r.getD 0 0) (x.getD 0 0) x r)) = r.getD 0 0 ^ q.length * D (k + 1) (r :: (pre ++ q))
  | [], pre, _, _ => by simp
  | x :: q, pre, hq, hl => by
    have hl' : pre.length + (q.length + 1) = k := by simpa using hl
    have hx := hq x List.mem_cons_self
    have e := D_lin (a := r.getD 0 0) (b := x.getD 0 0) (u := x) (v := r) (pre := r :: pre) (post := q.map fun x => lin (r.getD 0 0) (x.getD 0 0) x r) hx hr (by simp; omega)
    have z := same0 (D_sw (k + 1)) pre [] r (q.map fun x => lin (r.getD 0 0) (x.getD 0 0) x r) (by simp; omega)
    have ih := D_ops hr q (pre ++ [x]) (fun y hy => hq y (List.mem_cons_of_mem _ hy)) (by simp; omega)
    simp only [List.nil_append, List.cons_append, List.append_assoc] at e z ih
    simp only [List.map_cons]
    rw [e, z, ih]
    simp only [List.length_cons, Int.pow_succ]
    rw [Int.mul_zero, Int.sub_zero, Int.mul_comm (r.getD 0 0 ^ q.length) (r.getD 0 0), Int.mul_assoc]
theorem ex_heads {f : List Vec → Int} : ∀ (post pre : List Vec), (∀ r ∈ post, r.getD 0 0 = 0) → ex f pre post = 0
  | [], _, _ => rfl
  | r :: post, pre, h => by
    simp only [ex]
    rw [h r List.mem_cons_self, ex_heads post _ fun r hr => h r (List.mem_cons_of_mem _ hr)]
    simp
end K3


set_option Elab.async false
set_option linter.all false
namespace K3
theorem dot_tail {x r : Vec} (hx : x ≠ []) (hr : r ≠ []) : dot x r = x.getD 0 0 * r.getD 0 0 + dot x.tail r.tail := by
  match x, r, hx, hr with
  | a :: x, b :: r, _, _ => rfl
theorem lin_tail (p q : Int) : ∀ (a b : Vec), (lin p q a b).tail = lin p q a.tail b.tail
  | [], b => by cases b <;> rfl
  | _ :: _, [] => by simp [lin]
  | _ :: _, _ :: _ => rfl
theorem dot_scale (c : Int) : ∀ (y r : Vec), dot (y.map (c * ·)) r = c * dot y r
  | [], r => by simp [dot_nil_l]
  | a :: y, [] => by simp [dot_nil_r]
  | a :: y, b :: r => by
    simp only [List.map_cons, dot, dot_scale c y r, Int.mul_add, Int.mul_assoc]
theorem map_getD0 (y : Vec) (f : Int → Int) (h : f 0 = 0) (i : Nat) : (y.map f).getD i 0 = f (y.getD i 0) := by
  rw [List.getD_eq_getElem?_getD, List.getElem?_map, List.getD_eq_getElem?_getD]
  cases y[i]? with
  | none => exact h.symm
  | some a => rfl
theorem zr_of_tail {x : Vec} (h0 : x.getD 0 0 = 0) (h : Zr x.tail) : Zr x := fun i => by
  cases x with
  | nil => simp
  | cons a x =>
    cases i with
    | zero => exact h0
    | succ i => exact h i
theorem det_ker : ∀ (k : Nat) (A : List Vec), A.length = k → (∀ r ∈ A, r.length = k) → (D k A = 0 ↔ ∃ x : Vec, x.length = k ∧ ¬ Zr x ∧ ∀ r ∈ A, dot x r = 0)
  | 0, A, hA, _ => by
    refine ⟨fun h => absurd h (by simp [D]), fun ⟨x, hx, nz, _⟩ => absurd (fun i => ?_) nz⟩
    rw [List.eq_nil_of_length_eq_zero hx]
    simp
  | k + 1, A, hA, hr => by
    by_cases hz : ∀ r ∈ A, r.getD 0 0 = 0
    · refine ⟨fun _ => ⟨unit (k + 1) 0, unit_len _ _, fun z => ?_, fun r h => ?_⟩, fun _ => ?_⟩
      · have := z 0
        rw [unit_get, if_pos ⟨Nat.succ_pos k, rfl⟩] at this
        cases this
      · rw [dot_comm, dot_unit (hr r h), hz r h]
      · simp only [D]
        exact ex_heads A [] hz
    · obtain ⟨r, hm, h0⟩ : ∃ r ∈ A, r.getD 0 0 ≠ 0 := by
        refine Classical.byContradiction fun n => hz fun r hm => Classical.byContradiction fun h => n ⟨r, hm, h⟩
      obtain ⟨a, b, rfl⟩ := List.append_of_mem hm
      have hab : (a ++ b).length = k := by simp at hA ⊢; omega
      have hq : ∀ x ∈ a ++ b, x.length = k + 1 := fun x hx => hr x (by
        rcases List.mem_append.mp hx with h | h
        · exact List.mem_append_left _ h
        · exact List.mem_append_right _ (List.mem_cons_of_mem _ h))
      have hrl := hr r hm
      have m := mv (D_sw (k + 1)) a [] r b (by simpa using hA)
      simp only [List.nil_append] at m
      have o := D_ops hrl (a ++ b) [] hq (by simpa using hab)
      simp only [List.nil_append] at o
      have t : D (k + 1) (r :: (a ++ b).map fun x => lin (r.getD 0 0) (x.getD 0 0) x r) = r.getD 0 0 * D k (((a ++ b).map fun x => lin (r.getD 0 0) (x.getD 0 0) x r).map List.tail) := by
        simp only [D, ex, List.nil_append, List.length_nil, sgn]
        rw [ex_heads]
        · rw [Int.one_mul, Int.add_zero]
        · intro y hy
          obtain ⟨x, hx, rfl⟩ := List.mem_map.mp hy
          rw [lin_get _ _ _ _ (by rw [hq x hx, hrl]), Int.mul_comm, Int.sub_self]
      have ih := det_ker k (((a ++ b).map fun x => lin (r.getD 0 0) (x.getD 0 0) x r).map List.tail) (by rw [List.length_map, List.length_map, hab]) (fun y hy => by
        rw [List.map_map] at hy
        obtain ⟨x, hx, rfl⟩ := List.mem_map.mp hy
        show (lin _ _ x r).tail.length = k
        rw [List.length_tail, lin_len (hq x hx) hrl]
        rfl)
      have key : D (k + 1) (a ++ r :: b) = 0 ↔ D k (((a ++ b).map fun x => lin (r.getD 0 0) (x.getD 0 0) x r).map List.tail) = 0 := by
        rw [t] at o
        rw [m]
        have p0 : r.getD 0 0 ^ (a ++ b).length ≠ 0 := by
          generalize (a ++ b).length = n
          induction n with
          | zero => simp
          | succ n ih => rw [Int.pow_succ]; exact Int.mul_ne_zero ih h0
        constructor
        · intro h
          have : D (k + 1) (r :: (a ++ b)) = 0 := (Int.mul_eq_zero.mp h).resolve_left (sgn_ne _)
          rw [this, Int.mul_zero] at o
          exact (Int.mul_eq_zero.mp o).resolve_left h0
        · intro h
          rw [h, Int.mul_zero] at o
          rw [(Int.mul_eq_zero.mp o.symm).resolve_left p0, Int.mul_zero]
      rw [key, ih]
      have rne : r ≠ [] := fun e => by rw [e] at hrl; cases hrl
      constructor
      · rintro ⟨y, hy, nz, hk⟩
        refine ⟨(- dot y r.tail) :: y.map (r.getD 0 0 * ·), by simp [hy], fun z => nz fun i => ?_, fun x hx => ?_⟩
        · have := z (i + 1)
          have e : (y.map (r.getD 0 0 * ·)).getD i 0 = r.getD 0 0 * y.getD i 0 := by
            exact map_getD0 _ (fun x => r.getD 0 0 * x) (Int.mul_zero _) i
          have e2 : r.getD 0 0 * y.getD i 0 = 0 := by rw [← e]; exact this
          exact (Int.mul_eq_zero.mp e2).resolve_left h0
        · have xl : x.length = k + 1 := hr x hx
          have xne : x ≠ [] := fun e => by rw [e] at xl; cases xl
          rw [dot_tail (by simp) xne]
          show - dot y r.tail * x.getD 0 0 + dot (y.map (r.getD 0 0 * ·)) x.tail = 0
          rw [dot_scale]
          by_cases e : x ∈ a ++ b
          · have h := hk (lin (r.getD 0 0) (x.getD 0 0) x r).tail (List.mem_map.mpr ⟨_, List.mem_map.mpr ⟨x, e, rfl⟩, rfl⟩)
            rw [lin_tail, dot_comm, dot_lin _ _ _ _ _ (by rw [List.length_tail, List.length_tail, xl, hrl]), dot_comm, dot_comm r.tail] at h
            rw [Int.neg_mul, Int.mul_comm (dot y r.tail)]
            omega
          · have er : x = r := by
              rcases List.mem_append.mp hx with z | z
              · exact absurd (List.mem_append_left _ z) e
              · rcases List.mem_cons.mp z with z | z
                · exact z
                · exact absurd (List.mem_append_right _ z) e
            rw [er, Int.neg_mul, Int.mul_comm (dot y r.tail)]
            omega
      · rintro ⟨x, hx, nz, hk⟩
        have xne : x ≠ [] := fun e => by rw [e] at hx; cases hx
        have kr := hk r hm
        rw [dot_tail xne rne] at kr
        refine ⟨x.tail, by rw [List.length_tail, hx]; rfl, fun z => nz (zr_of_tail ?_ z), fun y hy => ?_⟩
        · rw [dot_zr z, Int.add_zero] at kr
          exact (Int.mul_eq_zero.mp kr).resolve_right h0
        · rw [List.map_map] at hy
          obtain ⟨q, hq2, rfl⟩ := List.mem_map.mp hy
          have ql := hq q hq2
          have qne : q ≠ [] := fun e => by rw [e] at ql; cases ql
          have kq := hk q (by
            rcases List.mem_append.mp hq2 with h | h
            · exact List.mem_append_left _ h
            · exact List.mem_append_right _ (List.mem_cons_of_mem _ h))
          rw [dot_tail xne qne] at kq
          show dot x.tail (lin (r.getD 0 0) (q.getD 0 0) q r).tail = 0
          rw [lin_tail, dot_comm, dot_lin _ _ _ _ _ (by rw [List.length_tail, List.length_tail, ql, hrl]), dot_comm, dot_comm r.tail]
          have e1 : dot x.tail q.tail = - (x.getD 0 0 * q.getD 0 0) := by omega
          have e2 : dot x.tail r.tail = - (x.getD 0 0 * r.getD 0 0) := by omega
          rw [e1, e2, Int.mul_neg, Int.mul_neg, Int.mul_comm (x.getD 0 0) (q.getD 0 0), Int.mul_comm (x.getD 0 0) (r.getD 0 0), ← Int.mul_assoc, ← Int.mul_assoc, Int.mul_comm (r.getD 0 0) (q.getD 0 0)]
          omega
/-! ### the row of cofactors -/
def cof (S : List Vec) (n : Nat) : Vec := (List.range n).map fun i => sgn i * D (n - 1) (S.map (·.eraseIdx i))
theorem rsum_range (g : Nat → Int) : ∀ (s : Vec) (i : Nat), rsum g i s = dot ((List.range' i s.length).map fun j => sgn j * g j) s
  | [], i => rfl
  | x :: s, i => by
    simp only [rsum, List.length_cons, List.range'_succ, List.map_cons, dot, rsum_range g s (i + 1)]
    rw [Int.mul_assoc, Int.mul_comm x, ← Int.mul_assoc]
theorem cof_dot {S : List Vec} {n : Nat} {s : Vec} (hS : S.length + 1 = n) (hs : s.length = n) : dot (cof S n) s = D n (s :: S) := by
  subst hS
  rw [D_row S.length s S hs rfl, rsum_range, hs]
  unfold cof
  rw [List.range_eq_range']
  rfl
theorem cof_orth {S : List Vec} {n : Nat} {s : Vec} (hS : S.length + 1 = n) (hs : s.length = n) (hm : s ∈ S) : dot (cof S n) s = 0 := by
  rw [cof_dot hS hs]
  obtain ⟨a, b, rfl⟩ := List.append_of_mem hm
  have := same0 (D_sw n) a [] s b (by simp at hS ⊢; omega)
  simpa using this
def ins : Nat → Vec → Vec
  | 0, v => 0 :: v
  | _ + 1, [] => [0]
  | i + 1, a :: v => a :: ins i v
theorem ins_len : ∀ (i : Nat) (v : Vec), (ins i v).length = v.length + 1
  | 0, _ => rfl
  | _ + 1, [] => rfl
  | i + 1, a :: v => by simp [ins, ins_len i v]
theorem ins_get : ∀ (i : Nat) (v : Vec), i ≤ v.length → (ins i v).getD i 0 = 0
  | 0, _, _ => rfl
  | _ + 1, [], h => by simp at h
  | i + 1, a :: v, h => by
    show (ins i v).getD i 0 = 0
    exact ins_get i v (by simpa using h)
theorem ins_era : ∀ (i : Nat) (v : Vec), i ≤ v.length → (ins i v).eraseIdx i = v
  | 0, _, _ => rfl
  | _ + 1, [], h => by simp at h
  | i + 1, a :: v, h => by
    show a :: (ins i v).eraseIdx i = a :: v
    rw [ins_era i v (by simpa using h)]
theorem dot_era : ∀ (i : Nat) (x s : Vec), x.length = s.length → x.getD i 0 = 0 → dot x s = dot (x.eraseIdx i) (s.eraseIdx i)
  | _, [], [], _, _ => by simp
  | _, [], _ :: _, h, _ => by cases h
  | _, _ :: _, [], h, _ => by cases h
  | 0, a :: x, b :: s, _, h => by
    have : a = 0 := h
    subst this
    show 0 * b + dot x s = dot x s
    omega
  | i + 1, a :: x, b :: s, hl, h => by
    show a * b + dot x s = a * b + dot (x.eraseIdx i) (s.eraseIdx i)
    rw [dot_era i x s (by simpa using hl) h]
theorem zr_era : ∀ (i : Nat) (x : Vec), x.getD i 0 = 0 → Zr (x.eraseIdx i) → Zr x
  | _, [], _, _ => fun _ => by simp
  | 0, a :: x, h, z => fun j => by
    cases j with
    | zero => exact h
    | succ j => exact z j
  | i + 1, a :: x, h, z => fun j => by
    cases j with
    | zero => exact z 0
    | succ j => exact zr_era i x h (fun j => z (j + 1)) j
theorem cof_get {S : List Vec} {n i : Nat} (hi : i < n) : (cof S n).getD i 0 = sgn i * D (n - 1) (S.map (·.eraseIdx i)) := by
  unfold cof
  rw [List.getD_eq_getElem?_getD, List.getElem?_map, List.getElem?_range hi]
  rfl
theorem cof_len (S : List Vec) (n : Nat) : (cof S n).length = n := by simp [cof]
theorem cof_zero {S : List Vec} {n i : Nat} (hS : S.length + 1 = n) (hs : ∀ s ∈ S, s.length = n) (hi : i < n) :
    (cof S n).getD i 0 = 0 ↔ ∃ x : Vec, x.length = n ∧ ¬ Zr x ∧ x.getD i 0 = 0 ∧ ∀ s ∈ S, dot x s = 0 := by
  have h1 : D (n - 1) (S.map (·.eraseIdx i)) = 0 ↔ (cof S n).getD i 0 = 0 := by
    rw [cof_get hi]
    exact ⟨fun h => by rw [h, Int.mul_zero], fun h => (Int.mul_eq_zero.mp h).resolve_left (sgn_ne _)⟩
  rw [← h1, det_ker (n - 1) (S.map (·.eraseIdx i)) (by rw [List.length_map]; omega) (fun r hr => by
    obtain ⟨s, h, rfl⟩ := List.mem_map.mp hr
    rw [List.length_eraseIdx, hs s h, if_pos hi])]
  constructor
  · rintro ⟨x, hx, nz, hk⟩
    refine ⟨ins i x, by rw [ins_len, hx]; omega, fun z => nz fun j => ?_, ins_get i x (by omega), fun s hm => ?_⟩
    · have : Zr ((ins i x).eraseIdx i) := fun j => by
        rw [List.getD_eq_getElem?_getD, List.getElem?_eraseIdx]
        split
        · rw [← List.getD_eq_getElem?_getD]; exact z _
        · rw [← List.getD_eq_getElem?_getD]; exact z _
      rw [ins_era i x (by omega)] at this
      exact this j
    · rw [dot_era i _ s (by rw [ins_len, hx, hs s hm]; omega) (ins_get i x (by omega)), ins_era i x (by omega)]
      exact hk _ (List.mem_map.mpr ⟨s, hm, rfl⟩)
  · rintro ⟨x, hx, nz, h0, hk⟩
    refine ⟨x.eraseIdx i, by rw [List.length_eraseIdx, hx, if_pos hi], fun z => nz (zr_era i x h0 z), fun r hr => ?_⟩
    obtain ⟨s, hm, rfl⟩ := List.mem_map.mp hr
    rw [← dot_era i x s (by rw [hx, hs s hm]) h0]
    exact hk s hm
end K3


set_option Elab.async false
set_option linter.all false
namespace K3
/-! ### the plane through points -/
theorem snoc_of {h : Vec} {n : Nat} (hl : h.length = n + 1) : ∃ u t, h = u ++ [t] ∧ u.length = n := by
  have hne : h ≠ [] := fun e => by rw [e] at hl; cases hl
  exact ⟨h.dropLast, h.getLast hne, (List.dropLast_concat_getLast hne).symm, by rw [List.length_dropLast, hl]; rfl⟩
theorem snoc_lt {u : Vec} {t : Int} {j : Nat} (h : j < u.length) : (u ++ [t]).getD j 0 = u.getD j 0 := by
  rw [List.getD_eq_getElem?_getD, List.getElem?_append_left h, List.getD_eq_getElem?_getD]
theorem snoc_at {u : Vec} {t : Int} : (u ++ [t]).getD u.length 0 = t := by
  rw [List.getD_eq_getElem?_getD, List.getElem?_append_right (Nat.le_refl _), Nat.sub_self]
  rfl
theorem getD_far {u : Vec} {j : Nat} (h : u.length ≤ j) : u.getD j 0 = 0 := by
  rw [List.getD_eq_getElem?_getD, List.getElem?_eq_none h]
  rfl
theorem zr_snoc {u : Vec} {t : Int} (h : Zr u) (ht : t = 0) : Zr (u ++ [t]) := fun j => by
  by_cases hj : j < u.length
  · rw [snoc_lt hj]; exact h j
  · by_cases e : j = u.length
    · rw [e, snoc_at, ht]
    · exact getD_far (by simp; omega)
theorem nz_at {x : Vec} (h : ¬ Zr x) : ∃ i, i < x.length ∧ x.getD i 0 ≠ 0 := by
  refine Classical.byContradiction fun n => h fun i => ?_
  by_cases hi : i < x.length
  · exact Classical.byContradiction fun e => n ⟨i, hi, e⟩
  · exact getD_far (by omega)
/-- what leads from the first point to the others -/
structure Frame (n : Nat) (M S : List Vec) (p0 : Vec) : Prop where
  wM : ∀ p ∈ M, p.length = n
  wS : ∀ s ∈ S, s.length = n
  m0 : p0 ∈ M
  m1 : ∀ p ∈ M, p = p0 ∨ ∃ d ∈ S, p = addV p0 d
  m2 : ∀ d ∈ S, addV p0 d ∈ M
theorem Frame.ker {n : Nat} {M S : List Vec} {p0 u : Vec} {t : Int} (F : Frame n M S p0) (hu : u.length = n) : (∀ r ∈ M.map (· ++ [1]), dot (u ++ [t]) r = 0) ↔ (∀ s ∈ S, dot u s = 0) ∧ t = - dot u p0 := by
  have h0 := F.wM _ F.m0
  constructor
  · intro h
    have e0 := h _ (List.mem_map.mpr ⟨p0, F.m0, rfl⟩)
    rw [dot_snoc u p0 t 1 (by rw [hu, h0])] at e0
    refine ⟨fun s hs => ?_, by omega⟩
    have e1 := h _ (List.mem_map.mpr ⟨_, F.m2 s hs, rfl⟩)
    rw [dot_snoc u _ t 1 (by rw [hu, F.wM _ (F.m2 s hs)]), dot_add _ _ _ (by rw [h0, F.wS s hs])] at e1
    omega
  · rintro ⟨h, rfl⟩ r hr
    obtain ⟨p, hp, rfl⟩ := List.mem_map.mp hr
    rw [dot_snoc u p _ 1 (by rw [hu, F.wM p hp])]
    rcases F.m1 p hp with e | ⟨d, hd, e⟩
    · rw [e]; omega
    · rw [e, dot_add _ _ _ (by rw [h0, F.wS d hd]), h d hd]; omega
/-- what is held, when there is one: all of the kernel are parallel to it -/
theorem parallel {w : Nat} {L P : List Vec} {g : Nat × Vec} (I : Good w L P [g]) {x : Vec} (hx : x.length = w) (hk : ∀ r ∈ L, dot x r = 0) (i j : Nat) (hi : i < w) (hj : j < w) : x.getD i 0 * g.2.getD j 0 = x.getD j 0 * g.2.getD i 0 := by
  have hl := I.wid g List.mem_cons_self
  have e : ∀ v : Vec, v.length = w → dot v (lin (g.2.getD j 0) (g.2.getD i 0) (unit w i) (unit w j)) = g.2.getD j 0 * v.getD i 0 - g.2.getD i 0 * v.getD j 0 := fun v hv => by
    rw [dot_comm, dot_lin _ _ _ _ _ (by rw [unit_len, unit_len]), dot_comm, dot_unit hv, dot_comm, dot_unit hv]
  have s := span I (e := lin (g.2.getD j 0) (g.2.getD i 0) (unit w i) (unit w j)) (fun p hp => by
    rw [List.mem_singleton.mp hp, e _ hl, Int.mul_comm]
    omega) x hx (fun r hr => hk r (I.sub r hr))
  rw [e x hx] at s
  rw [Int.mul_comm, Int.mul_comm (x.getD j 0)]
  omega
theorem held_pos {w : Nat} {L P : List Vec} {G : List (Nat × Vec)} (I : Good w L P G) (hL : L.length < w) : G ≠ [] := fun e => by
  subst e
  obtain ⟨R, hR, hb⟩ := all_bound L
  obtain ⟨y, hy, nz, hk, _⟩ := siegel w R L hL hR hb
  exact nz (I.det y hy (fun r hr => hk r (I.sub r hr)) fun p hp => absurd hp List.not_mem_nil)
/-- a vector of the kernel with a nought where one is wished, if two are held -/
theorem two_held {w : Nat} {L P : List Vec} {g1 g2 : Nat × Vec} {G : List (Nat × Vec)} (I : Good w L P (g1 :: g2 :: G)) (i : Nat) : ∃ y : Vec, y.length = w ∧ ¬ Zr y ∧ y.getD i 0 = 0 ∧ ∀ r ∈ L, dot y r = 0 := by
  have m1 : g1 ∈ g1 :: g2 :: G := List.mem_cons_self
  have m2 : g2 ∈ g1 :: g2 :: G := List.mem_cons_of_mem _ List.mem_cons_self
  have l1 := I.wid g1 m1
  have l2 := I.wid g2 m2
  have ne : g1.1 ≠ g2.1 := fun e => by
    have := I.nd
    simp only [List.map_cons, List.nodup_cons, List.mem_cons, not_or] at this
    exact this.1.1 e
  by_cases h : g1.2.getD i 0 = 0
  · exact ⟨g1.2, l1, fun z => I.piv g1 m1 (z _), h, I.ker g1 m1⟩
  · refine ⟨lin (g2.2.getD i 0) (g1.2.getD i 0) g1.2 g2.2, lin_len l1 l2, fun z => ?_, ?_, fun r hr => ?_⟩
    · have := z g2.1
      rw [lin_get _ _ _ _ (by rw [l1, l2]), I.tri g1 m1 g2 m2 ne, Int.zero_mul] at this
      have e2 : g2.2.getD g2.1 0 * g1.2.getD i 0 = 0 := by omega
      rcases Int.mul_eq_zero.mp e2 with e | e
      · exact I.piv g2 m2 e
      · exact h e
    · rw [lin_get _ _ _ _ (by rw [l1, l2]), Int.mul_comm]
      omega
    · rw [dot_lin _ _ _ _ _ (by rw [l1, l2]), I.ker g1 m1 r hr, I.ker g2 m2 r hr]
      omega
def firstL (u : Vec) : Int := (u.filter (· != 0)).headD 0
def planeOf (h : Vec) : Vec × Int := if firstL h.dropLast < 0 then (h.dropLast.map (- ·), h.getLastD 0) else (h.dropLast, - h.getLastD 0)
def byL (c : Vec) : Int := gcdL c * (1 - 2 * (if firstL c < 0 then 1 else 0))
def dueOf (c p0 : Vec) : Vec × Int := (c.map (· / byL c), dot (c.map (· / byL c)) p0)
theorem first_scale {l : Int} (hl : l ≠ 0) : ∀ u : Vec, firstL (u.map (l * ·)) = l * firstL u
  | [] => by simp [firstL]
  | a :: u => by
    have ih := first_scale hl u
    unfold firstL at ih ⊢
    by_cases h : a = 0
    · subst h
      simp only [List.map_cons, Int.mul_zero]
      rw [List.filter_cons_of_neg (by simp), List.filter_cons_of_neg (by simp)]
      exact ih
    · have h2 : l * a ≠ 0 := Int.mul_ne_zero hl h
      simp only [List.map_cons]
      rw [List.filter_cons_of_pos (by simpa using h2), List.filter_cons_of_pos (by simpa using h)]
      rfl
theorem first_ne : ∀ {u : Vec}, ¬ Zr u → firstL u ≠ 0
  | [], h => absurd (fun i => by simp) h
  | a :: u, h => by
    unfold firstL
    by_cases e : a = 0
    · subst e
      rw [List.filter_cons_of_neg (by simp)]
      exact first_ne (u := u) fun z => h fun i => by
        cases i with
        | zero => rfl
        | succ i => exact z i
    · rw [List.filter_cons_of_pos (by simpa using e)]
      exact e
theorem dot_neg (u p : Vec) : dot (u.map (- ·)) p = - dot u p := by
  have e : u.map (- ·) = u.map ((-1) * ·) := List.map_congr_left fun a _ => by omega
  rw [e, dot_scale]
  omega
theorem eq_scale {c u : Vec} {l : Int} {n : Nat} (hc : c.length = n) (hu : u.length = n) (h : ∀ j, j < n → c.getD j 0 = l * u.getD j 0) : c = u.map (l * ·) := by
  refine ext_get (by rw [List.length_map, hc, hu]) fun j => ?_
  rw [map_getD0 u (fun x => l * x) (Int.mul_zero _)]
  by_cases hj : j < n
  · exact h j hj
  · rw [getD_far (by omega), getD_far (by omega), Int.mul_zero]
/-- the end: what the program holds against what the cofactors tell -/
theorem plane_none {n : Nat} {M S : List Vec} {p0 : Vec} (F : Frame n M S p0) (hM : M.length = n) (hS : S.length + 1 = n) (hz : ∀ i, i < n → (cof S n).getD i 0 = 0) : 2 ≤ (heldM (n + 1) (M.map (· ++ [1]))).length := by
  obtain ⟨P, G, I, e⟩ := good_held (n + 1) (M.map (· ++ [1]))
  rw [← e, List.length_map]
  have h0 := held_pos I (by rw [List.length_map]; omega)
  match G, h0, I with
  | [g], _, I =>
    exfalso
    have hl := I.wid g List.mem_cons_self
    obtain ⟨u, t, eu, lu⟩ := snoc_of hl
    have hk := I.ker g List.mem_cons_self
    rw [eu] at hk
    obtain ⟨k1, k2⟩ := (F.ker lu).mp hk
    have nz : ¬ Zr u := fun z => I.piv g List.mem_cons_self (by
      rw [eu]
      exact zr_snoc z (by rw [k2, dot_zr z]; rfl) _)
    obtain ⟨i, hi, hui⟩ := nz_at nz
    rw [lu] at hi
    obtain ⟨x, hx, xnz, x0, xk⟩ := (cof_zero hS F.wS hi).mp (hz i hi)
    have hX := (F.ker (t := - dot x p0) hx).mpr ⟨xk, rfl⟩
    refine xnz fun j => ?_
    by_cases hj : j < n
    · have p := parallel I (x := x ++ [- dot x p0]) (by simp [hx]) hX j i (by omega) (by omega)
      rw [eu, snoc_lt (by omega), snoc_lt (by omega), snoc_lt (by omega), snoc_lt (by omega), x0, Int.zero_mul] at p
      exact (Int.mul_eq_zero.mp p).resolve_right hui
    · exact getD_far (by omega)
  | g1 :: g2 :: G, _, _ => simp
theorem plane_some {n : Nat} {M S : List Vec} {p0 : Vec} (F : Frame n M S p0) (hM : M.length = n) (hS : S.length + 1 = n) {i : Nat} (hi : i < n) (hz : (cof S n).getD i 0 ≠ 0) :
    ∃ h, heldM (n + 1) (M.map (· ++ [1])) = [h] ∧ h.length = n + 1 ∧ planeOf h = dueOf (cof S n) p0 ∧ firstL h.dropLast ≠ 0 ∧ ∃ l : Int, l ≠ 0 ∧ cof S n = h.dropLast.map (l * ·) := by
  obtain ⟨P, G, I, e⟩ := good_held (n + 1) (M.map (· ++ [1]))
  have h0 := held_pos I (by rw [List.length_map]; omega)
  match G, h0, I, e with
  | g1 :: g2 :: G, _, I, e =>
    exfalso
    obtain ⟨y, hy, ynz, y0, yk⟩ := two_held I i
    obtain ⟨v, t, rfl, lv⟩ := snoc_of hy
    obtain ⟨k1, k2⟩ := (F.ker lv).mp yk
    rw [snoc_lt (by omega)] at y0
    exact hz ((cof_zero hS F.wS hi).mpr ⟨v, lv, fun z => ynz (zr_snoc z (by rw [k2, dot_zr z]; rfl)), y0, k1⟩)
  | [g], _, I, e =>
    have hl := I.wid g List.mem_cons_self
    obtain ⟨u, t, eu, lu⟩ := snoc_of hl
    have hk := I.ker g List.mem_cons_self
    have pr := prim_of (I.prim g List.mem_cons_self)
    rw [eu] at hk pr
    obtain ⟨k1, k2⟩ := (F.ker lu).mp hk
    have nz : ¬ Zr u := fun z => I.piv g List.mem_cons_self (by
      rw [eu]
      exact zr_snoc z (by rw [k2, dot_zr z]; rfl) _)
    have lc := cof_len S n
    have hX := (F.ker (t := - dot (cof S n) p0) lc).mpr ⟨fun s hs => cof_orth hS (F.wS s hs) hs, rfl⟩
    have par := fun a b ha hb => parallel I (x := cof S n ++ [- dot (cof S n) p0]) (by simp [lc]) hX a b ha hb
    rw [eu] at par
    have parU : ∀ a b, a < n → b < n → (cof S n).getD a 0 * u.getD b 0 = (cof S n).getD b 0 * u.getD a 0 := fun a b ha hb => by
      have p := par a b (by omega) (by omega)
      rw [snoc_lt (by omega), snoc_lt (by omega), snoc_lt (by omega), snoc_lt (by omega)] at p
      exact p
    have ui : u.getD i 0 ≠ 0 := fun z => nz fun j => by
      by_cases hj : j < n
      · have p := parU i j hi hj
        rw [z, Int.mul_zero] at p
        exact (Int.mul_eq_zero.mp p).resolve_left hz
      · exact getD_far (by omega)
    have dv : u.getD i 0 ∣ (cof S n).getD i 0 := by
      refine pr _ _ fun j => ?_
      by_cases hj : j < n
      · rw [snoc_lt (by omega), parU i j hi hj]
        exact Int.dvd_mul_left _ _
      · by_cases ej : j = n
        · have p := par i n (by omega) (by omega)
          rw [snoc_lt (u := cof S n) (j := i) (by omega), snoc_lt (u := u) (j := i) (by omega)] at p
          rw [ej, p]
          exact Int.dvd_mul_left _ _
        · rw [getD_far (u := u ++ [t]) (j := j) (by simp; omega), Int.mul_zero]
          exact Int.dvd_zero _
    obtain ⟨l, el⟩ := dv
    have l0 : l ≠ 0 := fun z => hz (by rw [el, z, Int.mul_zero])
    have ec : cof S n = u.map (l * ·) := eq_scale lc lu fun j hj => by
      have p := parU j i hj hi
      rw [el, Int.mul_assoc, Int.mul_comm] at p
      exact Int.eq_of_mul_eq_mul_left ui p
    have gu : gcdL u = 1 := by
      have d1 : (gcdL u : Int) ∣ 1 := pr _ 1 fun j => by
        rw [Int.one_mul]
        by_cases hj : j < n
        · rw [snoc_lt (by omega)]
          refine gcdL_dvd ?_
          rw [List.getD_eq_getElem?_getD, List.getElem?_eq_getElem (by omega)]
          exact List.getElem_mem _
        · by_cases ej : j = n
          · have ent : (u ++ [t]).getD j 0 = t := by rw [ej, ← lu]; exact snoc_at
            rw [ent, k2]
            refine Int.dvd_neg.mpr ?_
            have hd : ∀ (v p : Vec), (∀ b ∈ v, (gcdL u : Int) ∣ b) → (gcdL u : Int) ∣ dot v p := fun v => by
              induction v with
              | nil => intro p _; rw [dot_nil_l]; exact Int.dvd_zero _
              | cons a v ih =>
                intro p hb
                cases p with
                | nil => rw [dot_nil_r]; exact Int.dvd_zero _
                | cons b p => exact Int.dvd_add (Int.dvd_mul_of_dvd_left (hb a List.mem_cons_self)) (ih p fun b hb' => hb b (List.mem_cons_of_mem _ hb'))
            exact hd u p0 fun b hb => gcdL_dvd hb
          · rw [getD_far (u := u ++ [t]) (j := j) (by simp; omega)]
            exact Int.dvd_zero _
      have := Int.natAbs_dvd_natAbs.mpr d1
      exact Nat.dvd_one.mp (by simpa using this)
    have hdl : (u ++ [t]).dropLast = u := by simp
    have hgl : (u ++ [t]).getLastD 0 = t := by simp
    refine ⟨u ++ [t], by rw [← e, List.map_cons, List.map_nil, eu], by simp [lu], ?_, by rw [hdl]; exact first_ne nz, l, l0, by rw [hdl]; exact ec⟩
    have fn := first_ne nz
    have by1 : byL (cof S n) = if firstL u < 0 then - l else l := by
      unfold byL
      rw [ec, gcdL_mul, gu, first_scale l0, Nat.mul_one]
      by_cases f0 : firstL u < 0
      · rw [if_pos f0]
        by_cases lp : 0 < l
        · have : l * firstL u < 0 := Int.mul_neg_of_pos_of_neg lp f0
          rw [if_pos this]; omega
        · have : ¬ l * firstL u < 0 := by have := Int.mul_pos_of_neg_of_neg (show l < 0 by omega) f0; omega
          rw [if_neg this]; omega
      · rw [if_neg f0]
        by_cases lp : 0 < l
        · have : ¬ l * firstL u < 0 := by have := Int.mul_pos lp (show 0 < firstL u by omega); omega
          rw [if_neg this]; omega
        · have : l * firstL u < 0 := Int.mul_neg_of_neg_of_pos (show l < 0 by omega) (show 0 < firstL u by omega)
          rw [if_pos this]; omega
    unfold planeOf dueOf
    rw [hdl, hgl, by1]
    by_cases f0 : firstL u < 0
    · rw [if_pos f0, if_pos f0]
      have er : (cof S n).map (· / -l) = u.map (- ·) := by
        rw [ec, List.map_map]
        refine List.map_congr_left fun a _ => ?_
        show l * a / -l = -a
        rw [Int.ediv_neg, Int.mul_ediv_cancel_left _ l0]
      rw [er, dot_neg, k2]
    · rw [if_neg f0, if_neg f0]
      have er : (cof S n).map (· / l) = u := by
        rw [ec, List.map_map]
        conv => rhs; rw [← List.map_id u]
        refine List.map_congr_left fun a _ => ?_
        show l * a / l = a
        exact Int.mul_ediv_cancel_left _ l0
      rw [er, k2, Int.neg_neg]
end K3


set_option Elab.async false
set_option linter.all false
set_option maxRecDepth 100000
set_option maxHeartbeats 2000000
namespace K0
open PySem PySem.Spec PyProof.Rows L2

/-- a def's promise where no repr is under way around the call -/
structure FnG (P : Program) (w : World) (K : PySem.W.Frag) (mg : Str → Option Value) (base : Heap)
    (k : Nat) (f : Addr) (fd : FuncData) (ps : List Str) (sp : Sp) : Prop where
  len : ∀ vs H Q E, sp vs H Q E → vs.length = ps.length
  go : ∀ (A : Around) (outer : List Env) (s : Shared) (H : Hp) (args : Args) (us : List Value)
    (vs : List V) (Q : VK) (E : XK), A.guards = some [] → Room k A → Env0 P w K mg base A outer s H →
    BindsTo s fd args (ps.zip us) → Vals vs us → sp vs H Q E →
    codeAny (model P w) A (.call (.ref f) args) (CR CX0 outer P w H s Q E) s

theorem FnG.of {P : Program} {w : World} {K : PySem.W.Frag} {mg : Str → Option Value} {base : Heap}
    {k : Nat} {f : Addr} {fd : FuncData} {ps : List Str} {sp : Sp}
    (F : FnOk P w K mg base CX0 k f fd ps sp) : FnG P w K mg base k f fd ps sp :=
  ⟨F.len, fun A outer s H args us vs Q E _ => F.run A outer s H args us vs Q E⟩

theorem Fun_okG {P : Program} {w : World} {K : PySem.W.Frag} {mg : Str → Option Value} {base : Heap}
    {x qual : Str} {st : Stmt} {f : Addr} {fd : FuncData} {N ps : List Str} {k : Nat} {sp : Sp}
    (F : Fun K x qual st f fd) (S : FnScope N ps (defScope st))
    (len : ∀ vs H Q E, sp vs H Q E → vs.length = ps.length)
    (hbody : ∀ (cdv : Value) (A : Around) (outer : List Env) (s : Shared) (H : Hp) (vs : List V) (Q : VK) (E : XK),
      A.guards = some [] → Room k (A.deeper (envOfC qual (defScope st) s.heap.objs.size f cdv)) → sp vs H Q E →
      ∃ t, PSs (cxOf CX0 P w K mg base N qual (defScope st) f cdv A outer s H E) (defBody st) t ∧
        t { nx := fun _ H' => Q .non H', rt := Q } (start N vs) H) :
    FnG P w K mg base (k + 1) f fd ps sp := by
  obtain ⟨oc, od, kV, doc, pm, an, cdv, ct, osl, rfl, lk, hcd⟩ := F.ex
  refine ⟨len, ?_⟩
  intro A outer s H args us vs Q E hg hr e0 hb r hsp
  have kept : ∀ b o, base.get? b = some o → s.heap.get? b = some o := fun b o e => (e0.bs b o e).1
  have KX : K.In s.heap := e0.mod.kin.keeps kept
  have lim : s.heap.NoLimit := e0.mod.nolimit.keeps kept
  refine codeAny_call_function hr.depth (KX _ _ lk) rfl S.co S.gen rfl
    (PySem.W.codeRec_of KX hcd) (hb _ _ _ _ ?_)
  refine wpAny_newFunctionEnv_cells S.kind ?_ ?_
  · rintro ⟨n, v⟩ hy
    cases S.par n (List.of_mem_zip hy).1 with
    | inl q => exact Or.inl q
    | inr q => exact Or.inr ⟨q, PySem.W.cellsFrom_some _ _ _ (Or.inl q)⟩
  · intro env he s1 x
    subst he
    obtain ⟨t, ht, hq⟩ := hbody cdv A outer s H vs Q E hg (hr.deeper _) hsp
    refine ⟨lim.keeps x.toInCall.keep, codeAny_func ?_⟩
    have I := inv_start (CX := CX0) (E := E) (N := N) (cd := cdv) S hr.hd e0 (len _ _ _ _ hsp) r x
    refine wpAny_mono (ht.run [] s1 (start N vs) H _ I hq) ?_ (fun _ _ z => z)
    intro fl s' hs
    cases fl with
    | ret u =>
      obtain ⟨v, σ', H', J, rv, q⟩ := hs
      exact ⟨v, H', J.os, J.bare, J.base, J.hok, rv, q⟩
    | next =>
      obtain ⟨σ', H', J, q⟩ := hs
      exact ⟨.non, H', J.os, J.bare, J.base, J.hok, rfl, q⟩
    | brk =>
      obtain ⟨_, _, _, q⟩ := hs
      cases q
    | cont =>
      obtain ⟨_, _, _, q⟩ := hs
      cases q

section
variable {X : Cx} {k : Nat} {f : Addr} {fd : FuncData} {ps : List Str} {sp : Sp} {x : Str} {p pos : Pos} {e : Expr} {es : List Expr} {t : TA}
/-- a call of such a def, by place -/
theorem pe_callG (F : FnG X.prog X.w X.K X.mg X.base k f fd ps sp) (hG : X.A.guards = some []) (hr : Room k X.A) (hg : Gl X x)
    (hm : X.mg x = some (.ref f)) (hk : PySem.W.keepIn X.K (.ref f) = true) (hb : Binds X.K fd ps []) (ha : PA X (e :: es) t)
    (hdb : (x == ("__debug__" : Str)) = false := by decide)
    (he : starEach (e :: es) X.env = (false, eval e X.env) :: starEach es X.env := by rfl)
    (hpl : (backTo pos (starEach es X.env)).any (·.1) = false := by rfl) :
    PE X (.Call (.Name x p) (e :: es) [] pos) (fun σ H Q => t σ H fun vs H1 => sp vs H1 Q E0) := by
  refine ⟨fun pins s σ H Q I h => wpAny_Call_Name_kw (ld_glob I hg hm ?_ hdb)⟩
  refine PySem.W.callWith_K (h₀ := X.base) I.ok.mod.kin hk
    (thn (ha.run pos pins s σ H _ I h) ?_) he hpl
  rintro us s1 ⟨vs, H1, I1, r, q⟩
  have hl : us.length = ps.length := r.length.symm.trans (F.len _ _ _ _ q)
  have hb1 := hb s1 us I1.kIn (by rw [List.append_nil]; exact hl)
  rw [List.append_nil] at hb1
  refine ⟨I1.kIn, wpAny_call (codeAny_mono (F.go X.A X.stack s1 H1 ⟨us, []⟩ us vs Q E0 hG hr I1.env0 hb1 r q) ?_)⟩
  intro r' s' hq
  cases r' with
  | error e' => cases hq
  | ok fl =>
    cases fl with
    | ret u => exact I1.after hq
    | next => cases hq
    | brk => cases hq
    | cont => cases hq
end
end K0


set_option Elab.async false
set_option linter.all false
set_option maxRecDepth 100000
set_option maxHeartbeats 2000000
namespace K0
open PySem PySem.Spec PyProof.Rows L2

/-- what a value of the law's own draws shows: data without dicts, or a dict of no or one pair -/
inductive It (K : PySem.W.Frag) (H : Hp) : V → PyData → Prop
  | dp {v : V} {d : PyData} (h : Dp K H v d) (n : d.hasDict = false) : It K H v d
  | d0 {a : Addr} (h : H a = some (.dK [])) : It K H (.ref a) (.dict [])
  | d1 {a : Addr} {n : Int} {x : Str} (h : H a = some (.dK [(Sum.inl n, .str x)])) : It K H (.ref a) (.dict [(.int n, .str x)])

section
variable {X : Cx} {pins : List (Addr × Obj)} {σ : L2.St} {H : Hp} {s : Shared}
theorem It.rd (I : Inv X pins σ H s) {v : V} {d : PyData} {u : Value} (h : It X.K H v d) (r : RelV v u) :
    ∃ as, Reads s.heap u d as ∧ (d.hasDict = true → sysModules ∉ as) := by
  cases h with
  | dp hd hn =>
    obtain ⟨as, q⟩ := Dp.reads I d v u hd r
    exact ⟨as, q, fun z => by rw [hn] at z; cases z⟩
  | @d0 a h =>
    cases r
    obtain ⟨_, hsm, vs, kv, o, es, ep, ho, hx, hd, _, hp, _⟩ := I.hok a _ h
    cases kv
    have e : es.toList = [] := List.eq_nil_of_length_eq_zero hp.length
    refine ⟨_, Reads.dict (kvs := []) (as := []) (bs := []) ho hx.1 hd (by rw [e]; exact .nil) (by rw [e]; exact .nil), fun _ => ?_⟩
    have hne : a ≠ sysModules := by simpa using hsm
    simpa using Ne.symm hne
  | @d1 a n x h =>
    cases r
    obtain ⟨_, hsm, vs, kv, o, es, ep, ho, hx, hd, _, hp, _⟩ := I.hok a _ h
    have hne : a ≠ sysModules := by simpa using hsm
    cases kv with
    | @cons _ y _ _ q qs =>
      cases qs
      obtain ⟨q1, q2⟩ := q
      have q1' : y.1 = Sum.inl n := q1.symm
      obtain ⟨t, q2'⟩ := q2
      obtain ⟨l⟩ := es
      cases hp with
      | @cons en _ _ _ p1 p2 p3 =>
        cases p3
        rw [q1', mixKind_is] at p1
        obtain ⟨t', e'⟩ := Value.isInt_shape (k := n) (v := en.key) p1
        refine ⟨_, Reads.dict (kvs := [(.int n, .str x)]) (as := []) (bs := []) ho hx.1 hd ?_ ?_, fun _ => ?_⟩
        · show ReadsAll s.heap [en.key] [.int n] []
          rw [e']
          exact ReadsAll.cons (as := []) (bs := []) (.int n t') .nil
        · show ReadsAll s.heap [en.val] [.str x] []
          rw [p2, q2']
          exact ReadsAll.cons (as := []) (bs := []) (.str x t) .nil
        · simpa using Ne.symm hne
end

/-- what a shown value asks: its numbers not too long, not too deep, its text not too long -/
structure Short (d : PyData) : Prop where
  sh : d.showable = true
  dp : d.depth ≤ 20
  ln : d.shown.length ≤ 1000000

theorem lineOk : 1000000 ≤ sizeLine := by rw [sizeLine_eq]; decide

/-- repr(x), x as told -/
def rRepr (K : PySem.W.Frag) : List V → Hp → VK → Prop := fun xs H Q => ∃ (v : V) (d : PyData), xs = [v] ∧ It K H v d ∧ Short d ∧ Q (.str d.shown) H
/-- repr of a list of two -/
def rRepr2 (K : PySem.W.Frag) : List V → Hp → VK → Prop := fun xs H Q => ∃ (l : Addr) (v1 v2 : V) (d1 d2 : PyData), xs = [.ref l] ∧ H l = some (.lst [v1, v2]) ∧
  It K H v1 d1 ∧ It K H v2 d2 ∧ Short d1 ∧ Short d2 ∧ Q (.str (listText [d1.shown, d2.shown])) H

section
variable {X : Cx}
theorem call_repr (hg : X.A.guards = some []) (hu : X.A.units + 64 < cLine) : CallR X (.builtin "repr") (rRepr X.K) := by
  intro pins s σ H xs us Q I r h
  obtain ⟨v, d, rfl, hd, ⟨hs, hdp, hz⟩, q⟩ := h
  have hz' : d.shown.length ≤ sizeLine := Nat.le_trans hz lineOk
  obtain ⟨u, rfl, ru⟩ := vals1 r
  have fin : ∀ tk t, EP X pins σ Q (.str d.shown t) { s with toks := tk } := fun tk t => ⟨.str d.shown, H, I.tok tk, ⟨t, rfl⟩, q⟩
  obtain ⟨as, rd, hn⟩ := It.rd I hd ru
  have big : ∀ a, u = .ref a → wpAny (model X.prog X.w) X.A (call (.builtin "repr") [u]) (EP X pins σ Q) X.xe s := by
    intro a e
    subst e
    refine PySem.repr_of_reads' rd hs hn hg (by omega) (fun _ _ z => z) (fun h' t tk hk => ?_) hz'
    exact ⟨.str d.shown, H, I.kept (t' := tk) hk, ⟨t, rfl⟩, q⟩
  cases rd with
  | none => exact PySem.P.repr_of_none (by simpa only [PyData.shown] using fin _ _)
  | bool b => exact PySem.P.repr_of_bool (by simpa only [PyData.shown] using fin _ _)
  | int i t =>
    refine PySem.P.repr_of_int ?_ (by simpa only [PyData.shown] using fin _ _)
    simpa only [PyData.showable, decide_eq_true_eq] using hs
  | str x t => exact PySem.P.repr_of_str (by simpa only [PyData.shown] using fin _ _) (by simpa only [PyData.shown] using hz')
  | list => exact big _ rfl
  | tuple => exact big _ rfl
  | dict => exact big _ rfl

theorem pair_len (x y : Str) : (listText [x, y]).length = x.length + y.length + 4 := by
  show (((Str.ofString "[" ++ Str.ofString "" ++ x) ++ Str.ofString ", " ++ y) ++ Str.ofString "]").length = _
  have e0 : (Str.ofString "").length = 0 := by decide
  have e1 : (Str.ofString "[").length = 1 := by decide
  have e2 : (Str.ofString "]").length = 1 := by decide
  have e3 : (Str.ofString ", ").length = 2 := by decide
  simp only [Str.length_append, e0, e1, e2, e3]
  omega

theorem call_repr2 (hg : X.A.guards = some []) (hu : X.A.units + 64 < cLine) : CallR X (.builtin "repr") (rRepr2 X.K) := by
  intro pins s σ H xs us Q I r h
  obtain ⟨l, v1, v2, d1, d2, rfl, hl, t1, t2, ⟨a1, a2, a3⟩, ⟨b1, b2, b3⟩, q⟩ := h
  obtain ⟨u, rfl, ru⟩ := vals1 r
  cases ru
  obtain ⟨its, rv, ⟨o, n, ho, hc, _, hd⟩, _⟩ := I.list (SqL.of hl)
  obtain ⟨u1, u2, rfl, r1, r2⟩ := vals2 rv
  obtain ⟨as1, rd1, n1⟩ := It.rd I t1 r1
  obtain ⟨as2, rd2, n2⟩ := It.rd I t2 r2
  have z1 : d1.shown.length ≤ sizeLine := Nat.le_trans a3 lineOk
  have z2 : d2.shown.length ≤ sizeLine := Nat.le_trans b3 lineOk
  obtain ⟨bs1, m1, k1⟩ := ReprK.of_reads (prog := X.prog) (w := X.w) rd1 a1 n1 z1
  obtain ⟨bs2, m2, k2⟩ := ReprK.of_reads (prog := X.prog) (w := X.w) rd2 b1 n2 z2
  have rl : Reads s.heap (.ref l) (.list [d1, d2]) _ := Reads.list ho hc hd (.cons rd1 (.cons rd2 .nil))
  have hm : ReadAtMost s.heap (max d1.depth d2.depth) (bs1 ++ bs2) := by
    intro b hb
    cases List.mem_append.mp hb with
    | inl e =>
      obtain ⟨d', as', r', le⟩ := m1 b e
      exact ⟨d', as', r', Nat.le_trans le (Nat.le_max_left _ _)⟩
    | inr e =>
      obtain ⟨d', as', r', le⟩ := m2 b e
      exact ⟨d', as', r', Nat.le_trans le (Nat.le_max_right _ _)⟩
  have hna : l ∉ bs1 ++ bs2 := not_mem_of_deeper rl (by simp only [PyData.depth, PyData.depthAll]; omega) hm
  have ka : ReprK X.prog X.w (bs1 ++ bs2) s.heap (max d1.depth d2.depth) u1 d1.shown :=
    (k1.more fun b hb => List.mem_append_left _ hb).level_le (Nat.le_max_left _ _)
  have kb : ReprK X.prog X.w (bs1 ++ bs2) s.heap (max d1.depth d2.depth) u2 d2.shown :=
    (k2.more fun b hb => List.mem_append_right _ hb).level_le (Nat.le_max_right _ _)
  have hsz : (listText [d1.shown, d2.shown]).length ≤ sizeLine := by
    rw [pair_len, sizeLine_eq]
    omega
  have hmax : max d1.depth d2.depth ≤ 20 := Nat.max_le.mpr ⟨a2, b2⟩
  refine call_repr_slot (by omega) ⟨o, ho, hc⟩ F.slot_list_repr.toG ?_
  refine call_list_reprK (A := X.A.in1) (as := bs1 ++ bs2) (d := max d1.depth d2.depth) (ts := [d1.shown, d2.shown]) ho hc hd hna (by simp) ?_ hg
    (fun b _ => Clear.nil b) (by show X.A.units + 1 + _ < cLine; omega) (fun _ _ z => z) (fun h' t tk hk => ⟨_, _, rfl, ⟨.str _, H, I.kept (t' := tk) hk, ⟨t, rfl⟩, q⟩⟩) hsz
  intro i y hy
  match i, hy with
  | 0, hy =>
    have e : u1 = y := by simpa using hy
    exact ⟨_, rfl, e ▸ ka⟩
  | 1, hy =>
    have e : u2 = y := by simpa using hy
    exact ⟨_, rfl, e ▸ kb⟩
  | i + 2, hy => simp at hy
end
end K0


set_option Elab.async false
set_option linter.all false
set_option maxRecDepth 100000
set_option maxHeartbeats 4000000
namespace PySem
namespace K0x
open PySem.W PySem.Calls PyProof.Rows PySem.HandSPX
section
variable {M : Model} {prog : Program} {w : World} {A : Around} {E : Value → Shared → Prop} {R : Result → Shared → Prop}
  {h : Heap} {g : Array GenState} {d : Drawn} {t : Nat} {os : OsState}
variable {nm q : Str} {C N : Addr} {bs bm bmB : List Value} {hdct : Bool} {sn : List Str} {sub : List Value} {ab : Bool}
  {col : Option Bool} {dd : Option Addr} {k0 k1 k2 k3 k5 : Option Value} {B newId initId : String}

/-- an own exception class asked to make one, with keywords: the check of the built-in maker -/
theorem chk_new (F : ExcBaseFacts B newId initId bmB) (hT : ∀ X : String, bm.contains (.type X) = bmB.contains (.type X))
    {rest : List Value} {kw : List (Str × Value)} {Q : Unit → Shared → Prop}
    (hC : h.get? C = some (excClassObj nm q C N bs bm hdct sn sub ab col dd k0 k1 k2 k3 k5 newId)) (hq : Q () ⟨h, g, d, t, os⟩) :
    wpAny M A (checkBuiltinCall newId ⟨.ref C :: rest, kw⟩) Q E ⟨h, g, d, t, os⟩ := by
  have c1 : (Value.ref C :: bm).contains (.type B) = true := by
    rw [List.contains_cons, hT, F.hasB, Bool.or_true]
  have c2 := F.noStar
  simp only [checkBuiltinCall, F.newKind, F.newSplit, F.newRow]
  repeat (first
    | refine wpAny_loadPart_at hC ?_
    | (refine wpAny_isSubtype_exc hC ?_
       rw [c1])
    | refine wpAny_staticBase_exc hC ?_
    | refine wpAny_madeBy_exc hC ?_
    | simp only [bne_self_eq_false, Bool.false_eq_true, if_false]
    | wp_step)
  exact hq

theorem new_kw (F : ExcBaseFacts B newId initId bmB) (hT : ∀ X : String, bm.contains (.type X) = bmB.contains (.type X))
    {rest : List Value} {kw : List (Str × Value)}
    (hC : h.get? C = some (excClassObj nm q C N bs bm hdct sn sub ab col dd k0 k1 k2 k3 k5 newId))
    (hq : R (.ok (.ret (.ref (h.objs.size + 1)))) ⟨(h.push (kdv_tup rest)).push (excO C h.objs.size), g, d, t, os⟩)
    (hrest : rest.length ≤ sizeLine) :
    codeAny (model prog w) A (.builtin newId ⟨.ref C :: rest, kw⟩) R ⟨h, g, d, t, os⟩ := by
  have ends := F.ends
  have i1 : (Value.ref C :: bm).contains (.type B) = true := by
    rw [List.contains_cons, hT, F.hasB, Bool.or_true]
  have i2 : (Value.ref C :: bm).contains (.type "AttributeError") = false := by
    rw [List.contains_cons, hT, F.noAttr]
    rfl
  have i3 : (Value.ref C :: bm).contains (.type "NameError") = false := by
    rw [List.contains_cons, hT, F.noName]
    rfl
  refine codeAny_builtinAt F.entry ?_
  unfold Builtin.«BaseException.__new__»
  refine wpAt_bind ?_
  show wpAt _ _ _ (stack >>= _) _ _ _
  refine wpAt_bind (wpAt_stack fun p below => wpAt_of_wpAny ?_)
  wp_walk
  refine wpAt_of_wpAny ?_
  rw [F.owner]
  repeat (first
    | with_reducible refine wpAny_madeHere_exc F.canon hC ?_
    | with_reducible refine wpAny_loadPart_at hC ?_
    | (with_reducible refine wpAny_isSubtype_exc hC ?_
       first | rw [i1] | rw [i2] | rw [i3])
    | wp_step)
  show R _ _
  rw [Heap.size_push]
  exact hq

theorem type_kw (F : ExcBaseFacts B newId initId bmB) (hT : ∀ X : String, bm.contains (.type X) = bmB.contains (.type X))
    {rest : List Value} {kw : List (Str × Value)} {fI : Addr} {Q : Fin → Shared → Prop}
    (hC : h.get? C = some (excClassObj nm q C N bs bm hdct sn sub ab col dd k0 k1 k2 k3 k5 newId))
    (hi : W.Looks (model prog w) h (typeLookup (.ref C) "__init__") (some (.ref fI)))
    (hb : ∀ self, W.Looks (model prog w) h (bindSpecial (.ref fI) self) (.ref fI, [self])) (hrest : rest.length ≤ sizeLine)
    (hq : codeAny (model prog w) A (.call (.ref fI) ⟨.ref (h.objs.size + 1) :: rest, kw⟩)
      (fun r s' => match r with
        | .ok (.ret v) => v = .none ∧ Q (.done (.ret (.ref (h.objs.size + 1)))) s'
        | .ok _ => False
        | .error e => E e s')
      ⟨(h.push (kdv_tup rest)).push (excO C h.objs.size), g, d, t, os⟩) :
    wpAny (model prog w) A (Builtin.«type.__call__» ⟨.ref C :: rest, kw⟩) Q E ⟨h, g, d, t, os⟩ := by
  repeat (first
    | with_reducible refine wpAny_loadPart_at hC ?_
    | with_reducible refine wpAny_madeBy_exc hC ?_
    | wp_step)
  refine codeAny_call_builtin_code (Code.quiet_builtin _ F.quiet) (chk_new F hT hC ?_)
  refine new_kw F hT hC ?_ hrest
  show wpAny _ _ _ _ _ _
  have kp : ∀ b o, h.get? b = some o → ((h.push (kdv_tup rest)).push (excO C h.objs.size)).get? b = some o :=
    fun b o e => Heap.get?_push_of_some _ (Heap.get?_push_of_some _ e)
  have hC1 := kp _ _ hC
  have hx : ((h.push (kdv_tup rest)).push (excO C h.objs.size)).get? (h.objs.size + 1) = some (excO C h.objs.size) := by
    heap_get
  have self_in : (Value.ref C :: bm).contains (.ref C) = true := by
    simp
  have j1 := hi.keeps kp
  have j2 := (hb (.ref (h.objs.size + 1))).keeps kp
  unfold isInstance
  repeat (first
    | with_reducible refine wpAny_loadPart_at hx ?_
    | (with_reducible refine wpAny_isSubtype_exc hC1 ?_
       rw [self_in])
    | wp_step)
  show wpAny _ _ (typeLookup (.ref C) _) _ _ _
  refine j1.at ?_
  refine wpAny_holding (wpAny_bind (j2.at ?_))
  refine wpAny_bind (wpAny_call (codeAny_mono hq ?_))
  intro r s' z
  rcases r with e | (v | _ | _ | _) <;> first | exact z | exact z.elim | skip
  obtain ⟨rfl, z⟩ := z
  first
    | exact wpAny_pure (wpAny_pure z)
    | (wp_walk
       exact z)

theorem chk_type {rest : List Value} {kw : List (Str × Value)} {Q : Unit → Shared → Prop}
    (hC : h.get? C = some (excClassObj nm q C N bs bm hdct sn sub ab col dd k0 k1 k2 k3 k5 newId)) (hq : Q () ⟨h, g, d, t, os⟩) :
    wpAny M A (checkBuiltinCall "type.__call__" ⟨.ref C :: rest, kw⟩) Q E ⟨h, g, d, t, os⟩ := by
  have f3 := tc_sub
  have hTy : (⟨h, g, d, t, os⟩ : Shared).TypeIs (.ref C) "type" := ⟨_, hC, rfl⟩
  simp only [checkBuiltinCall, tc_kind, tc_split]
  repeat (any_goals (first
    | assumption
    | with_reducible refine wpAny_loadPart_at hC ?_
    | with_reducible refine wpAny_onRaise ?_
    | with_reducible refine wpAny_map ?_
    | wp_step))

theorem call_kw (F : ExcBaseFacts B newId initId bmB) (hT : ∀ X : String, bm.contains (.type X) = bmB.contains (.type X))
    {rest : List Value} {kw : List (Str × Value)} {fI : Addr}
    (hC : h.get? C = some (excClassObj nm q C N bs bm hdct sn sub ab col dd k0 k1 k2 k3 k5 newId))
    (hi : W.Looks (model prog w) h (typeLookup (.ref C) "__init__") (some (.ref fI)))
    (hb : ∀ self, W.Looks (model prog w) h (bindSpecial (.ref fI) self) (.ref fI, [self])) (hrest : rest.length ≤ sizeLine)
    (hq : codeAny (model prog w) (A.under (.builtin "type.__call__" ⟨.ref C :: rest, kw⟩))
      (.call (.ref fI) ⟨.ref (h.objs.size + 1) :: rest, kw⟩) (W.InitBack (h.objs.size + 1) R)
      ⟨(h.push (kdv_tup rest)).push (excO C h.objs.size), g, d, t, os⟩) :
    codeAny (model prog w) A (.call (.ref C) ⟨rest, kw⟩) R ⟨h, g, d, t, os⟩ := by
  have f1 := tc_lookup
  have f2 := tc_bind (.ref C)
  have hTy : (⟨h, g, d, t, os⟩ : Shared).TypeIs (.ref C) "type" := ⟨_, hC, rfl⟩
  refine codeAny_of_tree ?_
  show wpAny _ _ (callAny (.ref C) _) _ _ _
  repeat (any_goals (first
    | assumption
    | with_reducible refine wpAny_loadPart_at hC ?_
    | wp_step))
  refine ⟨rfl, ?_⟩
  refine codeAny_call_builtin_at (Code.quiet_builtin _ (by decide +kernel)) entry_typeCall (chk_type hC ?_)
  refine type_kw F hT hC hi hb hrest (codeAny_mono hq ?_)
  intro r s' z
  rcases r with e | (v | _ | _ | _) <;> exact z
end
end K0x
end PySem


set_option Elab.async false
set_option linter.all false
set_option maxRecDepth 100000
set_option maxHeartbeats 4000000
namespace PySem
namespace K0x
open PySem.W PySem.Calls PyProof.Rows PySem.HandSPX
section
variable {prog : Program} {w : World} {A : Around} {E : Value → Shared → Prop} {s : Shared} {K : Frag} {x D : Addr} {ox : Obj} {od : Option Obj}
/-- x.__class__ of an instance of an own exception class, whatever its own dict holds -/
theorem cls_asked {Q : Option Value → Shared → Prop}
    (h1 : findIn K (.ref D) "__getattribute__" = some (some (.builtin "BaseException.__getattribute__")))
    (h2 : findIn K (.ref D) "__getattr__" = some none) (h3 : subIn K (.ref D) (.type "BaseException") = some true)
    (h4 : hasDictIn K D = true) (h5 : findIn K (.ref D) "__class__" = some (some (.builtin "object.__class__")))
    (h6 : specialIn K (.builtin "object.__class__") "__get__" = some (some (.builtin "getset_descriptor.__get__")))
    (h7 : takesIn K (.builtin "object.__class__") = some true) (h8 : mroIn K D (.type "object") = some true)
    (X : K.In s.heap) (I : W.InstAt s.heap x ox D od) (h : Q (some (.ref D)) { s with toks := s.toks + 1 }) :
    wpAny (model prog w) A (getAttr? (.ref x) "__class__") Q E s := by
  have found : findObj K D od "__class__" = some (.bind (.builtin "getset_descriptor.__get__") (.builtin "object.__class__")) := by
    obtain ⟨cd, hc, _⟩ := any_some h4
    unfold findObj
    rw [hc, Option.bind_some, h5, Option.bind_some]
    simp [h6, h7]
  obtain ⟨hp, g, d, t, os⟩ := s
  have l0 := I.type (M := model prog w)
  have l1 := looks_findIn (M := model prog w) X h1
  have l2 := looks_findIn (M := model prog w) X h2
  have l3 := looks_find (M := model prog w) X I found
  have under : Looks (model prog w) hp (isInstance (.ref x) (.type "BaseException")) true :=
    l0.andThen (looks_subIn X h3)
  have n0 : (false && onTheHeap (Value.builtin "BaseException.__getattribute__")) = false := rfl
  have n2 : (Value.builtin "BaseException.__getattribute__" == Value.builtin "object.__getattribute__") = false := by
    decide +kernel
  have n1 : (onTheHeap (Value.ref D) &&
      Value.builtin "BaseException.__getattribute__" == Value.builtin "object.__getattribute__") = false := by
    rw [n2]
    rfl
  unfold getAttr? getAttrBy? getAttrBy
  refine wpAny_bind (wpAny_mkText (wpAny_bind (wpAny_attempt (wpAny_holding
    (wpAny_bind (l0.at (wpAny_bind (l1.at ?_))))))))
  show wpAny _ _ (if (onTheHeap (Value.ref D) &&
    Value.builtin "BaseException.__getattribute__" == Value.builtin "object.__getattribute__") = true then _ else _) _ _ _
  rw [n1, if_neg Bool.false_ne_true]
  unfold getAttrByItsOwn hookBefore
  refine wpAny_bind ?_
  rw [if_pos (show onTheHeap (Value.ref D) = true from rfl)]
  refine l2.at (wpAny_bind (wpAny_attempt (wpAny_holding ?_)))
  unfold callGetattribute
  rw [n0, if_neg Bool.false_ne_true]
  unfold boundAndCalled
  rw [PySem.F.excAttr_ValueError.ga.bind (.ref x)]
  refine wpAny_bind (wpAny_pure ?_)
  show wpAny _ _ (call (.builtin "BaseException.__getattribute__") [.ref x, .str "__class__" t]) _ _ _
  refine wpAny_call (codeAny_call_builtin PySem.F.excAttr_ValueError.ga.plain
    PySem.F.entry_bexc_ga ?_)
  refine @check_slot (model prog w) _ _ ⟨hp, g, d, t + 1, os⟩ "BaseException.__getattribute__" "BaseException"
    "__getattribute__" (.ref x) [.str "__class__" t] [] _ (by decide +kernel) (by decide +kernel) under
    (PySem.F.args_bexc_ga (.ref x) (.str "__class__" t)) ?_
  unfold Builtin.«object.__getattribute__»
  refine wpAny_bind (wpAny_of_eq (a := ((Value.ref x : Value), [Value.str "__class__" t]))
    (by first | rfl | (simp only [slotArgs]; rfl)) ?_)
  refine wpAny_bind (wpAny_pure (wpAny_bind (l0.at (wpAny_bind (l3.at ?_)))))
  show wpAny _ _ (holding [Value.builtin "object.__class__"]
    (call (.builtin "getset_descriptor.__get__") [.builtin "object.__class__", .ref x, .ref D]) >>= ret) _ _ _
  refine wpAny_bind (wpAny_holding (wpAny_call
    (class_get (s := ⟨hp, g, d, t + 1, os⟩) (ox := ox) (od := od) X I h8 ?_)))
  refine wpAny_pure ?_
  show wpAny _ _ (handedOut (.ref D)) _ _ _
  rw [handedOut_of (v := .ref D) rfl]
  first
    | exact wpAny_pure (wpAny_pure h)
    | exact wpAny_pure h
    | exact wpAny_pure (wpAny_bind (wpAny_pure (wpAny_pure h)))

theorem kit_exc
    (h1 : findIn K (.ref D) "__getattribute__" = some (some (.builtin "BaseException.__getattribute__")))
    (h2 : findIn K (.ref D) "__getattr__" = some none) (h3 : subIn K (.ref D) (.type "BaseException") = some true)
    (h4 : hasDictIn K D = true) (h5 : findIn K (.ref D) "__class__" = some (some (.builtin "object.__class__")))
    (h6 : specialIn K (.builtin "object.__class__") "__get__" = some (some (.builtin "getset_descriptor.__get__")))
    (h7 : takesIn K (.builtin "object.__class__") = some true) (h8 : mroIn K D (.type "object") = some true) :
    KitX K (.ref x) (.ref D) (fun h => ∃ ox od, W.InstAt h x ox D od) := by
  obtain ⟨cd, hcd, _⟩ := any_some h4
  have data : ∃ c' d' sl', K.lookup D = some ⟨c', d', .cls cd, sl'⟩ := by
    unfold clsIn at hcd
    split at hcd
    · rename_i c' d' cd' sl' ho
      cases hcd
      exact ⟨c', d', sl', ho⟩
    · cases hcd
  obtain ⟨c', d', sl', ho⟩ := data
  refine ⟨fun M h X I => ?_, fun M h X I => ?_, fun h tp dd its n sl X htp => ?_, fun X I k => ?_⟩
  · obtain ⟨ox, od, I⟩ := I
    exact I.type
  · intro A' Q' E' s' k q
    unfold isType loadHead
    exact wpAny_bind (wpAny_loadPart (k _ _ (X _ _ ho)) (wpAny_pure q))
  · refine Bool.eq_false_iff.mpr fun q => ?_
    have e : D = tp := Value.ref.inj (beq_iff_eq.mp q)
    subst e
    have z := (X _ _ ho).symm.trans htp
    cases z
  · obtain ⟨ox, od, I⟩ := I
    exact cls_asked h1 h2 h3 h4 h5 h6 h7 h8 X I k
end
end K0x
end PySem


set_option Elab.async false
set_option linter.all false
set_option maxRecDepth 100000
set_option maxHeartbeats 4000000
namespace K0
open PySem PySem.Spec PyProof.Rows L2

/-- a value's class, the instances of own exception classes among them -/
inductive TyE (K : PySem.W.Frag) (H : Hp) : V → Value → Prop where
  | base {x : V} {t : Value} (h : TyX K H x t) : TyE K H x t
  | err {a C : Addr} {d : Option Addr} (e : H a = some (exo a C d)) (hd : ∀ dd, d = some dd → ∃ o, H dd = some o) (T : ExcC K C) : TyE K H (.ref a) (.ref C)
  | err0 {a C : Addr} (e : H a = some (ExO (.ref C) a)) (T : ExcC K C) : TyE K H (.ref a) (.ref C)

section
variable {X : Cx} {pins : List (Addr × Obj)} {σ : L2.St} {H : Hp} {s : Shared}
theorem inst_exo {a C : Addr} {d : Option Addr} (I : Inv X pins σ H s) (e : H a = some (exo a C d)) (hd : ∀ dd, d = some dd → ∃ o, s.heap.get? dd = some o) :
    ∃ ox od, PySem.W.InstAt s.heap a ox C od := by
  obtain ⟨t1, ho⟩ := exo_at I.hok e
  cases d with
  | none => exact ⟨_, none, ho, rfl, rfl, trivial⟩
  | some dd =>
    obtain ⟨o, q⟩ := hd dd rfl
    exact ⟨_, some o, ho, rfl, rfl, q⟩
theorem obj_there {dd : Addr} {o : HO} (I : Inv X pins σ H s) (q : H dd = some o) : ∃ u, s.heap.get? dd = some u := by
  have hlt := (I.hok dd o q)
  cases o with
  | lst xs => obtain ⟨_, its, n, _, z⟩ := hlt; exact ⟨_, z⟩
  | tup xs => obtain ⟨_, its, _, o, z, _⟩ := hlt; exact ⟨_, z⟩
  | dK kvs => obtain ⟨_, _, vs, _, o, es, ep, z, _⟩ := hlt; exact ⟨_, z⟩
  | dT kvs => obtain ⟨_, _, vs, _, o, es, ep, z, _⟩ := hlt; exact ⟨_, z⟩
  | set S n => obtain ⟨o, _, _, _, z, _⟩ := hlt; exact ⟨_, z⟩
  | ins C' dx fs => obtain ⟨_, _, _, z, _⟩ := hlt; exact ⟨_, z⟩
  | own y => exact hlt
  | xd fs => obtain ⟨_, ⟨o, _, _, z, _⟩, _⟩ := hlt; exact ⟨_, z⟩
  | rng lo hi => obtain ⟨_, _, _, z⟩ := hlt; exact ⟨_, z⟩
  | frz o u => exact ⟨_, hlt.1⟩
  | tbl ps => exact ⟨_, hlt⟩
  | met f y => exact ⟨_, hlt⟩
  | ext φ => exact hlt.2.1
theorem kit_of' {x : V} {u t : Value} (I : Inv X pins σ H s) (rx : RelV x u) (ty : TyE X.K H x t) :
    ∃ P : Heap → Prop, PySem.W.KitX X.K u t P ∧ P s.heap ∧ u ≠ .builtin "__main__.__loader__#opaque" := by
  cases ty with
  | base h => exact kit_of I rx h
  | @err a C d e hd T =>
    cases rx
    refine ⟨_, PySem.K0x.kit_exc T.hg T.hk T.hs T.hd T.ha T.hn T.ht T.hm, ?_, fun z => nomatch z⟩
    refine inst_exo I e fun dd q => ?_
    obtain ⟨o, h⟩ := hd dd q
    exact obj_there I h
  | @err0 a C e T =>
    cases rx
    refine ⟨_, PySem.K0x.kit_exc T.hg T.hk T.hs T.hd T.ha T.hn T.ht T.hm, ?_, fun z => nomatch z⟩
    obtain ⟨⟨oe, vs, ho, hz, hv, _⟩, _, _⟩ := I.hok a _ e
    obtain ⟨oc, od, oda, osl⟩ := oe
    obtain ⟨z1, z2⟩ := hz
    dsimp only at z1 z2 hv
    subst z1 z2 hv
    exact ⟨_, none, ho, rfl, rfl, trivial⟩
end

def rIsA (K : PySem.W.Frag) : List V → Hp → VK → Prop := fun xs H Q => ∃ (x c : V) (t u : Value) (b : Bool),
  xs = [x, c] ∧ ClsV c u ∧ TyE K H x t ∧ PySem.W.kitOne K t u = some b ∧ Q (.bl b) H
def rIsT (K : PySem.W.Frag) : List V → Hp → VK → Prop := fun xs H Q => ∃ (x : V) (tp : Addr) (cs : List V) (t : Value) (us : List Value) (b : Bool),
  xs = [x, .ref tp] ∧ H tp = some (.tup cs) ∧ Paired ClsV cs us ∧ TyE K H x t ∧ PySem.W.kitAny K t us = some b ∧ Q (.bl b) H
section
variable {X : Cx}
theorem call_isA : CallR X (.builtin "isinstance") (rIsA X.K) := by
  intro pins s σ H xs us Q I r h
  obtain ⟨x, c, t, u, b, rfl, k, ty, e, q⟩ := h
  obtain ⟨u1, u2, rfl, r1, r2⟩ := vals2 r
  have e2 := k.eq r2
  subst e2
  obtain ⟨P, Z, p, hx⟩ := kit_of' I r1 ty
  exact PySem.W.kia_one Z I.kIn p e hx fun tk => ⟨.bl b, H, I.tok tk, rfl, q⟩
theorem call_isT : CallR X (.builtin "isinstance") (rIsT X.K) := by
  intro pins s σ H xs us Q I r h
  obtain ⟨x, tp, cs, t, ws, b, rfl, hT, k, ty, e, q⟩ := h
  obtain ⟨u1, u2, rfl, r1, r2⟩ := vals2 r
  cases (show u2 = Value.ref tp from r2)
  obtain ⟨P, Z, p, hx⟩ := kit_of' I r1 ty
  obtain ⟨_, its, rv, o, g1, g2, n, g3⟩ := I.hok tp _ hT
  have e3 := ClsV.all k rv
  subst e3
  obtain ⟨oc, od, dt, sl⟩ := o
  simp only at g2 g3
  subst g2 g3
  exact PySem.W.kia_tup Z I.kIn p g1 e hx fun tk => ⟨.bl b, H, I.tok tk, rfl, q⟩
end

/-! ### making an exception of an own class with an __init__ of its own -/
/-- C(e, ..) or C(k = v, ..) as a value; sp: what its __init__ promises -/
def tMkE (C : Addr) (sp : Sp) (g : List V → List V → List V) (t tk : TA) (n m : Nat) : TE := fun σ H Q => t σ H fun vs H1 => tk σ H1 fun zs H2 =>
  vs.length = n ∧ zs.length = m ∧ n ≤ 1000 ∧ ∀ a, H2 a = none → sp (g (.ref a :: vs) zs) (upd H2 a (exo a C none)) (fun v H3 => v = .non ∧ Q (.ref a) H3) E0
section
variable {X : Cx} {C fI : Addr} {k n : Nat} {fd : FuncData} {ps ks : List Str} {sp : Sp} {x : Str} {p pos : Pos} {e : Expr} {es : List Expr} {kws : List Keyword} {t tk : TA}
  {g : List Value → List Value → List Value} {gV : List V → List V → List V}
theorem run_mkE {pins : List (Addr × Obj)} {σ : L2.St} {H : Hp} {s : Shared} {Q : VK} {us ws : List Value} {vs zs : List V} (T : OexC X.K C)
    (iC : PySem.W.findIn X.K (.ref C) "__init__" = some (some (.ref fI))) (tI : PySem.W.typeIn X.K (.ref fI) = some (.type "function"))
    (F : FnOk X.prog X.w X.K X.mg X.base CX0 k fI fd ps sp) (hr : Room (k + 1) X.A) (hb : KBn X.K fd ps (n + 1) ks g gV)
    (I : Inv X pins σ H s) (r : Vals vs us) (rz : Vals zs ws) (l1 : vs.length = n) (l2 : zs.length = ks.length) (ln : n ≤ 1000)
    (h : ∀ a, H a = none → sp (gV (.ref a :: vs) zs) (upd H a (exo a C none)) (fun v H3 => v = .non ∧ Q (.ref a) H3) E0) :
    wpAny (model X.prog X.w) X.A (call (.ref C) us (ks.zip ws)) (EP X pins σ Q) X.xe s := by
  obtain ⟨nm, q, N, bs, bm, sn, sub, ab, col, dd, k0, k1, k2, k3, k5, hC, hbm⟩ := T.cls
  obtain ⟨hp, gg, dr, tk, os⟩ := s
  have hsz : hp.objs.size ≤ hp.objs.size + 1 := Nat.le_succ _
  have hq := h (hp.objs.size + 1) (I.hok.fresh hsz)
  have kk : ∀ b o, hp.get? b = some o →
      ((hp.push (PySem.W.kdv_tup us)).push (PySem.HandSPX.excO C hp.objs.size)).get? b = some o :=
    fun b o e => Heap.get?_push_of_some _ (Heap.get?_push_of_some _ e)
  have hget : ((hp.push (PySem.W.kdv_tup us)).push (PySem.HandSPX.excO C hp.objs.size)).get? (hp.objs.size + 1) =
      some (PySem.HandSPX.excO C hp.objs.size) := by
    heap_get
  have I2 : Inv X pins σ (upd H (hp.objs.size + 1) (exo (hp.objs.size + 1) C none))
      ⟨(hp.push (PySem.W.kdv_tup us)).push (PySem.HandSPX.excO C hp.objs.size), gg, dr, tk, os⟩ :=
    I.laid (t' := tk) (h' := (hp.push (PySem.W.kdv_tup us)).push (PySem.HandSPX.excO C hp.objs.size)) kk hsz (exo_ok hget)
  have ra : Vals (V.ref (hp.objs.size + 1) :: vs) (Value.ref (hp.objs.size + 1) :: us) := .cons rfl r
  have r2 := hb.rel ra rz
  have lu : us.length ≤ sizeLine := by
    have := Paired.length r
    rw [sizeLine_eq]
    omega
  have lu1 : (Value.ref (hp.objs.size + 1) :: us).length = n + 1 := by
    rw [List.length_cons, ← Paired.length r, l1]
  refine wpAny_call (PySem.K0x.call_kw PySem.F.excBase_ValueError (fun Y => PySem.HandSPX.refsVE_contains Y bm hbm) (I.kIn _ _ hC)
    (PySem.W.looks_findIn I.kIn iC) (fun self => PySem.W.bind_fn I.kIn self tI) lu
    (codeAny_mono (F.run _ X.stack _ _ ⟨Value.ref (hp.objs.size + 1) :: us, ks.zip ws⟩ _ _ _ E0 (hr.make C us (ks.zip ws))
      (I2.env0.make C us (ks.zip ws)) (hb.to _ _ ws I2.kIn lu1 ((Paired.length rz).symm.trans l2)) r2 hq) ?_))
  intro r' s' hq'
  cases r' with
  | error er => cases hq'
  | ok fl =>
    cases fl with
    | ret u =>
      obtain ⟨v, H3, I3, rv, ev, q3⟩ := I2.after hq'
      subst ev
      exact ⟨rv, V.ref (hp.objs.size + 1), H3, I3, rfl, q3⟩
    | next => cases hq'
    | brk => cases hq'
    | cont => cases hq'

/-- C(e, ..) -/
theorem pe_mkE (T : OexC X.K C)
    (iC : PySem.W.findIn X.K (.ref C) "__init__" = some (some (.ref fI))) (tI : PySem.W.typeIn X.K (.ref fI) = some (.type "function"))
    (F : FnOk X.prog X.w X.K X.mg X.base CX0 k fI fd ps sp) (hr : Room (k + 1) X.A) (hb : KBn X.K fd ps (n + 1) [] g gV)
    (hg : Gl X x) (hm : X.mg x = some (.ref C)) (ha : PA X (e :: es) t)
    (hdb : (x == ("__debug__" : Str)) = false := by decide)
    (he : starEach (e :: es) X.env = (false, eval e X.env) :: starEach es X.env := by rfl)
    (hpl : (backTo pos (starEach es X.env)).any (·.1) = false := by rfl) :
    PE X (.Call (.Name x p) (e :: es) [] pos) (tMkE C sp gV t tNil n 0) := by
  refine ⟨fun pins s σ H Q I h => wpAny_Call_Name_kw (ld_glob I hg hm ?_ hdb)⟩
  refine PySem.W.callWith_K (h₀ := X.base) I.ok.mod.kin T.kC
    (thn (ha.run pos pins s σ H _ I h) ?_) he hpl
  rintro us s1 ⟨vs, H1, I1, r, l1, _, ln, q⟩
  exact ⟨I1.kIn, run_mkE (ws := []) (zs := []) (ks := []) T iC tI F hr hb I1 r .nil l1 rfl ln q⟩
/-- C(k = v, ..) -/
theorem pe_mkEK (T : OexC X.K C)
    (iC : PySem.W.findIn X.K (.ref C) "__init__" = some (some (.ref fI))) (tI : PySem.W.typeIn X.K (.ref fI) = some (.type "function"))
    (F : FnOk X.prog X.w X.K X.mg X.base CX0 k fI fd ps sp) (hr : Room (k + 1) X.A) (hb : KBn X.K fd ps 1 ks g gV)
    (hg : Gl X x) (hm : X.mg x = some (.ref C)) (hkw : PK X kws tk)
    (hall : (backToKw pos (keywordEach kws X.env)).all (·.1.isSome) = true := by rfl)
    (hks : (backToKw pos (keywordEach kws X.env)).filterMap (·.1) = ks := by rfl)
    (hdb : (x == ("__debug__" : Str)) = false := by decide)
    (hpl : ((backTo pos (starEach [] X.env)).any (·.1) || (backToKw pos (keywordEach kws X.env)).any (·.1.isNone)) = false := by rfl) :
    PE X (.Call (.Name x p) [] kws pos) (tMkE C sp gV tNil tk 0 ks.length) := by
  refine ⟨fun pins s σ H Q I h => wpAny_Call_Name_kw (ld_glob I hg hm ?_ hdb)⟩
  refine PySem.W.callWith_KW0 (h₀ := X.base) I.ok.mod.kin T.kC hall
    (thn (hkw.run pos pins s σ H _ I h) ?_) hpl
  rintro ws s2 ⟨zs, H2, I2, rz, l1, l2, ln, q2⟩
  refine ⟨I2.kIn, ?_⟩
  rw [hks]
  exact run_mkE (us := []) (vs := []) T iC tI F hr hb I2 .nil rz rfl l2 ln q2
/-- f(k = v, ..) of a def, no value by place -/
theorem pe_kw0 {f : Addr} (F : FnOk X.prog X.w X.K X.mg X.base CX0 k f fd ps sp) (hr : Room k X.A) (hg : Gl X x) (hm : X.mg x = some (.ref f))
    (hk : PySem.W.keepIn X.K (.ref f) = true) (hb : KBn X.K fd ps 0 ks g gV) (hkw : PK X kws tk)
    (hall : (backToKw pos (keywordEach kws X.env)).all (·.1.isSome) = true := by rfl)
    (hks : (backToKw pos (keywordEach kws X.env)).filterMap (·.1) = ks := by rfl)
    (hdb : (x == ("__debug__" : Str)) = false := by decide)
    (hpl : ((backTo pos (starEach [] X.env)).any (·.1) || (backToKw pos (keywordEach kws X.env)).any (·.1.isNone)) = false := by rfl) :
    PE X (.Call (.Name x p) [] kws pos) (fun σ H Q => tk σ H fun zs H1 => zs.length = ks.length ∧ sp (gV [] zs) H1 Q E0) := by
  refine ⟨fun pins s σ H Q I h => wpAny_Call_Name_kw (ld_glob I hg hm ?_ hdb)⟩
  refine PySem.W.callWith_KW0 (h₀ := X.base) I.ok.mod.kin hk hall
    (thn (hkw.run pos pins s σ H _ I h) ?_) hpl
  rintro ws s2 ⟨zs, H2, I2, rz, l2, q2⟩
  refine ⟨I2.kIn, ?_⟩
  rw [hks]
  exact run_fnN (us := []) (vs := []) F hr hb pass0 I2 .nil rz rfl l2 q2
/-- e.f, e an exception that is held as a value -/
theorem pe_fldE {te : TE} {f : Str} {pos : Pos} {o : Expr} (he : PE X o te) (hb : attributeBase o f X.env (eval o X.env) = eval o X.env := by rfl) :
    PE X (.Attribute o f pos) (fun σ H Q => te σ H fun y H1 => ∃ (a C d : Addr) (fs : List (Str × V)) (v : V), y = .ref a ∧ H1 a = some (exo a C (some d)) ∧ H1 d = some (exd d fs) ∧
      XfC X.K C ∧ PySem.W.findIn X.K (.ref C) f = some none ∧ fs.lookup f = some v ∧ Q v H1) := by
  refine ⟨fun pins s σ H Q I h => attr_of hb (thn (he.run pins s σ H _ I h) ?_)⟩
  rintro u s1 ⟨y, H1, I1, rx, a, C, d, fs, v, rfl, ea, ed, T, hno, l, q⟩
  obtain rfl : u = Value.ref a := rx
  obtain ⟨t1, ho⟩ := exo_at I1.hok ea
  obtain ⟨mA, hns, hr⟩ := exd_at I1.hok ed
  obtain ⟨od, hod, hl⟩ := lookIn_ns hns
  obtain ⟨u, hu, ru⟩ := RelO.some_of (v := v) (o := mA f) (by rw [← l]; exact hr f)
  have J : PySem.W.InstAt s1.heap a _ C (some od) := ⟨ho, rfl, rfl, hod⟩
  exact HandSPX.exc_get I1.kIn J T.ga T.gg T.exC
    (PySem.W.findObj_own T.hdC hno rfl (by rw [hl, hu])) (handed_of ru) ⟨v, H1, I1.tok _, ru, q⟩
end
end K0


set_option Elab.async false
set_option linter.all false
set_option maxRecDepth 100000
set_option maxHeartbeats 4000000
namespace K0
open PySem PySem.Spec PyProof.Rows L2

/-! ### defs, bundled -/
/-- the def x of the module stands at f and keeps sp -/
structure Dn (P : Program) (w : World) (K : PySem.W.Frag) (mg : Str → Option Value) (base : Heap) (k : Nat) (x : Str) (f : Addr) (ps : List Str) (sp : Sp) : Prop where
  ex : ∃ fd, FnOk P w K mg base CX0 k f fd ps sp ∧ Binds K fd ps []
  mg : mg x = some (.ref f)
  kp : PySem.W.keepIn K (.ref f) = true
/-- .. and what is bound where keywords ks are given -/
structure DnK (P : Program) (w : World) (K : PySem.W.Frag) (mg : Str → Option Value) (base : Heap) (k : Nat) (x : Str) (f : Addr) (ps ks : List Str) (gV : List V → List V → List V) (sp : Sp) : Prop where
  ex : ∃ fd g, FnOk P w K mg base CX0 k f fd ps sp ∧ KBn K fd ps 0 ks g gV
  mg : mg x = some (.ref f)
  kp : PySem.W.keepIn K (.ref f) = true
structure DnG (P : Program) (w : World) (K : PySem.W.Frag) (mg : Str → Option Value) (base : Heap) (k : Nat) (x : Str) (f : Addr) (ps : List Str) (sp : Sp) : Prop where
  ex : ∃ fd, FnG P w K mg base k f fd ps sp ∧ Binds K fd ps []
  mg : mg x = some (.ref f)
  kp : PySem.W.keepIn K (.ref f) = true
section
variable {X : Cx} {k : Nat} {f : Addr} {ps ks : List Str} {sp : Sp} {x : Str} {p pos : Pos} {e : Expr} {es : List Expr} {kws : List Keyword} {t tk : TA} {gV : List V → List V → List V}
def tDn (sp : Sp) (t : TA) : TE := fun σ H Q => t σ H fun vs H1 => sp vs H1 Q E0
theorem pe_dn (D : Dn X.prog X.w X.K X.mg X.base k x f ps sp) (hr : Room k X.A) (hg : Gl X x) (ha : PA X (e :: es) t)
    (hdb : (x == ("__debug__" : Str)) = false := by decide)
    (he : starEach (e :: es) X.env = (false, eval e X.env) :: starEach es X.env := by rfl)
    (hpl : (backTo pos (starEach es X.env)).any (·.1) = false := by rfl) :
    PE X (.Call (.Name x p) (e :: es) [] pos) (tDn sp t) := by
  obtain ⟨⟨fd, F, B⟩, m, kp⟩ := D
  have h := pe_call (p := p) F hr hg m kp B .nil pass0 ha hdb he hpl
  refine ⟨fun pins s σ H Q I q => h.run pins s σ H Q I ?_⟩
  have e1 : tCall sp [] E0 t σ H Q = tDn sp t σ H Q := by
    show t σ H (fun vs H1 => sp (vs ++ []) H1 Q E0) = _
    simp only [List.append_nil]
    rfl
  rw [e1]
  exact q
theorem pe_dk (D : DnK X.prog X.w X.K X.mg X.base k x f ps ks gV sp) (hr : Room k X.A) (hg : Gl X x) (hkw : PK X kws tk)
    (hall : (backToKw pos (keywordEach kws X.env)).all (·.1.isSome) = true := by rfl)
    (hks : (backToKw pos (keywordEach kws X.env)).filterMap (·.1) = ks := by rfl)
    (hdb : (x == ("__debug__" : Str)) = false := by decide)
    (hpl : ((backTo pos (starEach [] X.env)).any (·.1) || (backToKw pos (keywordEach kws X.env)).any (·.1.isNone)) = false := by rfl) :
    PE X (.Call (.Name x p) [] kws pos) (fun σ H Q => tk σ H fun zs H1 => zs.length = ks.length ∧ sp (gV [] zs) H1 Q E0) := by
  obtain ⟨⟨fd, g, F, B⟩, m, kp⟩ := D
  exact pe_kw0 F hr hg m kp B hkw hall hks hdb hpl
theorem pe_dg (D : DnG X.prog X.w X.K X.mg X.base k x f ps sp) (hG : X.A.guards = some []) (hr : Room k X.A) (hg : Gl X x) (ha : PA X (e :: es) t)
    (hdb : (x == ("__debug__" : Str)) = false := by decide)
    (he : starEach (e :: es) X.env = (false, eval e X.env) :: starEach es X.env := by rfl)
    (hpl : (backTo pos (starEach es X.env)).any (·.1) = false := by rfl) :
    PE X (.Call (.Name x p) (e :: es) [] pos) (tDn sp t) := by
  obtain ⟨⟨fd, F, B⟩, m, kp⟩ := D
  exact pe_callG F hG hr hg m kp B ha hdb he hpl
end

/-! ### exceptions, bundled -/
/-- an exception of the class at C with these fields stands at a -/
def ErrAt (H : Hp) (a C : Addr) (fs : List (Str × V)) : Prop := ∃ d, H a = some (exo a C (some d)) ∧ H d = some (exd d fs)
theorem ErrAt.same {H H' : Hp} {a C : Addr} {fs : List (Str × V)} (h : ErrAt H a C fs) (s : Same H H') : ErrAt H' a C fs := by
  obtain ⟨d, h1, h2⟩ := h
  exact ⟨d, s _ _ h1, s _ _ h2⟩
/-- what __init__ promises: the fields named are stored -/
def spI (C : Addr) (n : Nat) (fs : List V → List (Str × V)) : Sp := fun vs H Q _ => ∃ (a : Addr) (ws : List V), vs = .ref a :: ws ∧ ws.length = n ∧ H a = some (exo a C none) ∧
  ∀ (d : Addr) (H' : Hp), H d = none → d ≠ a → H' a = some (exo a C (some d)) → H' d = some (exd d (fs ws)) → (∀ b o, b ≠ a → H b = some o → H' b = some o) → Q .non H'
/-- the class x of the module stands at C; its maker binds by place, and by the keywords ks -/
structure Ec (P : Program) (w : World) (K : PySem.W.Frag) (mg : Str → Option Value) (base : Heap) (x : Str) (C : Addr) (n : Nat) (ks : List Str) (gV : List V → List V) (fs : List V → List (Str × V)) : Prop where
  ox : OexC K C
  xf : XfC K C
  ec : ExcC K C
  ex : ∃ fI fd ps g1 g2, PySem.W.findIn K (.ref C) "__init__" = some (some (.ref fI)) ∧ PySem.W.typeIn K (.ref fI) = some (.type "function") ∧ FnOk P w K mg base CX0 1 fI fd ps (spI C n fs) ∧
    KBn K fd ps (n + 1) [] g1 (fun vs _ => vs) ∧ KBn K fd ps 1 ks g2 (fun vs zs => vs ++ gV zs)
  len : ∀ zs : List V, zs.length = ks.length → (gV zs).length = n
  nk : n ≤ 1000
  mg : mg x = some (.ref C)
  no : ∀ ws : List V, ws.length = n → ∀ q ∈ fs ws, PySem.W.findIn K (.ref C) q.1 = some none
section
variable {X : Cx} {C : Addr} {n : Nat} {ks : List Str} {x : Str} {p pos : Pos} {e : Expr} {es : List Expr} {kws : List Keyword} {t tk : TA} {gV : List V → List V} {fs : List V → List (Str × V)}
/-- the reading of C(e, ..) -/
def tEc (C : Addr) (n : Nat) (fs : List V → List (Str × V)) (t : TA) : TE := fun σ H Q => t σ H fun vs H1 => vs.length = n ∧
  ∀ (a : Addr) (H2 : Hp), H1 a = none → ErrAt H2 a C (fs vs) → Same H1 H2 → Q (.ref a) H2
theorem ini_way {H1 : Hp} {Q : VK} {ws : List V} (hl : ws.length = n) (h : ∀ (a : Addr) (H2 : Hp), H1 a = none → ErrAt H2 a C (fs ws) → Same H1 H2 → Q (.ref a) H2) :
    ∀ a, H1 a = none → spI C n fs (.ref a :: ws) (upd H1 a (exo a C none)) (fun v H3 => v = .non ∧ Q (.ref a) H3) E0 := by
  intro a ha
  refine ⟨a, ws, rfl, hl, upd_same, fun d H' hd hda h1 h2 hk => ⟨rfl, h a H' ha ⟨d, h1, h2⟩ fun b o hb => ?_⟩⟩
  have hba : b ≠ a := ne_of_none hb ha
  exact hk b o hba (by rw [upd_ne hba]; exact hb)
theorem pe_ec (D : Ec X.prog X.w X.K X.mg X.base x C n ks gV fs) (hr : Room 2 X.A) (hg : Gl X x) (ha : PA X (e :: es) t)
    (hdb : (x == ("__debug__" : Str)) = false := by decide)
    (he : starEach (e :: es) X.env = (false, eval e X.env) :: starEach es X.env := by rfl)
    (hpl : (backTo pos (starEach es X.env)).any (·.1) = false := by rfl) :
    PE X (.Call (.Name x p) (e :: es) [] pos) (tEc C n fs t) := by
  obtain ⟨fI, fd, ps, g1, g2, h1, h2, F, b1, b2⟩ := D.ex
  refine ⟨fun pins s σ H Q I q => wpAny_Call_Name_kw (ld_glob I hg D.mg ?_ hdb)⟩
  refine PySem.W.callWith_K (h₀ := X.base) I.ok.mod.kin D.ox.kC
    (thn (ha.run pos pins s σ H _ I q) ?_) he hpl
  rintro us s1 ⟨vs, H1, I1, r, l1, q1⟩
  exact ⟨I1.kIn, run_mkE (ws := []) (zs := []) (ks := []) D.ox h1 h2 F hr b1 I1 r .nil l1 rfl D.nk (ini_way l1 q1)⟩
theorem pe_eck (D : Ec X.prog X.w X.K X.mg X.base x C n ks gV fs) (hr : Room 2 X.A) (hg : Gl X x) (hkw : PK X kws tk)
    (hall : (backToKw pos (keywordEach kws X.env)).all (·.1.isSome) = true := by rfl)
    (hks : (backToKw pos (keywordEach kws X.env)).filterMap (·.1) = ks := by rfl)
    (hdb : (x == ("__debug__" : Str)) = false := by decide)
    (hpl : ((backTo pos (starEach [] X.env)).any (·.1) || (backToKw pos (keywordEach kws X.env)).any (·.1.isNone)) = false := by rfl) :
    PE X (.Call (.Name x p) [] kws pos) (fun σ H Q => tk σ H fun zs H1 => zs.length = ks.length ∧
      ∀ (a : Addr) (H2 : Hp), H1 a = none → ErrAt H2 a C (fs (gV zs)) → Same H1 H2 → Q (.ref a) H2) := by
  obtain ⟨fI, fd, ps, g1, g2, h1, h2, F, b1, b2⟩ := D.ex
  refine ⟨fun pins s σ H Q I h => wpAny_Call_Name_kw (ld_glob I hg D.mg ?_ hdb)⟩
  refine PySem.W.callWith_KW0 (h₀ := X.base) I.ok.mod.kin D.ox.kC hall
    (thn (hkw.run pos pins s σ H _ I h) ?_) hpl
  rintro ws s2 ⟨zs, H2, I2, rz, l2, q2⟩
  refine ⟨I2.kIn, ?_⟩
  rw [hks]
  exact run_mkE (us := []) (vs := []) (n := 0) D.ox h1 h2 F hr b2 I2 .nil rz rfl l2 (Nat.zero_le _) (ini_way (D.len zs l2) q2)
/-- e.f of such an exception -/
theorem fld_err {K : PySem.W.Frag} {H : Hp} {a : Addr} {f : Str} {v : V} {ws : List V} {Q : VK} {P : Program} {w : World} {mg : Str → Option Value} {base : Heap} (D : Ec P w K mg base x C n ks gV fs) (h : ErrAt H a C (fs ws)) (hn : ws.length = n)
    (hl : (fs ws).lookup f = some v) (q : Q v H) :
    ∃ (b C' d : Addr) (fs' : List (Str × V)) (v' : V), V.ref a = .ref b ∧ H b = some (exo b C' (some d)) ∧ H d = some (exd d fs') ∧
      XfC K C' ∧ PySem.W.findIn K (.ref C') f = some none ∧ fs'.lookup f = some v' ∧ Q v' H := by
  obtain ⟨d, h1, h2⟩ := h
  refine ⟨a, C, d, fs ws, v, rfl, h1, h2, D.xf, ?_, hl, q⟩
  have key : ∀ (l : List (Str × V)), l.lookup f = some v → ∃ q ∈ l, q.1 = f := by
    intro l
    induction l with
    | nil => intro h; cases h
    | cons p l ih =>
      intro h
      obtain ⟨f', z⟩ := p
      rw [lookup_put] at h
      by_cases e : f = f'
      · exact ⟨_, List.mem_cons_self, e.symm⟩
      · rw [if_neg e] at h
        obtain ⟨q, hq, hf⟩ := ih h
        exact ⟨q, List.mem_cons_of_mem _ hq, hf⟩
  obtain ⟨q', hq, hf⟩ := key _ hl
  rw [← hf]
  exact D.no ws hn q' hq
end
end K0


set_option Elab.async false
set_option linter.all false
set_option maxRecDepth 100000
set_option maxHeartbeats 4000000
namespace K0
open PySem PySem.Spec PyProof.Rows L2

def topS (i : Nat) : Stmt := PySem.Challenge.pw_spindleway_k04_planes_through_points.main.body.getD i (.Pass ⟨0, 0, 0, 0⟩)
abbrev st_divisor_of : Stmt := topS 2
abbrev st_reduced : Stmt := topS 3
abbrev st_product_of : Stmt := topS 4
abbrev st_unit_rows : Stmt := topS 5
abbrev st_narrowed : Stmt := topS 6
abbrev st_without : Stmt := topS 7
abbrev st_lifted_point : Stmt := topS 8
abbrev st_is_integer : Stmt := topS 14
abbrev st_is_within : Stmt := topS 15
abbrev st_is_list : Stmt := topS 16
abbrev st_are_integers : Stmt := topS 17
abbrev st_is_point : Stmt := topS 18
abbrev st_are_points : Stmt := topS 19
abbrev st_plane_through : Stmt := topS 22
abbrev st_plane_of : Stmt := topS 23
abbrev st__law_loom : Stmt := topS 25
abbrev st__law_thread : Stmt := topS 26
abbrev st__law_one_of : Stmt := topS 27
abbrev st__law_number : Stmt := topS 28
abbrev st__law_points : Stmt := topS 29
abbrev st__law_determinant : Stmt := topS 30
abbrev st__law_divisor : Stmt := topS 31
abbrev st__law_plane : Stmt := topS 32
abbrev st__law_is_integer : Stmt := topS 33
abbrev st__law_are_points : Stmt := topS 34
abbrev st__law_bent : Stmt := topS 35
abbrev st__law_raised : Stmt := topS 36
abbrev st__law_right : Stmt := topS 37
abbrev st_law : Stmt := topS 38

/-- names of the module that are the built-ins still -/
structure Nm (mg : Str → Option Value) : Prop where
  n_isinstance : mg "isinstance" = none
  n_int : mg "int" = none
  n_bool : mg "bool" = none
  n_list : mg "list" = none
  n_tuple : mg "tuple" = none
  n_len : mg "len" = none
  n_all : mg "all" = none
  n_abs : mg "abs" = none
  n_repr : mg "repr" = none
  n_range : mg "range" = none
  n_enumerate : mg "enumerate" = none
  n_zip : mg "zip" = none
  n_sum : mg "sum" = none
  m_gcd : mg "gcd" = some (.builtin "math.gcd")
  c_MOST_DIMENSION : ∃ t, mg "MOST_DIMENSION" = some (.int 6 t)
/-! ### kinds of values -/
def isI : V → Bool
  | .int _ => true
  | _ => false
/-- what isinstance tells of v: of int, of bool, of list and tuple -/
def Asks (K : PySem.W.Frag) (H : Hp) (v : V) (q : Bool) : Prop := ∃ (t : Value) (i b : Bool), TyE K H v t ∧
  PySem.W.kitOne K t (.type "int") = some i ∧ PySem.W.kitOne K t (.type "bool") = some b ∧ (i && !b) = isI v ∧
  PySem.W.kitAny K t [.type "list", .type "tuple"] = some q
section
variable {K : PySem.W.Frag} {H : Hp}
theorem any2 {t : Value} {b1 b2 : Bool} (h1 : PySem.W.kitOne K t (.type "list") = some b1) (h2 : PySem.W.kitOne K t (.type "tuple") = some b2) :
    PySem.W.kitAny K t [.type "list", .type "tuple"] = some (b1 || b2) :=
  kitAny_cons h1 (fun e => by
    subst e
    exact kitAny_cons h2 (fun e => by subst e; exact kitAny_nil) (fun e => by subst e; rfl)) (fun e => by subst e; rfl)
theorem Asks.int (n : Int) : Asks K H (.int n) false :=
  ⟨.type "int", true, false, .base (.base (.int n)), kit_ty (by decide +kernel), kit_ty (by decide +kernel), rfl,
    any2 (kit_ty (r := false) (by decide +kernel)) (kit_ty (r := false) (by decide +kernel))⟩
theorem Asks.bl (b : Bool) : Asks K H (.bl b) false :=
  ⟨.type "bool", true, true, .base (.base (.bl b)), kit_ty (by decide +kernel), kit_ty (by decide +kernel), rfl,
    any2 (kit_ty (r := false) (by decide +kernel)) (kit_ty (r := false) (by decide +kernel))⟩
theorem Asks.non : Asks K H .non false :=
  ⟨.type "NoneType", false, false, .base (.base .non), kit_ty (by decide +kernel), kit_ty (by decide +kernel), rfl,
    any2 (kit_ty (r := false) (by decide +kernel)) (kit_ty (r := false) (by decide +kernel))⟩
theorem Asks.str (x : Str) : Asks K H (.str x) false :=
  ⟨.type "str", false, false, .base (.base (.str x)), kit_ty (by decide +kernel), kit_ty (by decide +kernel), rfl,
    any2 (kit_ty (r := false) (by decide +kernel)) (kit_ty (r := false) (by decide +kernel))⟩
theorem Asks.lst {a : Addr} {xs : List V} (h : H a = some (.lst xs)) : Asks K H (.ref a) true :=
  ⟨.type "list", false, false, .base (.base (.lst h)), kit_ty (by decide +kernel), kit_ty (by decide +kernel), rfl,
    any2 (kit_ty (r := true) (by decide +kernel)) (kit_ty (r := false) (by decide +kernel))⟩
theorem Asks.tup {a : Addr} {xs : List V} (h : H a = some (.tup xs)) : Asks K H (.ref a) true :=
  ⟨.type "tuple", false, false, .base (.base (.tup h)), kit_ty (by decide +kernel), kit_ty (by decide +kernel), rfl,
    any2 (kit_ty (r := false) (by decide +kernel)) (kit_ty (r := true) (by decide +kernel))⟩
theorem Asks.dict {a : Addr} {kvs : List (Key × V)} (h : H a = some (.dK kvs)) : Asks K H (.ref a) false :=
  ⟨.type "dict", false, false, .base (.base (.dK h)), kit_ty (by decide +kernel), kit_ty (by decide +kernel), rfl,
    any2 (kit_ty (r := false) (by decide +kernel)) (kit_ty (r := false) (by decide +kernel))⟩
/-- what an own class of errors, at C, tells of its instances -/
structure KindsC (K : PySem.W.Frag) (C : Addr) : Prop where
  ki : PySem.W.kitOne K (.ref C) (.type "int") = some false
  kb : PySem.W.kitOne K (.ref C) (.type "bool") = some false
  kl : PySem.W.kitOne K (.ref C) (.type "list") = some false
  kt : PySem.W.kitOne K (.ref C) (.type "tuple") = some false
theorem Asks.err0 {a C : Addr} (h : H a = some (ExO (.ref C) a)) (T : ExcC K C) (k : KindsC K C) : Asks K H (.ref a) false :=
  ⟨.ref C, false, false, .err0 h T, k.ki, k.kb, rfl, any2 k.kl k.kt⟩
end
theorem pe_tyn {X : Cx} {x : Str} {pos : Pos} (n : String) (hg : Gl X x) (hm : X.mg x = none) (hv : bootBuiltins x = some (.type n)) (hn : x ≠ "__name__" := by decide)
    (hd : (x == ("__debug__" : Str)) = false := by decide) : PE X (.Name x pos) (tC (.ty n)) := pe_bltn hg hm hv rfl hn hd
end K0


set_option Elab.async false
set_option linter.all false
set_option maxRecDepth 100000
set_option maxHeartbeats 4000000
namespace K0
open PySem PySem.Spec PyProof.Rows L2

theorem TyOf.same {K : PySem.W.Frag} {H H' : Hp} {v : V} {t : Value} (s : Same H H') (h : TyOf K H v t) : TyOf K H' v t := by
  cases h with
  | non => exact .non
  | bl x => exact .bl x
  | int i => exact .int i
  | str x => exact .str x
  | flt x => exact .flt x
  | lst e => exact .lst (s _ _ e)
  | frz e => exact .frz (s _ _ e)
  | tup e => exact .tup (s _ _ e)
  | dK e => exact .dK (s _ _ e)
  | dT e => exact .dT (s _ _ e)
  | ins e cl ha hn htk hm => exact .ins (s _ _ e) cl ha hn htk hm
theorem TyX.same {K : PySem.W.Frag} {H H' : Hp} {v : V} {t : Value} (s : Same H H') (h : TyX K H v t) : TyX K H' v t := by
  cases h with
  | base h => exact .base (TyOf.same s h)
  | byt b => exact .byt b
  | set e => exact .set (s _ _ e)
  | kList e c => exact .kList e c
  | kTuple e c => exact .kTuple e c
  | kDict e c => exact .kDict e c
  | fTuple e => exact .fTuple (s _ _ e)
  | fDict e => exact .fDict (s _ _ e)
theorem TyE.same {K : PySem.W.Frag} {H H' : Hp} {v : V} {t : Value} (s : Same H H') (h : TyE K H v t) : TyE K H' v t := by
  cases h with
  | base h => exact .base (TyX.same s h)
  | err e hd T => exact .err (s _ _ e) (fun dd q => let ⟨o, z⟩ := hd dd q; ⟨o, s _ _ z⟩) T
  | err0 e T => exact .err0 (s _ _ e) T
theorem Asks.same {K : PySem.W.Frag} {H H' : Hp} {v : V} {q : Bool} (s : Same H H') (h : Asks K H v q) : Asks K H' v q := by
  obtain ⟨t, i, b, ty, r⟩ := h
  exact ⟨t, i, b, ty.same s, r⟩

/-! ### is_integer, is_within -/
def spIsInt (K : PySem.W.Frag) : Sp := fun vs H Q _ => ∃ (v : V) (q : Bool), vs = [v] ∧ Asks K H v q ∧ ∀ H', Same H H' → Q (.bl (isI v)) H'
def leB : V → Int → Bool
  | .int k, n => decide (k ≤ n)
  | _, _ => true
def geB : V → Int → Bool
  | .int k, n => decide (n ≤ k)
  | _, _ => true
/-- whether v is an integer from l to m -/
def within : V → V → V → Bool
  | .int n, l, m => leB l n && geB m n
  | _, _, _ => false
def Bd (l : V) : Prop := l = .non ∨ ∃ k, l = .int k
def spWithin (K : PySem.W.Frag) : Sp := fun vs H Q _ => ∃ (v l m : V) (q : Bool), vs = [v, l, m] ∧ Asks K H v q ∧ Bd l ∧ Bd m ∧ ∀ H', Same H H' → Q (.bl (within v l m)) H'

section
variable {P : Program} {w : World} {K : PySem.W.Frag} {mg : Str → Option Value} {base : Heap} {f g : Addr} {fd : FuncData}
theorem sc_is_integer : FnScope ["value"] ["value"] (defScope st_is_integer) := ⟨rfl, rfl, rfl, by decide +kernel, rfl, by decide +kernel, by decide +kernel⟩
theorem ok_is_integer (F : Fun K "is_integer" "is_integer" st_is_integer f fd) (T : Nm mg) : FnOk P w K mg base CX0 1 f fd ["value"] (spIsInt K) := by
  refine F.ok sc_is_integer (fun vs H Q E h => ?_) (fun cdv A outer s H vs Q E hr h => ?_)
  · obtain ⟨v, q, rfl, _⟩ := h
    rfl
  · obtain ⟨v, q, rfl, ⟨t, i, b, ty, hi, hb, hib, _⟩, k⟩ := h
    refine ⟨_, (pss_one (ps_ret (pe_and (pe_callB call_isA (by rfl) T.n_isinstance (by decide +kernel) (pa_cons (pv 0) (pa_cons (pe_tyn "int" (by rfl) T.n_int (by decide +kernel)) pa_nil))) (pe_one (pe_not (pe_callB call_isA (by rfl) T.n_isinstance (by decide +kernel) (pa_cons (pv 0) (pa_cons (pe_tyn "bool" (by rfl) T.n_bool (by decide +kernel)) pa_nil)))))))), ?_⟩
    refine ⟨_, rfl, v, .ty "int", t, .type "int", i, rfl, .ty _, ty, hi, i, rfl, ?_⟩
    cases i with
    | false =>
      refine iteF ?_
      have e : isI v = false := hib.symm
      rw [← e]
      exact k H (Same.refl H)
    | true =>
      refine iteT ?_
      refine ⟨_, rfl, v, .ty "bool", t, .type "bool", b, rfl, .ty _, ty, hb, b, rfl, ?_⟩
      have e : isI v = !b := hib.symm
      rw [← e]
      exact k H (Same.refl H)
theorem sc_is_within : FnScope ["value", "least", "most"] ["value", "least", "most"] (defScope st_is_within) := ⟨rfl, rfl, rfl, by decide +kernel, rfl, by decide +kernel, by decide +kernel⟩
theorem ok_is_within (F : Fun K "is_within" "is_within" st_is_within f fd) (T : Nm mg) (D_is_integer : Dn P w K mg base 1 "is_integer" g ["value"] (spIsInt K)) :
    FnOk P w K mg base CX0 2 f fd ["value", "least", "most"] (spWithin K) := by
  refine F.ok sc_is_within (fun vs H Q E h => ?_) (fun cdv A outer s H vs Q E hr h => ?_)
  · obtain ⟨v, l, m, q, rfl, _⟩ := h
    rfl
  · obtain ⟨v, l, m, q, rfl, av, bl, bm, k⟩ := h
    refine ⟨_, (pss_cons (ps_if (pt_not (pt_val (pe_dn D_is_integer (hr.mono (by decide)) rfl (pa_cons (pv 0) pa_nil)))) (pss_one (ps_ret pe_bl)) pss_nil)
    (pss_one (ps_ret (pe_and (pe_or (pe_cmp (pc_isN (pv 1)) rfl) (pe_one (pe_cmpR op_le (pv 1) (pv 0) (nomark _)))) (pe_one (pe_or (pe_cmp (pc_isN (pv 2)) rfl) (pe_one (pe_cmpR op_le (pv 0) (pv 2) (nomark _))))))))), ?_⟩
    refine ⟨_, rfl, v, q, rfl, av, fun H1 s1 => ⟨_, rfl, ?_⟩⟩
    cases v with
    | int n =>
      refine iteF ?_
      have low : ∀ R : VK, R (.bl (leB l n)) H1 → (tOrV (tIsN (tVar 1)) (tOp (rI0 fun i j => .bl (decide (i ≤ j))) (tVar 1) (tVar 0))) [some (.int n), some l, some m] H1 R := by
        intro R hR
        refine ⟨l, rfl, _, rfl, ?_⟩
        rcases bl with rfl | ⟨k1, rfl⟩
        · exact iteT hR
        · exact iteF ⟨_, rfl, _, rfl, _, _, rfl, rfl, hR⟩
      have high : ∀ R : VK, R (.bl (geB m n)) H1 → (tOrV (tIsN (tVar 2)) (tOp (rI0 fun i j => .bl (decide (i ≤ j))) (tVar 0) (tVar 2))) [some (.int n), some l, some m] H1 R := by
        intro R hR
        refine ⟨m, rfl, _, rfl, ?_⟩
        rcases bm with rfl | ⟨k1, rfl⟩
        · exact iteT hR
        · exact iteF ⟨_, rfl, _, rfl, _, _, rfl, rfl, hR⟩
      refine low _ ⟨_, rfl, ?_⟩
      have hk : Q (.bl (leB l n && geB m n)) H1 := k H1 s1
      cases e : leB l n with
      | false =>
        rw [e] at hk
        exact iteF hk
      | true =>
        rw [e] at hk
        exact iteT (high _ hk)
    | non => exact iteT (k H1 s1)
    | bl b => exact iteT (k H1 s1)
    | str x => exact iteT (k H1 s1)
    | byt x => exact iteT (k H1 s1)
    | flt x => exact iteT (k H1 s1)
    | ref x => exact iteT (k H1 s1)
    | ty x => exact iteT (k H1 s1)
end
end K0


set_option Elab.async false
set_option linter.all false
set_option maxRecDepth 100000
set_option maxHeartbeats 4000000
namespace K0
open PySem PySem.Spec PyProof.Rows L2

theorem same_upd {H : Hp} {p : Addr} {o : HO} (h : H p = none) : Same H (upd H p o) := fun b u e => by
  rw [upd_ne (ne_of_none e h)]
  exact e
theorem same_at {H : Hp} {p : Addr} {o o' : HO} (h : H p = some o) {H0 : Hp} (s : Same H0 H) (hn : H0 p = none) : Same H0 (upd H p o') := fun b u e => by
  rw [upd_ne (ne_of_none e hn)]
  exact s b u e
theorem same_sqT {K : PySem.W.Frag} {H H' : Hp} {a : Addr} {xs : List V} (e : Same H H') (h : SqT K H a xs) : SqT K H' a xs := by
  rcases h with (h | ⟨o, h⟩) | h
  · exact .inl (.inl (e _ _ h))
  · exact .inl (.inr ⟨o, e _ _ h⟩)
  · exact .inr h

/-- what a comprehension holds behind i items, all else as it was -/
def LcI (H1 : Hp) (D : Addr) (l : List V) (H : Hp) : Prop := H D = some (.lst l) ∧ Same H1 H
theorem take_get {α : Type} : ∀ {l : List α} {i : Nat} {x : α}, l[i]? = some x → l.take (i + 1) = l.take i ++ [x]
  | [], i, x, h => by simp at h
  | a :: l, 0, x, h => by
    have e : a = x := Option.some.inj h
    subst e
    rfl
  | a :: l, i + 1, x, h => by
    have ih := take_get (l := l) (i := i) (x := x) h
    show a :: l.take (i + 1) = a :: l.take i ++ [x]
    rw [ih]
    rfl
section
variable {K : PySem.W.Frag} {a D : Addr} {xs : List V} {i0 : Nat} {tt : TT} {te : TE} {vs : List Nat} {σ : L2.St} {H1 : Hp} {Qd : Hp → Prop} (sel : V → Option V)
/-- one turn of a comprehension that only looks -/
theorem lc_turn (hD : H1 D = none) (hz : xs.length < sizeLine) (hw : ∀ x, wipe ((wipe σ vs).set i0 (some x)) vs = wipe σ vs)
    (ht : ∀ x ∈ xs, ∀ H, Same H1 H → ∀ R : Bool → Hp → Prop, (∀ H', Same H H' → R (sel x).isSome H') → tt ((wipe σ vs).set i0 (some x)) H R)
    (he : ∀ x ∈ xs, ∀ y, sel x = some y → ∀ H, Same H1 H → ∀ R : VK, (∀ H', Same H H' → R y H') → te ((wipe σ vs).set i0 (some x)) H R)
    {i : Nat} {x : V} {H : Hp} (hx : xs[i]? = some x) (p : LcI H1 D ((xs.take i).filterMap sel) H) :
    gName i0 x (wipe σ vs) H fun σ2 H2 => wipe σ2 vs = wipe σ vs ∧ tt σ2 H2 fun b H3 =>
      if b = true then te σ2 H3 fun y H4 => ∃ acc, H4 D = some (.lst acc) ∧ acc.length < sizeLine ∧ LcI H1 D ((xs.take (i + 1)).filterMap sel) (upd H4 D (.lst (acc ++ [y])))
      else LcI H1 D ((xs.take (i + 1)).filterMap sel) H3 := by
  have hm : x ∈ xs := List.mem_of_getElem? hx
  obtain ⟨pd, ps⟩ := p
  refine ⟨hw x, ht x hm H ps _ fun H3 s3 => ?_⟩
  rw [take_get hx, List.filterMap_append]
  cases e : sel x with
  | none =>
    refine iteF ⟨?_, ps.trans s3⟩
    simp only [List.filterMap_cons, e, List.filterMap_nil, List.append_nil]
    exact s3 _ _ pd
  | some y =>
    refine iteT (he x hm y e H3 (ps.trans s3) _ fun H4 s4 => ⟨_, s4 _ _ (s3 _ _ pd), ?_, ?_, ?_⟩)
    · refine Nat.lt_of_le_of_lt (List.length_filterMap_le ..) (Nat.lt_of_le_of_lt ?_ hz)
      rw [List.length_take]
      exact Nat.min_le_right _ _
    · rw [upd_same]
      simp only [List.filterMap_cons, e, List.filterMap_nil]
    · exact same_at (s4 _ _ (s3 _ _ pd)) ((ps.trans s3).trans s4) hD
theorem lcl (hD : H1 D = none) (hS : SqL K H1 a xs) (hz : xs.length < sizeLine) (hw : ∀ x, wipe ((wipe σ vs).set i0 (some x)) vs = wipe σ vs)
    (ht : ∀ x ∈ xs, ∀ H, Same H1 H → ∀ R : Bool → Hp → Prop, (∀ H', Same H H' → R (sel x).isSome H') → tt ((wipe σ vs).set i0 (some x)) H R)
    (he : ∀ x ∈ xs, ∀ y, sel x = some y → ∀ H, Same H1 H → ∀ R : VK, (∀ H', Same H H' → R y H') → te ((wipe σ vs).set i0 (some x)) H R)
    (hd : ∀ H, LcI H1 D (xs.filterMap sel) H → Qd H) :
    ∃ W : Nat → Nat → Hp → Prop, (∃ m, W 0 m (upd H1 D (.lst []))) ∧ ∀ i m H, W i m H →
      ((Itl K a).stop i H ∧ Qd H) ∨ ((Itl K a).go i H ∧ ∃ Nx : Hp → Prop, (∀ H', Nx H' → ∃ m', m' < m ∧ W (i + 1) m' H') ∧ ∀ x H', (Itl K a).yld i H x H' →
        gName i0 x (wipe σ vs) H' fun σ2 H2 => wipe σ2 vs = wipe σ vs ∧ tt σ2 H2 fun b H3 =>
          if b = true then te σ2 H3 fun y H4 => ∃ acc, H4 D = some (.lst acc) ∧ acc.length < sizeLine ∧ Nx (upd H4 D (.lst (acc ++ [y]))) else Nx H3) := by
  refine lc_list (xs := xs) (fun i H => LcI H1 D ((xs.take i).filterMap sel) H) ⟨upd_same, same_upd hD⟩ (fun i H _ p => p.2.seq hS)
    (fun i x H hx p => lc_turn sel hD hz hw ht he hx p) fun H p => hd H ?_
  rw [List.take_length] at p
  exact p
theorem lct (hD : H1 D = none) (hS : SqT K H1 a xs) (hz : xs.length < sizeLine) (hw : ∀ x, wipe ((wipe σ vs).set i0 (some x)) vs = wipe σ vs)
    (ht : ∀ x ∈ xs, ∀ H, Same H1 H → ∀ R : Bool → Hp → Prop, (∀ H', Same H H' → R (sel x).isSome H') → tt ((wipe σ vs).set i0 (some x)) H R)
    (he : ∀ x ∈ xs, ∀ y, sel x = some y → ∀ H, Same H1 H → ∀ R : VK, (∀ H', Same H H' → R y H') → te ((wipe σ vs).set i0 (some x)) H R)
    (hd : ∀ H, LcI H1 D (xs.filterMap sel) H → Qd H) :
    ∃ W : Nat → Nat → Hp → Prop, (∃ m, W 0 m (upd H1 D (.lst []))) ∧ ∀ i m H, W i m H →
      ((Itt K a).stop i H ∧ Qd H) ∨ ((Itt K a).go i H ∧ ∃ Nx : Hp → Prop, (∀ H', Nx H' → ∃ m', m' < m ∧ W (i + 1) m' H') ∧ ∀ x H', (Itt K a).yld i H x H' →
        gName i0 x (wipe σ vs) H' fun σ2 H2 => wipe σ2 vs = wipe σ vs ∧ tt σ2 H2 fun b H3 =>
          if b = true then te σ2 H3 fun y H4 => ∃ acc, H4 D = some (.lst acc) ∧ acc.length < sizeLine ∧ Nx (upd H4 D (.lst (acc ++ [y]))) else Nx H3) := by
  refine lc_tup (xs := xs) (fun i H => LcI H1 D ((xs.take i).filterMap sel) H) ⟨upd_same, same_upd hD⟩ (fun i H _ p => same_sqT p.2 hS)
    (fun i x H hx p => lc_turn sel hD hz hw ht he hx p) fun H p => hd H ?_
  rw [List.take_length] at p
  exact p
/-- the ints from lo on, n of them -/
def ups (lo : Int) (n : Nat) : List V := (List.range n).map fun i => V.int (lo + (i : Nat))
theorem ups_len (lo : Int) (n : Nat) : (ups lo n).length = n := by simp [ups]
theorem ups_get (lo : Int) (n : Nat) {i : Nat} (h : i < n) : (ups lo n)[i]? = some (.int (lo + (i : Nat))) := by
  simp [ups, h]
theorem lcr {lo : Int} {n : Nat} (hD : H1 D = none) (hz : n < sizeLine) (hw : ∀ x, wipe ((wipe σ vs).set i0 (some x)) vs = wipe σ vs)
    (ht : ∀ x ∈ ups lo n, ∀ H, Same H1 H → ∀ R : Bool → Hp → Prop, (∀ H', Same H H' → R (sel x).isSome H') → tt ((wipe σ vs).set i0 (some x)) H R)
    (he : ∀ x ∈ ups lo n, ∀ y, sel x = some y → ∀ H, Same H1 H → ∀ R : VK, (∀ H', Same H H' → R y H') → te ((wipe σ vs).set i0 (some x)) H R)
    (hd : ∀ H, LcI H1 D ((ups lo n).filterMap sel) H → Qd H) :
    ∃ W : Nat → Nat → Hp → Prop, (∃ m, W 0 m (upd H1 D (.lst []))) ∧ ∀ i m H, W i m H →
      ((Itr lo n).stop i H ∧ Qd H) ∨ ((Itr lo n).go i H ∧ ∃ Nx : Hp → Prop, (∀ H', Nx H' → ∃ m', m' < m ∧ W (i + 1) m' H') ∧ ∀ x H', (Itr lo n).yld i H x H' →
        gName i0 x (wipe σ vs) H' fun σ2 H2 => wipe σ2 vs = wipe σ vs ∧ tt σ2 H2 fun b H3 =>
          if b = true then te σ2 H3 fun y H4 => ∃ acc, H4 D = some (.lst acc) ∧ acc.length < sizeLine ∧ Nx (upd H4 D (.lst (acc ++ [y]))) else Nx H3) := by
  refine lc_range (fun i H => LcI H1 D (((ups lo n).take i).filterMap sel) H) ⟨upd_same, same_upd hD⟩
    (fun i H hi p => lc_turn sel hD (by rw [ups_len]; exact hz) hw ht he (ups_get lo n hi) p) fun H p => hd H ?_
  have e : (ups lo n).take n = ups lo n := List.take_of_length_le (by rw [ups_len]; exact Nat.le_refl _)
  rw [e] at p
  exact p
end
end K0


set_option Elab.async false
set_option linter.all false
set_option maxRecDepth 100000
set_option maxHeartbeats 4000000
namespace K0
open PySem PySem.Spec PyProof.Rows L2

/-- v is no list or tuple, or one of these items -/
def Seqs (K : PySem.W.Frag) (H : Hp) (v : V) : Option (List V) → Prop
  | none => Asks K H v false
  | some xs => Asks K H v true ∧ xs.length < sizeLine ∧ ∃ a, v = .ref a ∧ (SqL K H a xs ∨ SqT K H a xs)
theorem Seqs.asks {K : PySem.W.Frag} {H : Hp} {v : V} {o : Option (List V)} (h : Seqs K H v o) : Asks K H v o.isSome := by
  cases o with
  | none => exact h
  | some xs => exact h.1
theorem Seqs.same {K : PySem.W.Frag} {H H' : Hp} {v : V} {o : Option (List V)} (s : Same H H') (h : Seqs K H v o) : Seqs K H' v o := by
  cases o with
  | none => exact Asks.same s h
  | some xs =>
    obtain ⟨h1, hz, a, e, h2⟩ := h
    refine ⟨h1.same s, hz, a, e, ?_⟩
    rcases h2 with h2 | h2
    · exact .inl (Same.seq s h2)
    · exact .inr (same_sqT s h2)
/-- whether a list of this length is within the bounds -/
def lenB (o : Option (List V)) (l m : V) : Bool := match o with
  | none => false
  | some xs => within (.int xs.length) l m
def spIsList (K : PySem.W.Frag) : Sp := fun vs H Q _ => ∃ (v l m : V) (o : Option (List V)), vs = [v, l, m] ∧ Seqs K H v o ∧ Bd l ∧ Bd m ∧ ∀ H', Same H H' → Q (.bl (lenB o l m)) H'
/-- whether all of a list are integers -/
def intsB (o : Option (List V)) : Bool := match o with
  | none => false
  | some xs => xs.all isI
/-- the items can be asked -/
def Items (K : PySem.W.Frag) (H : Hp) (o : Option (List V)) : Prop := ∀ xs, o = some xs → ∀ x ∈ xs, ∃ q, Asks K H x q
theorem Items.same {K : PySem.W.Frag} {H H' : Hp} {o : Option (List V)} (s : Same H H') (h : Items K H o) : Items K H' o := fun xs e x hx =>
  let ⟨q, z⟩ := h xs e x hx
  ⟨q, z.same s⟩
def spAreInts (K : PySem.W.Frag) : Sp := fun vs H Q _ => ∃ (v : V) (o : Option (List V)), vs = [v] ∧ Seqs K H v o ∧ Items K H o ∧ ∀ H', Same H H' → Q (.bl (intsB o)) H'
def spIsPoint (K : PySem.W.Frag) : Sp := fun vs H Q _ => ∃ (v : V) (k : Int) (o : Option (List V)), vs = [v, .int k] ∧ Seqs K H v o ∧ Items K H o ∧
  ∀ H', Same H H' → Q (.bl (lenB o (.int k) (.int k) && intsB o)) H'
/-- ascending from lo on below many -/
def ascB : Int → Int → List V → Bool
  | _, _, [] => true
  | lo, many, .int n :: r => decide (lo ≤ n) && decide (n < many) && ascB (n + 1) many r
  | _, _, _ :: _ => false
def lotB (o : Option (List V)) (many : Int) : Bool := match o with
  | none => false
  | some xs => xs.all isI && ascB 0 many xs
def spIsLot (K : PySem.W.Frag) : Sp := fun vs H Q _ => ∃ (v : V) (many : Int) (o : Option (List V)), vs = [v, .int many] ∧ Seqs K H v o ∧ Items K H o ∧
  ∀ H', Same H H' → Q (.bl (lotB o many)) H'

section
variable {P : Program} {w : World} {K : PySem.W.Frag} {mg : Str → Option Value} {base : Heap} {f g g2 : Addr} {fd : FuncData}
theorem sc_is_list : FnScope ["value", "least", "most"] ["value", "least", "most"] (defScope st_is_list) := ⟨rfl, rfl, rfl, by decide +kernel, rfl, by decide +kernel, by decide +kernel⟩
theorem ok_is_list (F : Fun K "is_list" "is_list" st_is_list f fd) (T : Nm mg) (D_is_within : Dn P w K mg base 2 "is_within" g ["value", "least", "most"] (spWithin K)) :
    FnOk P w K mg base CX0 3 f fd ["value", "least", "most"] (spIsList K) := by
  refine F.ok sc_is_list (fun vs H Q E h => ?_) (fun cdv A outer s H vs Q E hr h => ?_)
  · obtain ⟨v, l, m, o, rfl, _⟩ := h
    rfl
  · obtain ⟨v, l, m, o, rfl, hv, bl, bm, k⟩ := h
    refine ⟨_, (pss_one (ps_ret (pe_and (pe_callB call_isT (by rfl) T.n_isinstance (by decide +kernel) (pa_cons (pv 0) (pa_cons (pe_tup (pa_cons (pe_tyn "list" (by rfl) T.n_list (by decide +kernel)) (pa_cons (pe_tyn "tuple" (by rfl) T.n_tuple (by decide +kernel)) pa_nil))) pa_nil))) (pe_one (pe_dn D_is_within (hr.mono (by decide)) rfl (pa_cons (pe_callB call_len_seq (by rfl) T.n_len (by decide +kernel) (pa_cons (pv 0) pa_nil)) (pa_cons (pv 1) (pa_cons (pv 2) pa_nil)))))))), ?_⟩
    refine ⟨_, rfl, (by show 2 ≤ sizeLine; decide), fun p hp => ?_⟩
    have s1 : Same H (upd H p (.tup [.ty "list", .ty "tuple"])) := same_upd hp
    obtain ⟨t, i, b, ty, _, _, _, hq⟩ := (hv.asks).same s1
    refine ⟨v, p, [.ty "list", .ty "tuple"], t, [.type "list", .type "tuple"], o.isSome, rfl, upd_same, .cons (.ty _) (.cons (.ty _) .nil), ty, hq, _, rfl, ?_⟩
    cases o with
    | none => exact iteF (k _ s1)
    | some xs =>
      refine iteT ?_
      obtain ⟨_, hz, a, rfl, hS⟩ := Seqs.same s1 hv
      refine ⟨_, rfl, a, xs, rfl, hS, _, rfl, _, rfl, .int xs.length, l, m, false, rfl, .int _, bl, bm, fun H' s2 => ?_⟩
      exact k H' (s1.trans s2)
theorem sc_are_integers : FnScope ["value", "each"] ["value"] (defScope st_are_integers) := ⟨rfl, rfl, rfl, by decide +kernel, rfl, by decide +kernel, by decide +kernel⟩
theorem all_filterMap_isI (xs : List V) : (xs.filterMap fun x => some (V.bl (isI x))) = (xs.map isI).map V.bl := by
  induction xs with
  | nil => rfl
  | cons x xs ih => simp only [List.filterMap_cons, List.map_cons, ih]
theorem all_id_map (xs : List V) : ((xs.map isI).all id) = xs.all isI := by
  induction xs with
  | nil => rfl
  | cons x xs ih => simp only [List.map_cons, List.all_cons, ih, id]
theorem ok_are_integers (F : Fun K "are_integers" "are_integers" st_are_integers f fd) (T : Nm mg) (D_is_integer : Dn P w K mg base 1 "is_integer" g2 ["value"] (spIsInt K))
    (D_is_list : Dn P w K mg base 3 "is_list" g ["value", "least", "most"] (spIsList K)) :
    FnOk P w K mg base CX0 4 f fd ["value"] (spAreInts K) := by
  refine F.ok sc_are_integers (fun vs H Q E h => ?_) (fun cdv A outer s H vs Q E hr h => ?_)
  · obtain ⟨v, o, rfl, _⟩ := h
    rfl
  · obtain ⟨v, o, rfl, hv, hi, k⟩ := h
    have elt : ∀ {xs : List V}, o = some xs → ∀ {H1 : Hp}, Same H H1 → ∀ x ∈ xs, ∀ y, (fun x => some (V.bl (isI x))) x = some y → ∀ H2, Same H1 H2 → ∀ R : VK, (∀ H', Same H2 H' → R y H') →
        tDn (spIsInt K) (tCons (tVar 1) tNil) ((wipe [some v, none] [1]).set 1 (some x)) H2 R := by
      intro xs e H1 s1 x hx y hy H2 s2 R hR
      obtain ⟨q, aq⟩ := hi xs e x hx
      cases hy
      exact ⟨x, rfl, x, q, rfl, (aq.same s1).same s2, hR⟩
    have way : ∀ (t : TE) (ht : ∀ xs, o = some xs → ∀ H1, Same H H1 → ∀ R : VK, (∀ H' D, Same H1 H' → H' D = some (.lst ((xs.map isI).map V.bl)) → R (.ref D) H') → t [some v, none] H1 R),
        tRet (tAndV (tDn (spIsList K) (tCons (tVar 0) (tCons (tC .non) (tCons (tC .non) tNil)))) (tCB (rAll K) (tCons t tNil))) { nx := fun _ H' => Q .non H', rt := Q } [some v, none] H := by
      intro t ht
      refine ⟨v, rfl, v, .non, .non, o, rfl, hv, .inl rfl, .inl rfl, fun H1 s1 => ⟨_, rfl, ?_⟩⟩
      cases o with
      | none => exact iteF (k H1 s1)
      | some xs =>
        refine iteT (ht xs rfl H1 s1 _ fun H' D s2 hD => ⟨D, _, rfl, .of hD, ?_⟩)
        rw [all_id_map]
        exact k H' (s1.trans s2)
    have fin : ∀ {xs : List V} {H1 : Hp} {D : Addr} {R : VK}, (∀ H' D, Same H1 H' → H' D = some (.lst ((xs.map isI).map V.bl)) → R (.ref D) H') → ∀ H', LcI H1 D (xs.filterMap fun x => some (V.bl (isI x))) H' → R (.ref D) H' := by
      intro xs H1 D R hR H' p
      obtain ⟨p1, p2⟩ := p
      rw [all_filterMap_isI] at p1
      exact hR H' D p2 p1
    by_cases ht : ∃ xs a, o = some xs ∧ v = .ref a ∧ SqT K H a xs
    · obtain ⟨xs0, a, e0, rfl, hT⟩ := ht
      refine ⟨_, (pss_one (ps_ret (pe_and (pe_dn D_is_list (hr.mono (by decide)) rfl (pa_cons (pv 0) (pa_cons pe_non (pa_cons pe_non pa_nil)))) (pe_one (pe_callB (cr_all rfl) (by rfl) T.n_all (by decide +kernel) (pa_cons (pe_lc (own := [("each", 1)]) (g := gName 1) (tt := tYes) rfl sc_are_integers.nd (pi_tup (pv 0)) (blkOk_by (N := ["value", "each"]) (sc := defScope st_are_integers) (by decide +kernel)) (fun _ _ _ _ _ => pg_name (i := 1) sc_are_integers.nd rfl (Or.inl rfl)) (fun _ _ _ _ _ => pts_nil) (fun _ _ _ _ _ => (pe_dn D_is_integer (hr.mono (by decide)) rfl (pa_cons (pv 1) pa_nil)))) pa_nil)))))), way _ ?_⟩
      intro xs e H1 s1 R hR
      have ee : xs0 = xs := Option.some.inj (e0.symm.trans e)
      subst ee
      have hz : xs0.length < sizeLine := by
        rw [e0] at hv
        exact hv.2.1
      refine ⟨_, rfl, a, rfl, ⟨_, same_sqT s1 hT⟩, fun D hD => lct (xs := xs0) (fun x => some (V.bl (isI x))) hD (same_sqT s1 hT) hz (fun _ => rfl) (fun x _ H2 _ R h => h H2 (Same.refl H2)) (elt e s1) (fin hR)⟩
    · refine ⟨_, (pss_one (ps_ret (pe_and (pe_dn D_is_list (hr.mono (by decide)) rfl (pa_cons (pv 0) (pa_cons pe_non (pa_cons pe_non pa_nil)))) (pe_one (pe_callB (cr_all rfl) (by rfl) T.n_all (by decide +kernel) (pa_cons (pe_lc (own := [("each", 1)]) (g := gName 1) (tt := tYes) rfl sc_are_integers.nd (pi_list (pv 0)) (blkOk_by (N := ["value", "each"]) (sc := defScope st_are_integers) (by decide +kernel)) (fun _ _ _ _ _ => pg_name (i := 1) sc_are_integers.nd rfl (Or.inl rfl)) (fun _ _ _ _ _ => pts_nil) (fun _ _ _ _ _ => (pe_dn D_is_integer (hr.mono (by decide)) rfl (pa_cons (pv 1) pa_nil)))) pa_nil)))))), way _ ?_⟩
      intro xs e H1 s1 R hR
      have hv' := hv
      rw [e] at hv'
      obtain ⟨_, hz, a, rfl, hS⟩ := hv'
      rcases hS with hS | hS
      · refine ⟨_, rfl, a, rfl, ⟨_, Same.seq s1 hS⟩, fun D hD => lcl (xs := xs) (fun x => some (V.bl (isI x))) hD (Same.seq s1 hS) hz (fun _ => rfl) (fun x _ H2 _ R h => h H2 (Same.refl H2)) (elt e s1) (fin hR)⟩
      · exact absurd ⟨xs, a, e, rfl, hS⟩ ht
theorem sc_is_point : FnScope ["value", "wide"] ["value", "wide"] (defScope st_is_point) := ⟨rfl, rfl, rfl, by decide +kernel, rfl, by decide +kernel, by decide +kernel⟩
theorem ok_is_point (F : Fun K "is_point" "is_point" st_is_point f fd) (D_are_integers : Dn P w K mg base 4 "are_integers" g2 ["value"] (spAreInts K))
    (D_is_list : Dn P w K mg base 3 "is_list" g ["value", "least", "most"] (spIsList K)) :
    FnOk P w K mg base CX0 5 f fd ["value", "wide"] (spIsPoint K) := by
  refine F.ok sc_is_point (fun vs H Q E h => ?_) (fun cdv A outer s H vs Q E hr h => ?_)
  · obtain ⟨v, n, o, rfl, _⟩ := h
    rfl
  · obtain ⟨v, n, o, rfl, hv, hi, k⟩ := h
    refine ⟨_, (pss_one (ps_ret (pe_and (pe_dn D_is_list (hr.mono (by decide)) rfl (pa_cons (pv 0) (pa_cons (pv 1) (pa_cons (pv 1) pa_nil)))) (pe_one (pe_dn D_are_integers (hr.mono (by decide)) rfl (pa_cons (pv 0) pa_nil)))))), ?_⟩
    refine ⟨v, rfl, _, rfl, _, rfl, v, .int n, .int n, o, rfl, hv, .inr ⟨n, rfl⟩, .inr ⟨n, rfl⟩, fun H1 s1 => ⟨_, rfl, ?_⟩⟩
    cases e : lenB o (.int n) (.int n) with
    | false =>
      refine iteF ?_
      have k1 := k H1 s1
      rw [e] at k1
      exact k1
    | true =>
      refine iteT ⟨v, rfl, v, o, rfl, hv.same s1, hi.same s1, fun H2 s2 => ?_⟩
      have k1 := k H2 (s1.trans s2)
      rw [e] at k1
      exact k1
end
end K0


set_option Elab.async false
set_option linter.all false
set_option maxRecDepth 100000
set_option maxHeartbeats 2000000
/-! zip of two, each a list or a tuple -/
namespace K0z
open PySem RZ
open PySem.Sem (wp)
/-- at l: a tuple (b) or a list of these items -/
def IsSq (b : Bool) (h : Heap) (l : Addr) (xs : Array Value) : Prop := match b with | true => h.IsTuple l xs | false => h.IsList l xs
def IsIt (b : Bool) (h : Heap) (it l : Addr) (i : Nat) : Prop := match b with | true => h.IsTupleIter it l i | false => h.IsListIter it l i
def itName (b : Bool) : String := match b with | true => "tuple_iterator" | false => "list_iterator"
theorem IsSq.extBut {b : Bool} {h h' : Heap} {a c items} (x : IsSq b h a items) (hs : Heap.ExtBut c h h') (hab : a ≠ c) : IsSq b h' a items := by
  cases b
  · exact Heap.IsList.extBut x hs hab
  · exact Heap.IsTuple.extBut x hs hab
theorem IsSq.push {b : Bool} {h : Heap} {a items} (x : IsSq b h a items) (o : Obj) : IsSq b (h.push o) a items := by
  cases b
  · exact Heap.IsList.push x o
  · exact Heap.IsTuple.push x o
theorem IsIt.extBut {b : Bool} {h h' : Heap} {a c l i} (x : IsIt b h a l i) (hs : Heap.ExtBut c h h') (hab : a ≠ c) : IsIt b h' a l i := by
  cases b
  · exact Heap.IsListIter.extBut x hs hab
  · exact Heap.IsTupleIter.extBut x hs hab
theorem IsIt.at {b : Bool} {h h' : Heap} {a l i} (x : IsIt b h a l i) (e : ∀ o, h.get? a = some o → h'.get? a = some o) : IsIt b h' a l i := by
  cases b
  · exact Heap.IsListIter.at x e
  · exact Heap.IsTupleIter.at x e
theorem IsIt.obj {b : Bool} {h : Heap} {a l i} (x : IsIt b h a l i) : ∃ o : Obj, h.get? a = some o ∧ o.data = .fields #[.ref l, .int i 0] := by
  cases b
  · obtain ⟨o, e, _, d⟩ := x
    exact ⟨o, e, d⟩
  · obtain ⟨o, e, _, d⟩ := x
    exact ⟨o, e, d⟩
theorem IsIt.lt {b : Bool} {h : Heap} {a l i} (x : IsIt b h a l i) : a < h.objs.size := by
  obtain ⟨o, e, _⟩ := x.obj
  exact Heap.lt_size e
theorem IsIt.mk {b : Bool} {h : Heap} {a l : Addr} (e : h.get? a = some { cls := .type (itName b), data := .fields #[.ref l, .int 0 0] }) : IsIt b h a l 0 := by
  cases b
  · exact ⟨_, e, rfl, rfl⟩
  · exact ⟨_, e, rfl, rfl⟩
section
variable {prog : Program} {w : World} {A : Around} {E : Value → Shared → Prop} {s : Shared}
theorem nextOf_item {b : Bool} {it l : Addr} {i : Nat} {items} {x : Value} {Q : Value → Shared → Prop} (hit : IsIt b s.heap it l i)
    (hl : IsSq b s.heap l items) (hx : items[i]? = some x)
    (hQ : ∀ h', IsIt b h' it l (i + 1) → Heap.SameBut it s.heap h' → Q x { s with heap := h' }) :
    wpAny (model prog w) A (Builtin.SmallTypes.nextOf (.ref it)) Q E s := by
  cases b
  · exact wpAny_nextOf_list_item hit hl hx hQ
  · exact nextOf_tuple_item hit hl hx hQ
theorem nextOf_end {b : Bool} {it l : Addr} {i : Nat} {items} {Q : Value → Shared → Prop} (hh : A.handled = none)
    (hit : IsIt b s.heap it l i) (hl : IsSq b s.heap l items) (hx : items[i]? = none)
    (hE : ∀ h' e, Heap.ExtBut it s.heap h' → (∃ o, h'.get? e = some o ∧ o.cls = .type "StopIteration") → E (.ref e) { s with heap := h' }) :
    wpAny (model prog w) A (Builtin.SmallTypes.nextOf (.ref it)) Q E s := by
  cases b
  · exact wpAny_nextOf_list_end hh hit hl hx hE
  · exact nextOf_tuple_end hh hit hl hx hE
theorem pyIter_sq {b : Bool} {l : Addr} {xs : Array Value} {Q : Value → Shared → Prop} (hl : IsSq b s.heap l xs)
    (h : Q (.ref s.heap.objs.size) { s with heap := s.heap.push { cls := .type (itName b), data := .fields #[.ref l, .int 0 0] } }) :
    wpAny (model prog w) A (pyIter (.ref l)) Q E s := by
  cases b
  · exact wpAny_pyIter_list hl h
  · exact wpAny_pyIter_tuple hl h
theorem zipM_next_item {z TI TO i1 i2 l1 l2 : Addr} {b1 b2 : Bool} {k1 k2 : Nat} {xs ys : Array Value} {x y a b : Value} {Q : Value → Shared → Prop} (D : ZipApart z TI TO i1 i2 l1 l2)
    (hz : IsZip s.heap z TI TO .none) (hTI : IsPair s.heap TI (.ref i1) (.ref i2)) (hTO : IsPair s.heap TO a b)
    (h1 : IsIt b1 s.heap i1 l1 k1) (h2 : IsIt b2 s.heap i2 l2 k2) (hl1 : IsSq b1 s.heap l1 xs) (hl2 : IsSq b2 s.heap l2 ys) (hx : xs[k1]? = some x) (hy : ys[k2]? = some y)
    (hQ : ∀ h', IsZip h' z TI TO (rawInt s.heap.objs.size) → IsPair h' TO x y → IsIt b1 h' i1 l1 (k1 + 1) → IsIt b2 h' i2 l2 (k2 + 1) → IsPair h' s.heap.objs.size x y → h'.objs.size = s.heap.objs.size + 1 →
      (∀ c o, c ≠ z → c ≠ TO → c ≠ i1 → c ≠ i2 → s.heap.get? c = some o → h'.get? c = some o) → Q (.ref s.heap.objs.size) { s with heap := h' }) :
    wpAny (model prog w) A (Builtin.«zip.__next__» ⟨[.ref z], []⟩) (fun fin s' => ∃ v, fin = .done (.ret v) ∧ Q v s') E s := by
  show wpAny _ _ (field (.ref z) 2 >>= _) _ _ _
  refine wpAny_bind (wpAny_field hz rfl (x := .bool false) rfl ?_)
  show wpAny _ _ (field (.ref z) 3 >>= _) _ _ _
  refine wpAny_bind (wpAny_field hz rfl (x := .ref TI) rfl ?_)
  refine wpAny_bind (wpAny_seqItems hTI rfl ?_)
  show wpAny _ _ (Builtin.SmallTypes.ownedTupleIsFree (.ref z) >>= _) _ _ _
  refine wpAny_bind ?_
  unfold Builtin.SmallTypes.ownedTupleIsFree
  refine wpAny_bind (wpAny_field hz rfl (x := .none) rfl (wpAny_pure ?_))
  simp only [if_true]
  refine wpAny_bind (wpAny_rule ?_)
  refine wpAny_bind (wpAny_field hz rfl (x := .ref TO) rfl ?_)
  refine wpAny_bind (wpAny_setField_rec hz (by simp) fun h₁ hz₁ hs₁ => ?_)
  replace hz₁ : IsZip h₁ z TI TO .ellipsis := hz₁
  refine wpAny_bind ?_
  simp only [List.zipIdx_cons, List.zipIdx_nil, List.forIn_cons, List.forIn_nil]

  refine wpAny_bind (wpAny_bind (wpAny_onRaise ?_))
  show wpAny _ _ (Builtin.SmallTypes.nextOf (.ref i1) >>= _) _ _ _
  refine wpAny_bind (nextOf_item (h1.extBut hs₁.extBut D.i1z) (hl1.extBut hs₁.extBut D.l1z) hx fun h₂ h1₂ hs₂ => wpAny_pure ?_)
  have hTO₂ : IsPair h₂ TO a b := hs₂.extBut _ _ D.TOi1 (hs₁.extBut _ _ D.TOz hTO)
  refine wpAny_bind (wpAny_seqItems hTO₂ rfl ?_)
  refine wpAny_bind (wpAny_updateSeq_pair hTO₂ fun h₃ hTO₃ hs₃ => ?_)
  replace hTO₃ : IsPair h₃ TO x b := hTO₃
  refine wpAny_bind (wpAny_letGo (wpAny_pure ?_))

  refine wpAny_bind (wpAny_bind (wpAny_onRaise ?_))
  show wpAny _ _ (Builtin.SmallTypes.nextOf (.ref i2) >>= _) _ _ _
  refine wpAny_bind (nextOf_item (((h2.extBut hs₁.extBut D.i2z).extBut hs₂.extBut D.i12.symm).extBut hs₃.extBut D.TOi2.symm)
    (((hl2.extBut hs₁.extBut D.l2z).extBut hs₂.extBut D.l2i1).extBut hs₃.extBut D.l2TO) hy fun h₄ h2₄ hs₄ => wpAny_pure ?_)
  have hTO₄ : IsPair h₄ TO x b := hs₄.extBut _ _ D.TOi2 hTO₃
  refine wpAny_bind (wpAny_seqItems hTO₄ rfl ?_)
  refine wpAny_bind (wpAny_updateSeq_pair hTO₄ fun h₅ hTO₅ hs₅ => ?_)
  replace hTO₅ : IsPair h₅ TO x y := hTO₅
  refine wpAny_bind (wpAny_letGo (wpAny_pure (wpAny_pure ?_)))

  refine wpAny_bind (wpAny_seqItems hTO₅ rfl ?_)
  refine wpAny_bind (wpAny_newTuple ?_)
  have hsz : h₅.objs.size = s.heap.objs.size := by rw [hs₅.1, hs₄.1, hs₃.1, hs₂.1, hs₁.1]
  have hz₅ : IsZip h₅ z TI TO .ellipsis := hs₅.extBut _ _ D.TOz.symm (hs₄.extBut _ _ D.i2z.symm (hs₃.extBut _ _ D.TOz.symm (hs₂.extBut _ _ D.i1z.symm hz₁)))
  have hk₅ : ∀ c o, c ≠ z → c ≠ TO → c ≠ i1 → c ≠ i2 → s.heap.get? c = some o → h₅.get? c = some o := fun c o c1 c2 c3 c4 e =>
    hs₅.extBut _ _ c2 (hs₄.extBut _ _ c4 (hs₃.extBut _ _ c2 (hs₂.extBut _ _ c3 (hs₁.extBut _ _ c1 e))))
  have h1₅ : IsIt b1 h₅ i1 l1 (k1 + 1) := ((h1₂.extBut hs₃.extBut D.TOi1.symm).extBut hs₄.extBut D.i12).extBut hs₅.extBut D.TOi1.symm
  have h2₅ : IsIt b2 h₅ i2 l2 (k2 + 1) := h2₄.extBut hs₅.extBut D.TOi2.symm
  have hzlt : z < h₅.objs.size := Heap.lt_size hz₅
  have hTOlt : TO < h₅.objs.size := Heap.lt_size hTO₅
  have hi1lt : i1 < h₅.objs.size := h1₅.lt
  have hi2lt : i2 < h₅.objs.size := h2₅.lt
  show wpAny _ _ (Builtin.SmallTypes.ownedTupleHandOut (.ref z) (.ref h₅.objs.size) >>= _) _ _ _
  refine wpAny_bind ?_
  unfold Builtin.SmallTypes.ownedTupleHandOut
  have hz₆ : IsZip (h₅.push { cls := .type "tuple", data := .seq #[x, y] }) z TI TO .ellipsis := Heap.get?_push_of_some _ hz₅
  refine wpAny_bind (wpAny_setField_rec hz₆ (by simp) fun h₇ hz₇ hs₇ => ?_)
  replace hz₇ : IsZip h₇ z TI TO (rawInt h₅.objs.size) := hz₇
  refine wpAny_setField_rec hz₇ (by simp) fun h₈ hz₈ hs₈ => ?_
  replace hz₈ : IsZip h₈ z TI TO (rawInt h₅.objs.size) := hz₈
  have up : ∀ c o, c ≠ z → h₅.get? c = some o → h₈.get? c = some o := fun c o c1 e => hs₈.extBut _ _ c1 (hs₇.extBut _ _ c1 (Heap.get?_push_of_some _ e))
  have hT₈ : IsPair h₈ h₅.objs.size x y := hs₈.extBut _ _ (Nat.ne_of_gt hzlt) (hs₇.extBut _ _ (Nat.ne_of_gt hzlt) (Heap.get?_push_size _ rfl))
  have hz8 : h₈.objs.size = h₅.objs.size + 1 := by rw [hs₈.1, hs₇.1, Heap.size_push]
  rw [hsz] at hz₈ hT₈ hz8
  refine wpAny_pure ⟨_, rfl, ?_⟩
  show Q (.ref h₅.objs.size) _
  rw [hsz]
  exact hQ h₈ hz₈ (up _ _ D.TOz hTO₅) (h1₅.at fun o e => up _ o D.i1z e) (h2₅.at fun o e => up _ o D.i2z e) hT₈ hz8 fun c o c1 c2 c3 c4 e => up c o c1 (hk₅ c o c1 c2 c3 c4 e)

theorem zipM_next_end {z TI TO i1 i2 l1 l2 : Addr} {b1 b2 : Bool} {k1 k2 : Nat} {xs ys : Array Value} {a b : Value} {Q : Fin → Shared → Prop} (hh : A.handled = none) (D : ZipApart z TI TO i1 i2 l1 l2)
    (hz : IsZip s.heap z TI TO .none) (hTI : IsPair s.heap TI (.ref i1) (.ref i2)) (hTO : IsPair s.heap TO a b)
    (h1 : IsIt b1 s.heap i1 l1 k1) (h2 : IsIt b2 s.heap i2 l2 k2) (hl1 : IsSq b1 s.heap l1 xs) (hl2 : IsSq b2 s.heap l2 ys) (hend : xs[k1]? = none ∨ ys[k2]? = none)
    (hE : ∀ h' e, (∀ c o, c ≠ z → c ≠ TO → c ≠ i1 → c ≠ i2 → s.heap.get? c = some o → h'.get? c = some o) → (∃ o, h'.get? e = some o ∧ o.cls = .type "StopIteration") → E (.ref e) { s with heap := h' }) :
    wpAny (model prog w) A (Builtin.«zip.__next__» ⟨[.ref z], []⟩) Q E s := by
  show wpAny _ _ (field (.ref z) 2 >>= _) _ _ _
  refine wpAny_bind (wpAny_field hz rfl (x := .bool false) rfl ?_)
  show wpAny _ _ (field (.ref z) 3 >>= _) _ _ _
  refine wpAny_bind (wpAny_field hz rfl (x := .ref TI) rfl ?_)
  refine wpAny_bind (wpAny_seqItems hTI rfl ?_)
  show wpAny _ _ (Builtin.SmallTypes.ownedTupleIsFree (.ref z) >>= _) _ _ _
  refine wpAny_bind ?_
  unfold Builtin.SmallTypes.ownedTupleIsFree
  refine wpAny_bind (wpAny_field hz rfl (x := .none) rfl (wpAny_pure ?_))
  simp only [if_true]
  refine wpAny_bind (wpAny_rule ?_)
  refine wpAny_bind (wpAny_field hz rfl (x := .ref TO) rfl ?_)
  refine wpAny_bind (wpAny_setField_rec hz (by simp) fun h₁ hz₁ hs₁ => ?_)
  replace hz₁ : IsZip h₁ z TI TO .ellipsis := hz₁
  refine wpAny_bind ?_
  simp only [List.zipIdx_cons, List.zipIdx_nil, List.forIn_cons, List.forIn_nil]
  refine wpAny_bind (wpAny_bind (wpAny_onRaise ?_))
  show wpAny _ _ (Builtin.SmallTypes.nextOf (.ref i1) >>= _) _ _ _
  cases hx : xs[k1]? with
  | none =>
    refine wpAny_bind (nextOf_end hh (h1.extBut hs₁.extBut D.i1z) (hl1.extBut hs₁.extBut D.l1z) hx fun h₂ e hs₂ he => ?_)
    obtain ⟨oe, hoe, hce⟩ := he
    have hz₂ : IsZip h₂ z TI TO .ellipsis := hs₂ _ _ D.i1z.symm hz₁
    have hez : e ≠ z := fun x => by subst x; rw [hz₂] at hoe; cases hoe; simp at hce
    refine wpAny_setField_rec hz₂ (by simp) fun h₃ _ hs₃ => hE h₃ e (fun c o c1 _ c3 _ x => hs₃.extBut _ _ c1 (hs₂ _ _ c3 (hs₁.extBut _ _ c1 x))) ⟨oe, hs₃.extBut _ _ hez hoe, hce⟩
  | some x =>
    have hy : ys[k2]? = none := by rcases hend with h | h; rw [hx] at h; cases h; exact h
    refine wpAny_bind (nextOf_item (h1.extBut hs₁.extBut D.i1z) (hl1.extBut hs₁.extBut D.l1z) hx fun h₂ h1₂ hs₂ => wpAny_pure ?_)
    have hTO₂ : IsPair h₂ TO a b := hs₂.extBut _ _ D.TOi1 (hs₁.extBut _ _ D.TOz hTO)
    refine wpAny_bind (wpAny_seqItems hTO₂ rfl ?_)
    refine wpAny_bind (wpAny_updateSeq_pair hTO₂ fun h₃ hTO₃ hs₃ => ?_)
    refine wpAny_bind (wpAny_letGo (wpAny_pure ?_))
    refine wpAny_bind (wpAny_bind (wpAny_onRaise ?_))
    show wpAny _ _ (Builtin.SmallTypes.nextOf (.ref i2) >>= _) _ _ _
    refine wpAny_bind (nextOf_end hh (((h2.extBut hs₁.extBut D.i2z).extBut hs₂.extBut D.i12.symm).extBut hs₃.extBut D.TOi2.symm)
      (((hl2.extBut hs₁.extBut D.l2z).extBut hs₂.extBut D.l2i1).extBut hs₃.extBut D.l2TO) hy fun h₄ e hs₄ he => ?_)
    obtain ⟨oe, hoe, hce⟩ := he
    have hz₄ : IsZip h₄ z TI TO .ellipsis := hs₄ _ _ D.i2z.symm (hs₃.extBut _ _ D.TOz.symm (hs₂.extBut _ _ D.i1z.symm hz₁))
    have hez : e ≠ z := fun x => by subst x; rw [hz₄] at hoe; cases hoe; simp at hce
    refine wpAny_setField_rec hz₄ (by simp) fun h₅ _ hs₅ => hE h₅ e (fun c o c1 c2 c3 c4 x => hs₅.extBut _ _ c1 (hs₄ _ _ c4 (hs₃.extBut _ _ c2 (hs₂.extBut _ _ c3 (hs₁.extBut _ _ c1 x))))) ⟨oe, hs₅.extBut _ _ hez hoe, hce⟩

theorem pyNext_zipM_item {z TI TO i1 i2 l1 l2 : Addr} {b1 b2 : Bool} {k1 k2 : Nat} {xs ys : Array Value} {x y a b : Value} {Q : Option Value → Shared → Prop} (D : ZipApart z TI TO i1 i2 l1 l2)
    (hz : IsZip s.heap z TI TO .none) (hTI : IsPair s.heap TI (.ref i1) (.ref i2)) (hTO : IsPair s.heap TO a b)
    (h1 : IsIt b1 s.heap i1 l1 k1) (h2 : IsIt b2 s.heap i2 l2 k2) (hl1 : IsSq b1 s.heap l1 xs) (hl2 : IsSq b2 s.heap l2 ys) (hx : xs[k1]? = some x) (hy : ys[k2]? = some y)
    (hQ : ∀ h', IsZip h' z TI TO (rawInt s.heap.objs.size) → IsPair h' TO x y → IsIt b1 h' i1 l1 (k1 + 1) → IsIt b2 h' i2 l2 (k2 + 1) → IsPair h' s.heap.objs.size x y → h'.objs.size = s.heap.objs.size + 1 →
      (∀ c o, c ≠ z → c ≠ TO → c ≠ i1 → c ≠ i2 → s.heap.get? c = some o → h'.get? c = some o) → Q (some (.ref s.heap.objs.size)) { s with heap := h' }) :
    wpAny (model prog w) A (pyNext (.ref z)) Q E s := by
  have hT : s.TypeIs (.ref z) "zip" := ⟨_, hz, rfl⟩
  unfold pyNext
  exact wpAny_bind (wpAny_attempt (wpAny_callSpecial?_slot (name := Str.ofString "__next__") hT F.slot_zip_next
    (wpAny_call_entry F.slot_zip_next hT F.entry_zip_next
      (zipM_next_item D hz hTI hTO h1 h2 hl1 hl2 hx hy fun h' a1 a2 a3 a4 a5 a6 a7 => wpAny_pure (hQ h' a1 a2 a3 a4 a5 a6 a7)) (F.args_zip_next_1 _))))

theorem pyNext_zipM_end {z TI TO i1 i2 l1 l2 : Addr} {b1 b2 : Bool} {k1 k2 : Nat} {xs ys : Array Value} {a b : Value} {Q : Option Value → Shared → Prop} (hh : A.handled = none) (D : ZipApart z TI TO i1 i2 l1 l2)
    (hz : IsZip s.heap z TI TO .none) (hTI : IsPair s.heap TI (.ref i1) (.ref i2)) (hTO : IsPair s.heap TO a b)
    (h1 : IsIt b1 s.heap i1 l1 k1) (h2 : IsIt b2 s.heap i2 l2 k2) (hl1 : IsSq b1 s.heap l1 xs) (hl2 : IsSq b2 s.heap l2 ys) (hend : xs[k1]? = none ∨ ys[k2]? = none)
    (hQ : ∀ h', (∀ c o, c ≠ z → c ≠ TO → c ≠ i1 → c ≠ i2 → s.heap.get? c = some o → h'.get? c = some o) → Q none { s with heap := h' }) : wpAny (model prog w) A (pyNext (.ref z)) Q E s := by
  have hT : s.TypeIs (.ref z) "zip" := ⟨_, hz, rfl⟩
  unfold pyNext
  refine wpAny_bind (wpAny_attempt (wpAny_callSpecial?_slot (name := Str.ofString "__next__") hT F.slot_zip_next
    (wpAny_call_entry F.slot_zip_next hT F.entry_zip_next (zipM_next_end hh D hz hTI hTO h1 h2 hl1 hl2 hend fun h' e hk he => ?_) (F.args_zip_next_1 _))))
  obtain ⟨o, ho, hc⟩ := he
  refine wpAny_bind (wpAny_isInstance (T := "StopIteration") (b := true) ⟨o, ho, hc⟩ isSubtype_stop ?_)
  exact wpAny_pure (hQ _ hk)
end

abbrev zipMH1 (b1 : Bool) (h : Heap) (l1 : Addr) : Heap := h.push { cls := .type (itName b1), data := .fields #[.ref l1, .int 0 0] }
abbrev zipMH2 (b1 b2 : Bool) (h : Heap) (l1 l2 : Addr) : Heap := (zipMH1 b1 h l1).push { cls := .type (itName b2), data := .fields #[.ref l2, .int 0 0] }
abbrev zipMH3 (b1 b2 : Bool) (h : Heap) (l1 l2 : Addr) : Heap := (zipMH2 b1 b2 h l1 l2).push { cls := .type "tuple", data := .seq #[.ref h.objs.size, .ref (zipMH1 b1 h l1).objs.size] }
abbrev zipMH4 (b1 b2 : Bool) (h : Heap) (l1 l2 : Addr) : Heap := (zipMH3 b1 b2 h l1 l2).push { cls := .type "tuple", data := .seq #[.none, .none] }
abbrev zipMH5 (b1 b2 : Bool) (h : Heap) (l1 l2 : Addr) : Heap := (zipMH4 b1 b2 h l1 l2).push { cls := .type "zip", data := .fields #[.none, .bool false, .bool false, .ref (zipMH2 b1 b2 h l1 l2).objs.size, .ref (zipMH3 b1 b2 h l1 l2).objs.size] }

theorem meets_zipM_new (b1 b2 : Bool) (l1 l2 : Addr) (xs ys : Array Value) :
    Meets (Builtin.«zip.__new__» ⟨[.type "zip", .ref l1, .ref l2], []⟩) (fun _ R s => IsSq b1 s.heap l1 xs ∧ IsSq b2 s.heap l2 ys ∧
      R (.ok (.ret (.ref (zipMH4 b1 b2 s.heap l1 l2).objs.size))) { s with heap := zipMH5 b1 b2 s.heap l1 l2 }) :=
  .of_wp fun prog w A R s h => by
    obtain ⟨hp, g, d, tk, os⟩ := s; obtain ⟨hl1, hl2, h⟩ := h
    have hsub := sub_zip
    have hL1 : IsSq b1 (Shared.heap ⟨hp, g, d, tk, os⟩) l1 xs := hl1
    have hL2 : IsSq b2 (Shared.heap ⟨hp.push { cls := .type (itName b1), data := .fields #[.ref l1, .int 0 0] }, g, d, tk, os⟩) l2 ys := IsSq.push hl2 _
    wp_walk using pyIter_sq hL1, pyIter_sq hL2
    exact ⟨_, rfl, h⟩

section
variable {prog : Program} {w : World} {A : Around} {E : Value → Shared → Prop} {s : Shared}

theorem call_zipM {b1 b2 : Bool} {l1 l2 : Addr} {xs ys : Array Value} {Q : Value → Shared → Prop} (hl1 : IsSq b1 s.heap l1 xs) (hl2 : IsSq b2 s.heap l2 ys)
    (h : ∀ h', IsZip h' (s.heap.objs.size + 4) (s.heap.objs.size + 2) (s.heap.objs.size + 3) .none → IsPair h' (s.heap.objs.size + 2) (.ref s.heap.objs.size) (.ref (s.heap.objs.size + 1)) →
      IsPair h' (s.heap.objs.size + 3) .none .none → IsIt b1 h' s.heap.objs.size l1 0 → IsIt b2 h' (s.heap.objs.size + 1) l2 0 → h'.objs.size = s.heap.objs.size + 5 →
      (∀ c o, s.heap.get? c = some o → h'.get? c = some o) → Q (.ref (s.heap.objs.size + 4)) { s with heap := h' }) :
    wpAny (model prog w) A (call (.type "zip") [.ref l1, .ref l2]) Q E s := by
  refine callType_new F.called_zip (by decide) (F.typeCall_zip_2 _ _) (F.newCall_zip_2 _ _) (fun obj => F.args_object_init_3 obj _ _) F.entry_zip_new
    (meets_zipM_new b1 b2 l1 l2 xs ys) ⟨hl1, hl2, ?_⟩
  have z1 : (zipMH1 b1 s.heap l1).objs.size = s.heap.objs.size + 1 := Heap.size_push ..
  have z2 : (zipMH2 b1 b2 s.heap l1 l2).objs.size = s.heap.objs.size + 2 := by rw [Heap.size_push, z1]
  have z3 : (zipMH3 b1 b2 s.heap l1 l2).objs.size = s.heap.objs.size + 3 := by rw [Heap.size_push, z2]
  have z4 : (zipMH4 b1 b2 s.heap l1 l2).objs.size = s.heap.objs.size + 4 := by rw [Heap.size_push, z3]
  have z5 : (zipMH5 b1 b2 s.heap l1 l2).objs.size = s.heap.objs.size + 5 := by rw [Heap.size_push, z4]
  have g5 : (zipMH5 b1 b2 s.heap l1 l2).get? (zipMH4 b1 b2 s.heap l1 l2).objs.size = some _ := Heap.get?_push_size _ rfl
  have g4 : (zipMH5 b1 b2 s.heap l1 l2).get? (zipMH3 b1 b2 s.heap l1 l2).objs.size = some _ := Heap.get?_push_of_some _ (Heap.get?_push_size _ rfl)
  have g3 : (zipMH5 b1 b2 s.heap l1 l2).get? (zipMH2 b1 b2 s.heap l1 l2).objs.size = some _ := Heap.get?_push_of_some _ (Heap.get?_push_of_some _ (Heap.get?_push_size _ rfl))
  have g2 : (zipMH5 b1 b2 s.heap l1 l2).get? (zipMH1 b1 s.heap l1).objs.size = some _ := Heap.get?_push_of_some _ (Heap.get?_push_of_some _ (Heap.get?_push_of_some _ (Heap.get?_push_size _ rfl)))
  have g1 : (zipMH5 b1 b2 s.heap l1 l2).get? s.heap.objs.size = some _ := Heap.get?_push_of_some _ (Heap.get?_push_of_some _ (Heap.get?_push_of_some _ (Heap.get?_push_of_some _ (Heap.get?_push_size _ rfl))))
  show _ ∧ _
  rw [z2, z3, z4] at g5
  rw [z1, z2] at g3
  rw [z3] at g4
  rw [z1] at g2
  rw [z4]
  exact ⟨⟨_, g5, rfl⟩, h _ g5 g3 g4 (IsIt.mk g1) (IsIt.mk g2) z5 fun c o x =>
    Heap.get?_push_of_some _ (Heap.get?_push_of_some _ (Heap.get?_push_of_some _ (Heap.get?_push_of_some _ (Heap.get?_push_of_some _ x))))⟩
end
end K0z


set_option Elab.async false
set_option linter.all false
set_option maxRecDepth 100000
set_option maxHeartbeats 4000000
namespace K0
open PySem PySem.Spec PyProof.Rows L2 RZ K0z

/-! ### a list or a tuple -/
def SqB (K : PySem.W.Frag) (b : Bool) (H : Hp) (a : Addr) (xs : List V) : Prop := match b with | true => SqT K H a xs | false => SqL K H a xs
theorem SqB.same {K : PySem.W.Frag} {b : Bool} {H H' : Hp} {a : Addr} {xs : List V} (s : Same H H') (h : SqB K b H a xs) : SqB K b H' a xs := by
  cases b
  · exact Same.seq s h
  · exact same_sqT s h
theorem SqB.or {K : PySem.W.Frag} {H : Hp} {a : Addr} {xs : List V} (h : SqL K H a xs ∨ SqT K H a xs) : ∃ b, SqB K b H a xs := by
  rcases h with h | h
  · exact ⟨false, h⟩
  · exact ⟨true, h⟩
theorem SqB.to {K : PySem.W.Frag} {b : Bool} {H : Hp} {a : Addr} {xs : List V} (h : SqB K b H a xs) : SqL K H a xs ∨ SqT K H a xs := by
  cases b
  · exact .inl h
  · exact .inr h
section
variable {X : Cx} {pins : List (Addr × Obj)} {σ : L2.St} {H : Hp} {s : Shared}
theorem SqB.got {b : Bool} {a : Addr} {xs : List V} (I : Inv X pins σ H s) (h : SqB X.K b H a xs) : ∃ its : List Value, Vals xs its ∧ IsSq b s.heap a its.toArray ∧ a < s.heap.objs.size := by
  cases b
  · obtain ⟨its, rv, p, _⟩ := I.list h
    exact ⟨its, rv, p.isList, p.lt⟩
  · obtain ⟨its, rv, p, _⟩ := I.tuple h
    obtain ⟨o1, ho1, _⟩ := id p
    exact ⟨its, rv, p, Heap.lt_size ho1⟩
theorem SqB.inj {b : Bool} {a : Addr} {xs ys : List V} (I : Inv X pins σ H s) (h : SqB X.K b H a xs) (h' : SqB X.K b H a ys) : xs = ys := by
  cases b
  · exact I.list_inj h h'
  · exact I.tuple_inj h h'
end
def Itb (K : PySem.W.Frag) (b : Bool) (a : Addr) : L2.It := match b with | true => Itt K a | false => Itl K a
def iSeq (K : PySem.W.Frag) (tl : TE) : TI := fun σ H R => tl σ H fun x H1 => ∃ b a, x = .ref a ∧ (∃ xs, SqB K b H1 a xs) ∧ R (Itb K b a) H1
theorem pi_seq {X : Cx} {tg l : Expr} {tl : TE} (hl : PE X l tl) : PI X tg l (iSeq X.K tl) := by
  refine ⟨fun pins s σ H R I h => ?_⟩
  refine thn (hl.run pins s σ H _ I h) fun v s1 ⟨x, H1, I1, r1, q1⟩ => ?_
  obtain ⟨b, a, e, ⟨xs, hq⟩, q⟩ := q1
  subst e
  cases r1
  cases b with
  | false =>
    obtain ⟨its, rv, p, hz⟩ := I1.list hq
    refine wpAny_pyIter_list p.isList ?_
    refine ⟨s1.heap.objs.size, [s1.heap.objs.size], _, _, H1, rfl, I1.kept (t' := s1.toks) fun b o e => Heap.get?_push_of_some _ e, turn_list a _, ⟨_, Heap.get?_push_size _ rfl, rfl, rfl⟩, fun b hb => ?_, q⟩
    have e : b = s1.heap.objs.size := by simpa using hb
    subst e
    exact I1.fpOk (Nat.le_refl _) (I1.hok.fresh (Nat.le_refl _))
  | true =>
    obtain ⟨its, rv, p, hz⟩ := I1.tuple hq
    refine wpAny_pyIter_tuple (show s1.heap.IsTuple a its.toArray from p) ?_
    refine ⟨s1.heap.objs.size, [s1.heap.objs.size], _, _, H1, rfl, I1.kept (t' := s1.toks) fun b o e => Heap.get?_push_of_some _ e, turn_tuple a _, ⟨_, Heap.get?_push_size _ rfl, rfl, rfl⟩, fun b hb => ?_, q⟩
    have e : b = s1.heap.objs.size := by simpa using hb
    subst e
    exact I1.fpOk (Nat.le_refl _) (I1.hok.fresh (Nat.le_refl _))
theorem walk_seq {K : PySem.W.Frag} {b : Bool} {a : Addr} {xs : List V} : Walk (Itb K b a) xs.length (fun H => SqB K b H a xs) (YAt xs) := by
  cases b
  · exact walk_list
  · exact walk_tup

/-! ### zip of two, each a list or a tuple -/
def ItzM (K : PySem.W.Frag) (b1 b2 : Bool) (a b : Addr) : L2.It :=
  ⟨fun i H => ∃ (xs ys : List V) (x y : V), SqB K b1 H a xs ∧ SqB K b2 H b ys ∧ xs[i]? = some x ∧ ys[i]? = some y,
    fun i H v H' => ∃ T x y, v = .ref T ∧ H T = none ∧ H' = upd H T (.tup [x, y]) ∧ (∀ xs, SqB K b1 H a xs → xs[i]? = some x) ∧ ∀ ys, SqB K b2 H b ys → ys[i]? = some y,
    fun i H => ∃ xs ys : List V, SqB K b1 H a xs ∧ SqB K b2 H b ys ∧ (xs.length ≤ i ∨ ys.length ≤ i)⟩
theorem turn_zipM {P : Program} {w : World} {K : PySem.W.Frag} {elts : List Expr} {kk : Nat} {tpos : Pos} {b1 b2 : Bool} {a b z TI TO i1 i2 : Addr} (D : ZipApart z TI TO i1 i2 a b) :
    Turn P w K (.Tuple elts kk tpos) (ItzM K b1 b2 a b) [z, TI, TO, i1, i2] z (fun i h => IsZip h z TI TO .none ∧ IsPair h TI (.ref i1) (.ref i2) ∧ (∃ x y, IsPair h TO x y) ∧ IsIt b1 h i1 a i ∧ IsIt b2 h i2 b i) where
  mem := by simp
  obj := fun i h st c hc => by
    obtain ⟨hz, hTI, ⟨x, y, hTO⟩, h1, h2⟩ := st
    obtain ⟨o1, e1, d1⟩ := h1.obj
    obtain ⟨o2, e2, d2⟩ := h2.obj
    have e' : c = z ∨ c = TI ∨ c = TO ∨ c = i1 ∨ c = i2 := by simpa using hc
    rcases e' with q | q | q | q | q
    · rw [q]; exact ⟨_, hz, fun v q => nomatch q⟩
    · rw [q]; exact ⟨_, hTI, fun v q => nomatch q⟩
    · rw [q]; exact ⟨_, hTO, fun v q => nomatch q⟩
    · rw [q]; exact ⟨o1, e1, fun v q => by rw [d1] at q; cases q⟩
    · rw [q]; exact ⟨o2, e2, fun v q => by rw [d2] at q; cases q⟩
  keep := fun i h h' st k => by
    obtain ⟨hz, hTI, ⟨x, y, hTO⟩, h1, h2⟩ := st
    exact ⟨k z (by simp) _ hz, k TI (by simp) _ hTI, ⟨x, y, k TO (by simp) _ hTO⟩, h1.at fun o q => k i1 (by simp) o q, h2.at fun o q => k i2 (by simp) o q⟩
  item := by
    intro X hP hw hK hc i pins s σ H E I hf st hg
    subst hP hw hK
    obtain ⟨hz, hTI, ⟨x0, y0, hTO⟩, h1, h2⟩ := st
    obtain ⟨xs, ys, x, y, hqx, hqy, hx, hy⟩ := hg
    obtain ⟨its, rv, p, _⟩ := SqB.got I hqx
    obtain ⟨its2, rv2, p2, _⟩ := SqB.got I hqy
    obtain ⟨u, hu, ru⟩ := rv.get hx
    obtain ⟨u2, hu2, ru2⟩ := rv2.get hy
    have hzl : z < s.heap.objs.size := Heap.lt_size hz
    refine pyNext_zipM_item D hz hTI hTO h1 h2 p p2 (x := u) (y := u2) (by simpa using hu) (by simpa using hu2) fun h' z' TO' h1' h2' hT hsz hk => ?_
    refine ⟨_, rfl, wpAny_letOwnedTupleGo_zip (s := { s with heap := h' }) z' fun h'' z'' sb => ?_⟩
    have hT2 : h''.get? s.heap.objs.size = some { cls := .type "tuple", data := .seq #[u, u2] } := (sb.2 _ (Nat.ne_of_gt hzl)).trans hT
    have new : ObjOk X.prog X.w (upd H s.heap.objs.size (.tup [x, y])) h'' s.heap.objs.size (.tup [x, y]) :=
      ⟨by show 2 ≤ sizeLine; decide, [u, u2], .cons ru (.cons ru2 .nil), ⟨_, hT2, rfl, _, rfl⟩⟩
    have I1 : Inv X pins σ (upd H s.heap.objs.size (.tup [x, y])) { s with heap := h'' } :=
      I.turnedNew (t' := s.toks) (ch := [z, TI, TO, i1, i2]) (fun c o hb q => (sb.2 c (fun q' => hb (by simp [q']))).trans (hk c o (fun q' => hb (by simp [q'])) (fun q' => hb (by simp [q'])) (fun q' => hb (by simp [q'])) (fun q' => hb (by simp [q'])) q)) hf (Nat.le_refl _) new
    refine ⟨.ref s.heap.objs.size, _, I1, rfl, ⟨_, x, y, rfl, I.hok.fresh (Nat.le_refl _), rfl, fun l hl => by rw [SqB.inj I hl hqx]; exact hx, fun l hl => by rw [SqB.inj I hl hqy]; exact hy⟩, ⟨z'', ?_, ⟨u, u2, ?_⟩, ?_, ?_⟩, fun c hcm => ?_⟩
    · exact (sb.2 _ D.TIz).trans (hk _ _ D.TIz D.TITO D.TIi1 D.TIi2 hTI)
    · exact (sb.2 _ D.TOz).trans TO'
    · exact h1'.at fun o q => (sb.2 _ D.i1z).trans q
    · exact h2'.at fun o q => (sb.2 _ D.i2z).trans q
    · have hlt : c < s.heap.objs.size := by
        have e' : c = z ∨ c = TI ∨ c = TO ∨ c = i1 ∨ c = i2 := by simpa using hcm
        rcases e' with q | q | q | q | q
        · rw [q]; exact hzl
        · rw [q]; exact Heap.lt_size hTI
        · rw [q]; exact Heap.lt_size hTO
        · rw [q]; exact h1.lt
        · rw [q]; exact h2.lt
      rw [upd_ne (Nat.ne_of_lt hlt)]
      exact (hf c hcm).1
  done := by
    intro X hP hw hK hc i pins s σ H E I hf st hg
    subst hP hw hK
    obtain ⟨hz, hTI, ⟨x0, y0, hTO⟩, h1, h2⟩ := st
    obtain ⟨xs, ys, hqx, hqy, hend⟩ := hg
    obtain ⟨its, rv, p, _⟩ := SqB.got I hqx
    obtain ⟨its2, rv2, p2, _⟩ := SqB.got I hqy
    have l1 := rv.length
    have l2 := rv2.length
    have he : its.toArray[i]? = none ∨ its2.toArray[i]? = none := by
      rcases hend with q | q
      · exact .inl (by simp; omega)
      · exact .inr (by simp; omega)
    exact pyNext_zipM_end (I.ok.hd hc) D hz hTI hTO h1 h2 p p2 he fun h' hk => ⟨rfl, I.turnedL (t' := s.toks) (ch := [z, TI, TO, i1, i2]) (fun c o hb q =>
      hk c o (fun q' => hb (by simp [q'])) (fun q' => hb (by simp [q'])) (fun q' => hb (by simp [q'])) (fun q' => hb (by simp [q'])) q) hf⟩
  self := fun A i s Q E st h => wpAny_pyIter_zip st.1 h
def iZipM (K : PySem.W.Frag) (ta : TA) : TI := fun σ H R => ta σ H fun vs H1 => ∃ b1 b2 a b xs ys, vs = [.ref a, .ref b] ∧ SqB K b1 H1 a xs ∧ SqB K b2 H1 b ys ∧ R (ItzM K b1 b2 a b) H1
theorem pi_zipM {X : Cx} {e e2 : Expr} {ta : TA} {p pos tpos : Pos} {elts : List Expr} {kk : Nat} (hg : Gl X "zip") (hm : X.mg "zip" = none) (ha : PA X [e, e2] ta)
    (hs : starEach [e, e2] X.env = (false, eval e X.env) :: starEach [e2] X.env := by rfl) (hpl : (backTo pos (starEach [e2] X.env)).any (·.1) = false := by rfl) :
    PI X (.Tuple elts kk tpos) (.Call (.Name "zip" p) [e, e2] [] pos) (iZipM X.K ta) := by
  refine ⟨fun pins s σ H R I h => ?_⟩
  refine Call_ (ld_blt I hg hm PyProof.Rows.boot_zip (PyProof.Rows.callWith_type1 (thn (ha.run pos pins s σ H _ I h) fun us s1 ⟨vs, H1, I1, r1, q1⟩ => ?_) hs hpl))
  obtain ⟨b1, b2, a, b, xs, ys, ex, hqx, hqy, q⟩ := q1
  subst ex
  obtain ⟨u1, u2, rfl, r, r'⟩ := vals2 r1
  cases r
  cases r'
  have fresh5 : ∀ c, c ∈ [s1.heap.objs.size + 4, s1.heap.objs.size + 2, s1.heap.objs.size + 3, s1.heap.objs.size, s1.heap.objs.size + 1] → FpOk X pins H1 c := fun c hcm => by
    have e' : c = s1.heap.objs.size + 4 ∨ c = s1.heap.objs.size + 2 ∨ c = s1.heap.objs.size + 3 ∨ c = s1.heap.objs.size ∨ c = s1.heap.objs.size + 1 := by simpa using hcm
    have hle : s1.heap.objs.size ≤ c := by
      rcases e' with z | z | z | z | z
      · rw [z]; exact Nat.le_add_right _ _
      · rw [z]; exact Nat.le_add_right _ _
      · rw [z]; exact Nat.le_add_right _ _
      · rw [z]; exact Nat.le_refl _
      · rw [z]; exact Nat.le_add_right _ _
    exact I1.fpOk hle (I1.hok.fresh hle)
  obtain ⟨its, rv, p1, l1⟩ := SqB.got I1 hqx
  obtain ⟨its2, rv2, p2, l2⟩ := SqB.got I1 hqy
  refine call_zipM p1 p2 fun h' hz hTI hTO h1 h2 hsz hk => wpAny_pyIter_zip hz ?_
  have I2 : Inv X pins σ H1 { s1 with heap := h' } := I1.kept (t' := s1.toks) hk
  exact ⟨s1.heap.objs.size + 4, [s1.heap.objs.size + 4, s1.heap.objs.size + 2, s1.heap.objs.size + 3, s1.heap.objs.size, s1.heap.objs.size + 1], _, _, H1, rfl, I2, turn_zipM (PySem.W.ktu_apart s1.heap.objs.size a b l1 l2), ⟨hz, hTI, ⟨_, _, hTO⟩, h1, h2⟩, fresh5, q⟩
theorem walk_zipM {K : PySem.W.Frag} {b1 b2 : Bool} {a b : Addr} {xs ys : List V} {n : Nat} (hn : n = min xs.length ys.length) : Walk (ItzM K b1 b2 a b) n (fun H => SqB K b1 H a xs ∧ SqB K b2 H b ys) (YPair (fun i => xs[i]?) (fun i => ys[i]?)) := by
  subst hn
  refine ⟨fun i _ hi q => ?_, fun _ q => ⟨xs, ys, q.1, q.2, by omega⟩, fun i H v H' _ q y => ?_⟩
  · have h1 : i < xs.length := by omega
    have h2 : i < ys.length := by omega
    exact ⟨xs, ys, xs[i], ys[i], q.1, q.2, by simp [h1], by simp [h2]⟩
  · obtain ⟨T, x, z, h1, h2, h3, h4, h5⟩ := y
    exact ⟨T, x, z, h1, h2, h3, h4 xs q.1, h5 ys q.2⟩

/-! ### the heap but for one address -/
def Off (c : Addr) (H : Hp) : Hp := fun b => if b = c then none else H b
theorem off_ne {c b : Addr} {H : Hp} (h : b ≠ c) : Off c H b = H b := if_neg h
theorem off_self {c : Addr} {H : Hp} : Off c H c = none := if_pos rfl
theorem off_same (c : Addr) (H : Hp) : Same (Off c H) H := fun b o e => by
  unfold Off at e
  split at e
  · cases e
  · exact e
theorem same_off {c : Addr} {H H' : Hp} (h : ∀ b o, b ≠ c → H b = some o → H' b = some o) : Same (Off c H) (Off c H') := fun b o e => by
  unfold Off at e ⊢
  split at e
  · cases e
  · rename_i n
    rw [if_neg n]
    exact h b o n e
theorem same_off' {c : Addr} {H H' : Hp} (h : Same H H') : Same (Off c H) (Off c H') := same_off fun b o _ e => h b o e
theorem to_off {c : Addr} {H H' : Hp} (h : Same H H') (hc : H c = none) : Same H (Off c H') := fun b o e => by
  rw [off_ne (ne_of_none e hc)]
  exact h b o e
theorem off_upd {c : Addr} {H : Hp} {o : HO} : Off c (upd H c o) = Off c H := by
  funext b
  unfold Off
  by_cases h : b = c
  · rw [if_pos h, if_pos h]
  · rw [if_neg h, if_neg h, upd_ne h]

/-! ### a comprehension without a test, over anything that is walked; what is made holds R, told off the list itself -/
def LcR (H1 : Hp) (D : Addr) (R : Nat → V → Hp → Prop) (n : Nat) (H : Hp) : Prop := ∃ acc : List V, acc.length = n ∧ H D = some (.lst acc) ∧ Same H1 H ∧ ∀ i y, acc[i]? = some y → R i y (Off D H)
section
variable {J : L2.It} {n : Nat} {G : Hp → Prop} {Y : Nat → Hp → V → Hp → Prop} {D : Addr} {te : TE} {g : TG} {vs : List Nat} {σ : L2.St} {H1 : Hp} {Qd : Hp → Prop} (R : Nat → V → Hp → Prop)
theorem lc_rel (w : Walk J n G Y) (hD : H1 D = none) (hz : n < sizeLine) (hG : ∀ H, Same H1 H → G H) (hR : ∀ i y H H', Same H H' → R i y H → R i y H')
    (hs : ∀ i x H H', i < n → Same H1 H → (∃ acc, H D = some (.lst acc)) → Y i H x H' → ∀ Rk : VK, (∀ y H4, Same H H4 → R i y (Off D H4) → Rk y H4) → g x (wipe σ vs) H' fun σ2 H2 => wipe σ2 vs = wipe σ vs ∧ te σ2 H2 Rk)
    (hd : ∀ H, LcR H1 D R n H → Qd H) :
    ∃ W : Nat → Nat → Hp → Prop, (∃ m, W 0 m (upd H1 D (.lst []))) ∧ ∀ i m H, W i m H →
      (J.stop i H ∧ Qd H) ∨ (J.go i H ∧ ∃ Nx : Hp → Prop, (∀ H', Nx H' → ∃ m', m' < m ∧ W (i + 1) m' H') ∧ ∀ x H', J.yld i H x H' → g x (wipe σ vs) H' fun σ2 H2 => wipe σ2 vs = wipe σ vs ∧ tYes σ2 H2 fun b H3 =>
        if b = true then te σ2 H3 fun y H4 => ∃ acc, H4 D = some (.lst acc) ∧ acc.length < sizeLine ∧ Nx (upd H4 D (.lst (acc ++ [y]))) else Nx H3) := by
  refine lc_it w (fun i H => LcR H1 D R i H) ⟨[], rfl, upd_same, same_upd hD, fun i y e => by cases e⟩ (fun i H _ p => hG H (by obtain ⟨_, _, _, s, _⟩ := p; exact s)) ?_ hd
  rintro i x H H' hi ⟨acc, la, hDa, s1, hr⟩ hy
  refine hs i x H H' hi s1 ⟨acc, hDa⟩ hy (fun y H4 => ∃ acc, H4 D = some (.lst acc) ∧ acc.length < sizeLine ∧ LcR H1 D R (i + 1) (upd H4 D (.lst (acc ++ [y])))) fun y H4 s4 r => ?_
  have hD4 := s4 _ _ hDa
  refine ⟨acc, hD4, by omega, acc ++ [y], by rw [List.length_append, la]; rfl, upd_same, same_at hD4 (s1.trans s4) hD, fun k z hk => ?_⟩
  rw [off_upd]
  by_cases hlt : k < acc.length
  · rw [List.getElem?_append_left hlt] at hk
    exact hR k z _ _ (same_off' s4) (hr k z hk)
  · rw [List.getElem?_append_right (by omega)] at hk
    have e0 : k - acc.length = 0 := by
      refine Nat.eq_zero_of_not_pos fun q => ?_
      rw [List.getElem?_eq_none (by show 1 ≤ k - acc.length; omega)] at hk
      cases hk
    rw [e0] at hk
    have ek : k = i := by omega
    rw [ek]
    cases hk
    exact r
/-- .. what is made is told ahead -/
theorem lc_fun (f : Nat → V) (w : Walk J n G Y) (hD : H1 D = none) (hz : n < sizeLine) (hG : ∀ H, Same H1 H → G H)
    (hs : ∀ i x H H', i < n → Same H1 H → (∃ acc, H D = some (.lst acc)) → Y i H x H' → ∀ Rk : VK, (∀ H4, Same H H4 → Rk (f i) H4) → g x (wipe σ vs) H' fun σ2 H2 => wipe σ2 vs = wipe σ vs ∧ te σ2 H2 Rk)
    (hd : ∀ H, H D = some (.lst ((List.range n).map f)) → Same H1 H → Qd H) :
    ∃ W : Nat → Nat → Hp → Prop, (∃ m, W 0 m (upd H1 D (.lst []))) ∧ ∀ i m H, W i m H →
      (J.stop i H ∧ Qd H) ∨ (J.go i H ∧ ∃ Nx : Hp → Prop, (∀ H', Nx H' → ∃ m', m' < m ∧ W (i + 1) m' H') ∧ ∀ x H', J.yld i H x H' → g x (wipe σ vs) H' fun σ2 H2 => wipe σ2 vs = wipe σ vs ∧ tYes σ2 H2 fun b H3 =>
        if b = true then te σ2 H3 fun y H4 => ∃ acc, H4 D = some (.lst acc) ∧ acc.length < sizeLine ∧ Nx (upd H4 D (.lst (acc ++ [y]))) else Nx H3) := by
  refine lc_rel (R := fun i y _ => y = f i) w hD hz hG (fun _ _ _ _ _ h => h) (fun i x H H' hi s1 ha hy Rk k => hs i x H H' hi s1 ha hy Rk fun H4 s4 => k (f i) H4 s4 rfl) fun H ⟨acc, la, hDa, s1, hr⟩ => hd H ?_ s1
  rw [hDa]
  congr 2
  refine List.ext_getElem (by simp [la]) fun k k1 k2 => ?_
  have := hr k acc[k] (List.getElem?_eq_getElem k1)
  rw [this]
  simp
end
end K0


set_option Elab.async false
set_option linter.all false
set_option maxRecDepth 100000
set_option maxHeartbeats 4000000
/-! rules with the written part told, so that they stand within comprehensions -/
namespace K0
open PySem PySem.Spec PyProof.Rows L2 RZ K0z
def rTupOf (K : PySem.W.Frag) : List V → Hp → VK → Prop := fun xs H Q => ∃ b p ys, xs = [.ref p] ∧ SqB K b H p ys ∧ (b = false → ∀ l, H l = none → Q (.ref l) (upd H l (.tup ys))) ∧ (b = true → Q (.ref p) H)
def rListOf (K : PySem.W.Frag) : List V → Hp → VK → Prop := fun xs H Q => ∃ b p ys, xs = [.ref p] ∧ SqB K b H p ys ∧ ∀ l, H l = none → Q (.ref l) (upd H l (.lst ys))
def rLen (K : PySem.W.Frag) : List V → Hp → VK → Prop := fun xs H Q => ∃ b p ys, xs = [.ref p] ∧ SqB K b H p ys ∧ Q (.int ys.length) H
def rIxB (K : PySem.W.Frag) : R2 := fun x y H Q => ∃ b p xs i v, x = .ref p ∧ y = .int i ∧ SqB K b H p xs ∧ atI xs i = some v ∧ Q v H
section
variable {X : Cx} {K : PySem.W.Frag}
theorem call_tupK (K : PySem.W.Frag) (e : X.K = K := by rfl) : CallR X (.type "tuple") (rTupOf K) := by
  subst e
  intro pins s σ H xs us Q I r h
  obtain ⟨b, p, ys, rfl, h, h1, h2⟩ := h
  refine call_tuple_of pins s σ H _ us Q I r ⟨p, ys, rfl, ?_⟩
  cases b
  · exact .inl ⟨h, h1 rfl⟩
  · exact .inr ⟨h, h2 rfl⟩
theorem call_listK (K : PySem.W.Frag) (e : X.K = K := by rfl) : CallR X (.type "list") (rListOf K) := by
  subst e
  intro pins s σ H xs us Q I r h
  obtain ⟨b, p, ys, rfl, h, h1⟩ := h
  exact call_list_of pins s σ H _ us Q I r ⟨p, ys, rfl, h.to, h1⟩
theorem call_lenK (K : PySem.W.Frag) (e : X.K = K := by rfl) : CallR X (.builtin "len") (rLen K) := by
  subst e
  intro pins s σ H xs us Q I r h
  obtain ⟨b, p, ys, rfl, h, h1⟩ := h
  exact call_len_seq pins s σ H _ us Q I r ⟨p, ys, rfl, h.to, h1⟩
theorem ix_K (K : PySem.W.Frag) (e : X.K = K := by rfl) : IxR X (rIxB K) := by
  subst e
  intro value slice pins s σ H x y v u Q I rx ry h hs
  obtain ⟨b, p, xs, i, z, e1, e2, h, e3, q⟩ := h
  cases b
  · exact ix_list _ _ pins s σ H x y v u Q I rx ry ⟨p, xs, i, z, e1, e2, h, e3, q⟩ hs
  · exact ix_tup _ _ pins s σ H x y v u Q I rx ry ⟨p, xs, i, z, e1, e2, h, e3, q⟩ hs
theorem call_isTK (K : PySem.W.Frag) (e : X.K = K := by rfl) : CallR X (.builtin "isinstance") (rIsT K) := by subst e; exact call_isT
theorem call_isAK (K : PySem.W.Frag) (e : X.K = K := by rfl) : CallR X (.builtin "isinstance") (rIsA K) := by subst e; exact call_isA
theorem pi_seqK {tg l : Expr} {tl : TE} (K : PySem.W.Frag) (hl : PE X l tl) (e : X.K = K := by rfl) : PI X tg l (iSeq K tl) := by subst e; exact pi_seq hl
theorem pi_zipMK {e e2 : Expr} {ta : TA} {p pos tpos : Pos} {elts : List Expr} {kk : Nat} (K : PySem.W.Frag) (hg : Gl X "zip") (hm : X.mg "zip" = none) (ha : PA X [e, e2] ta) (eK : X.K = K := by rfl)
    (hs : starEach [e, e2] X.env = (false, eval e X.env) :: starEach [e2] X.env := by rfl) (hpl : (backTo pos (starEach [e2] X.env)).any (·.1) = false := by rfl) :
    PI X (.Tuple elts kk tpos) (.Call (.Name "zip" p) [e, e2] [] pos) (iZipM K ta) := by subst eK; exact pi_zipM hg hm ha hs hpl
/-- xs != [], whatever the items -/
def rNeNil (K : PySem.W.Frag) : R2 := fun x y H Q => ∃ a b xs, x = .ref a ∧ y = .ref b ∧ SqL K H a xs ∧ SqL K H b [] ∧ Q (.bl (!xs.isEmpty)) H
theorem op_neNil (K : PySem.W.Frag) (hu : X.A.units + 64 < cLine) (e : X.K = K := by rfl) : OpR X (compareOp .NotEq) (rNeNil K) := by
  subst e
  intro pins s σ H x y v u Q I rx ry h
  obtain ⟨a, b, xs, rfl, rfl, hx, hy, q⟩ := h
  cases xs with
  | nil => exact op_neD hu pins s σ H _ _ _ _ Q I rx ry ⟨.list [], .list [], .lst hx .nil, .lst hy .nil, by decide, by decide, q⟩
  | cons z zs =>
    cases rx
    cases ry
    obtain ⟨its, rv, p1, _⟩ := I.list hx
    obtain ⟨its2, rv2, p2, _⟩ := I.list hy
    cases rv2
    cases rv with
    | cons r1 r2 => exact PySem.SeqAt.RcNeAt.lists_lengths p1.isList p2.isList (by simp) (by omega) X.prog X.w X.xe (EP X pins σ Q) ⟨.bl _, H, I, rfl, q⟩
end
end K0


set_option Elab.async false
set_option linter.all false
set_option maxRecDepth 100000
set_option maxHeartbeats 4000000
namespace K0
open PySem PySem.Spec PyProof.Rows L2 RZ K0z K3
/-- what a comprehension with a test has made: of the turns that c tells, in order -/
def LcF (H1 : Hp) (D : Addr) (R : Nat → V → Hp → Prop) (c : Nat → Bool) (n : Nat) (H : Hp) : Prop := ∃ acc : List V, acc.length = ((List.range n).filter c).length ∧ H D = some (.lst acc) ∧ Same H1 H ∧
  ∀ (k : Nat) (y : V) (i : Nat), acc[k]? = some y → ((List.range n).filter c)[k]? = some i → R i y (Off D H)
section
variable {J : L2.It} {n : Nat} {G : Hp → Prop} {Y : Nat → Hp → V → Hp → Prop} {D : Addr} {te : TE} {tt : TT} {g : TG} {vs : List Nat} {σ : L2.St} {H1 : Hp} {Qd : Hp → Prop} (R : Nat → V → Hp → Prop)
theorem lc_relF (c : Nat → Bool) (w : Walk J n G Y) (hD : H1 D = none) (hz : n < sizeLine) (hG : ∀ H, Same H1 H → G H) (hR : ∀ i y H H', Same H H' → R i y H → R i y H')
    (hs : ∀ i x H H', i < n → Same H1 H → (∃ acc, H D = some (.lst acc)) → Y i H x H' → ∀ Rt : Hp → Prop, ∀ Rk : VK, (c i = false → ∀ H3, Same H H3 → Rt H3) → (c i = true → ∀ y H4, Same H H4 → R i y (Off D H4) → Rk y H4) →
      g x (wipe σ vs) H' fun σ2 H2 => wipe σ2 vs = wipe σ vs ∧ tt σ2 H2 fun b H3 => if b = true then te σ2 H3 Rk else Rt H3)
    (hd : ∀ H, LcF H1 D R c n H → Qd H) :
    ∃ W : Nat → Nat → Hp → Prop, (∃ m, W 0 m (upd H1 D (.lst []))) ∧ ∀ i m H, W i m H →
      (J.stop i H ∧ Qd H) ∨ (J.go i H ∧ ∃ Nx : Hp → Prop, (∀ H', Nx H' → ∃ m', m' < m ∧ W (i + 1) m' H') ∧ ∀ x H', J.yld i H x H' → g x (wipe σ vs) H' fun σ2 H2 => wipe σ2 vs = wipe σ vs ∧ tt σ2 H2 fun b H3 =>
        if b = true then te σ2 H3 fun y H4 => ∃ acc, H4 D = some (.lst acc) ∧ acc.length < sizeLine ∧ Nx (upd H4 D (.lst (acc ++ [y]))) else Nx H3) := by
  refine lc_it w (fun i H => LcF H1 D R c i H) ⟨[], rfl, upd_same, same_upd hD, fun k y i e => by cases e⟩ (fun i H _ p => hG H (by obtain ⟨_, _, _, s, _⟩ := p; exact s)) ?_ hd
  rintro i x H H' hi ⟨acc, la, hDa, s1, hr⟩ hy
  have es : (List.range (i + 1)).filter c = (List.range i).filter c ++ if c i = true then [i] else [] := by
    rw [List.range_succ, List.filter_append]
    congr 1
    by_cases h : c i = true
    · simp [h]
    · simp [h]
  refine hs i x H H' hi s1 ⟨acc, hDa⟩ hy _ (fun y H4 => ∃ acc, H4 D = some (.lst acc) ∧ acc.length < sizeLine ∧ LcF H1 D R c (i + 1) (upd H4 D (.lst (acc ++ [y])))) (fun hc H3 s3 => ?_) fun hc y H4 s4 r => ?_
  · refine ⟨acc, ?_, s3 _ _ hDa, s1.trans s3, fun k y j h1 h2 => hR _ _ _ _ (same_off' s3) (hr k y j h1 ?_)⟩
    · rw [es, hc, la]; simp
    · rw [es, hc] at h2; simpa using h2
  · have hD4 := s4 _ _ hDa
    rw [hc, if_pos rfl] at es
    have lz : acc.length < sizeLine := by
      rw [la]
      exact Nat.lt_of_le_of_lt (List.length_filter_le ..) (by rw [List.length_range]; omega)
    refine ⟨acc, hD4, lz, acc ++ [y], ?_, upd_same, same_at hD4 (s1.trans s4) hD, fun k z j hk hj => ?_⟩
    · rw [es, List.length_append, List.length_append, la]; rfl
    rw [off_upd]
    by_cases hlt : k < acc.length
    · rw [List.getElem?_append_left hlt] at hk
      rw [es, List.getElem?_append_left (by rw [← la]; exact hlt)] at hj
      exact hR j z _ _ (same_off' s4) (hr k z j hk hj)
    · rw [List.getElem?_append_right (by omega)] at hk
      have e0 : k - acc.length = 0 := by
        refine Nat.eq_zero_of_not_pos fun q => ?_
        rw [List.getElem?_eq_none (by show 1 ≤ k - acc.length; omega)] at hk
        cases hk
      rw [e0] at hk
      rw [es, List.getElem?_append_right (by omega), ← la, e0] at hj
      cases hk
      cases hj
      exact r
/-- .. what is made is told ahead -/
theorem lc_funF (c : Nat → Bool) (f : Nat → V) (w : Walk J n G Y) (hD : H1 D = none) (hz : n < sizeLine) (hG : ∀ H, Same H1 H → G H)
    (hs : ∀ i x H H', i < n → Same H1 H → (∃ acc, H D = some (.lst acc)) → Y i H x H' → ∀ Rt : Hp → Prop, ∀ Rk : VK, (c i = false → ∀ H3, Same H H3 → Rt H3) → (c i = true → ∀ H4, Same H H4 → Rk (f i) H4) →
      g x (wipe σ vs) H' fun σ2 H2 => wipe σ2 vs = wipe σ vs ∧ tt σ2 H2 fun b H3 => if b = true then te σ2 H3 Rk else Rt H3)
    (hd : ∀ H, H D = some (.lst (((List.range n).filter c).map f)) → Same H1 H → Qd H) :
    ∃ W : Nat → Nat → Hp → Prop, (∃ m, W 0 m (upd H1 D (.lst []))) ∧ ∀ i m H, W i m H →
      (J.stop i H ∧ Qd H) ∨ (J.go i H ∧ ∃ Nx : Hp → Prop, (∀ H', Nx H' → ∃ m', m' < m ∧ W (i + 1) m' H') ∧ ∀ x H', J.yld i H x H' → g x (wipe σ vs) H' fun σ2 H2 => wipe σ2 vs = wipe σ vs ∧ tt σ2 H2 fun b H3 =>
        if b = true then te σ2 H3 fun y H4 => ∃ acc, H4 D = some (.lst acc) ∧ acc.length < sizeLine ∧ Nx (upd H4 D (.lst (acc ++ [y]))) else Nx H3) := by
  refine lc_relF (R := fun i y _ => y = f i) c w hD hz hG (fun _ _ _ _ _ h => h) (fun i x H H' hi s1 ha hy Rt Rk h1 h2 => hs i x H H' hi s1 ha hy Rt Rk h1 fun hc H4 s4 => h2 hc (f i) H4 s4 rfl) fun H ⟨acc, la, hDa, s1, hr⟩ => hd H ?_ s1
  rw [hDa]
  congr 2
  refine List.ext_getElem (by simp [la]) fun k k1 k2 => ?_
  have h2 : k < ((List.range n).filter c).length := by rw [← la]; exact k1
  have := hr k acc[k] _ (List.getElem?_eq_getElem k1) (List.getElem?_eq_getElem h2)
  rw [this]
  simp
end
theorem range_map_getD {α β : Type} (l : List α) (d : α) (g : α → β) : (List.range l.length).map (fun i => g (l.getD i d)) = l.map g := by
  refine List.ext_getElem (by simp) fun i h1 h2 => ?_
  simp at h2
  simp [List.getD_eq_getElem?_getD, List.getElem?_eq_getElem h2]
theorem erase_filter {α β : Type} (d : α) (f : α → β) : ∀ (l : List α) (k : Nat), (l.eraseIdx k).map f = ((List.range l.length).filter (fun i => i != k)).map (fun i => f (l.getD i d))
  | [], k => by simp
  | a :: l, 0 => by
    rw [List.length_cons, List.range_succ_eq_map, List.filter_cons_of_neg (by simp), List.filter_map, List.map_map]
    rw [List.filter_eq_self.mpr (by intro i _; simp)]
    show l.map f = _
    rw [← range_map_getD l d f]
    rfl
  | a :: l, k + 1 => by
    have ih := erase_filter d f l k
    rw [List.length_cons, List.range_succ_eq_map, List.filter_cons_of_pos (by simp), List.filter_map, List.map_cons, List.map_map]
    show f a :: (l.eraseIdx k).map f = _
    rw [ih]
    congr 1
    have e : (fun i => i != k + 1) ∘ Nat.succ = fun i => i != k := by
      funext i
      simp [Function.comp]
    rw [e]
    rfl
theorem find_filter {α : Type} (d : α) (p : α → Bool) : ∀ (l : List α), ((List.range l.length).filter (fun i => p (l.getD i d))).head? = l.findIdx? p
  | [] => rfl
  | a :: l => by
    have ih := find_filter d p l
    rw [List.length_cons, List.range_succ_eq_map]
    by_cases h : p a = true
    · rw [List.filter_cons_of_pos (by simpa using h)]
      simp [List.findIdx?_cons, h]
    · rw [List.filter_cons_of_neg (by simpa using h), List.filter_map]
      have e : (fun i => p ((a :: l).getD i d)) ∘ Nat.succ = fun i => p (l.getD i d) := by
        funext i
        simp [Function.comp]
      rw [e, List.head?_map, ih, List.findIdx?_cons]
      simp [h]
end K0


set_option Elab.async false
set_option linter.all false
set_option maxRecDepth 100000
set_option maxHeartbeats 4000000
set_option exponentiation.threshold 100000
namespace K0
open PySem PySem.Spec PyProof.Rows L2 RZ K0z K3

theorem gcdL_take {ns : List Int} {i : Nat} {n : Int} (h : ns[i]? = some n) : gcdL (ns.take (i + 1)) = Nat.gcd (gcdL (ns.take i)) n.natAbs := by
  unfold gcdL
  rw [take_get h, List.foldl_append]
  rfl
theorem gfold_one : ∀ (ns : List Int), ns.foldl gstep 1 = 1
  | [] => rfl
  | n :: r => by
    show r.foldl gstep (Nat.gcd 1 n.natAbs) = 1
    rw [Nat.gcd_one_left]
    exact gfold_one r
theorem gcdL_of_one {ns : List Int} {i : Nat} (h : gcdL (ns.take i) = 1) : gcdL ns = 1 := by
  have e : ns = ns.take i ++ ns.drop i := (List.take_append_drop i ns).symm
  unfold gcdL at h ⊢
  rw [e, List.foldl_append, h]
  exact gfold_one _
theorem map_int_get {ns : List Int} {i : Nat} {x : V} (h : (ns.map V.int)[i]? = some x) : ∃ n, ns[i]? = some n ∧ x = .int n := by
  rw [List.getElem?_map] at h
  cases e : ns[i]? with
  | none => rw [e] at h; cases h
  | some z =>
    rw [e] at h
    exact ⟨z, rfl, (Option.some.inj h).symm⟩
/-! ### vectors, lists of vectors -/
/-- a list or a tuple of these ints -/
def VecAt (K : PySem.W.Frag) (H : Hp) (v : V) (x : Vec) : Prop := ∃ b p, v = .ref p ∧ SqB K b H p (x.map V.int)
theorem VecAt.same {K : PySem.W.Frag} {H H' : Hp} {v : V} {x : Vec} (s : Same H H') (h : VecAt K H v x) : VecAt K H' v x := by
  obtain ⟨b, p, e, q⟩ := h
  exact ⟨b, p, e, q.same s⟩
theorem VecAt.tup {K : PySem.W.Frag} {H : Hp} {p : Addr} {x : Vec} (h : SqT K H p (x.map V.int)) : VecAt K H (.ref p) x := ⟨true, p, rfl, h⟩
theorem VecAt.lst {K : PySem.W.Frag} {H : Hp} {p : Addr} {x : Vec} (h : SqL K H p (x.map V.int)) : VecAt K H (.ref p) x := ⟨false, p, rfl, h⟩
/-- a list or tuple of such -/
def RowsAt (K : PySem.W.Frag) (H : Hp) (v : V) (M : List Vec) : Prop := ∃ b a, ∃ vs : List V, v = .ref a ∧ SqB K b H a vs ∧ vs.length = M.length ∧ ∀ (i : Nat) (u : V) (x : Vec), vs[i]? = some u → M[i]? = some x → VecAt K H u x
theorem RowsAt.same {K : PySem.W.Frag} {H H' : Hp} {v : V} {M : List Vec} (s : Same H H') (h : RowsAt K H v M) : RowsAt K H' v M := by
  obtain ⟨b, a, vs, e, q, l, z⟩ := h
  exact ⟨b, a, vs, e, q.same s, l, fun i u x h1 h2 => (z i u x h1 h2).same s⟩
theorem RowsAt.get {K : PySem.W.Frag} {H : Hp} {vs : List V} {M : List Vec} (l : vs.length = M.length) (z : ∀ (i : Nat) (u : V) (x : Vec), vs[i]? = some u → M[i]? = some x → VecAt K H u x) {i : Nat} (hi : i < M.length) :
    ∃ u, vs[i]? = some u ∧ M[i]? = some M[i] ∧ VecAt K H u M[i] := by
  have h1 : vs[i]? = some (vs[i]'(by omega)) := List.getElem?_eq_getElem (by omega)
  have h2 : M[i]? = some M[i] := List.getElem?_eq_getElem hi
  exact ⟨_, h1, h2, z i _ _ h1 h2⟩
/-- small ints -/
def Sm (x : Vec) : Prop := x.length ≤ 100 ∧ ∀ b ∈ x, b.natAbs < 2 ^ 4000
theorem gcd_lt {v : Vec} {n : Nat} (h : ∀ b ∈ v, b.natAbs < 2 ^ n) : gcdL v < 2 ^ n := by
  by_cases z : ∀ b ∈ v, b = 0
  · have : gcdL v = 0 := by
      have : (0 : Nat) ∣ gcdL v := gf_great v 0 0 (Nat.dvd_refl 0) fun b hb => by rw [z b hb]; exact Nat.dvd_refl _
      exact Nat.eq_zero_of_zero_dvd this
    rw [this]
    exact Nat.pow_pos (by decide)
  · simp only [Classical.not_forall] at z
    obtain ⟨b, hb, n0⟩ := z
    have := Nat.le_of_dvd (by omega) ((gf_dvd v 0).2 b hb)
    exact Nat.lt_of_le_of_lt this (h b hb)

def spDiv (K : PySem.W.Frag) : Sp := fun vs H Q _ => ∃ (v : V) (ns : Vec), vs = [v] ∧ VecAt K H v ns ∧ ∀ H', Same H H' → Q (.int (gcdL ns : Nat)) H'
def spRed (K : PySem.W.Frag) : Sp := fun vs H Q _ => ∃ (v : V) (ns : Vec), vs = [v] ∧ VecAt K H v ns ∧ ns.length ≤ 100 ∧ (∀ b ∈ ns, b.natAbs < 2 ^ 9000) ∧
  ∀ (p : Addr) (H' : Hp), Same H H' → SqT K H' p ((redL ns).map V.int) → Q (.ref p) H'
section
variable {P : Program} {w : World} {K : PySem.W.Frag} {mg : Str → Option Value} {base : Heap} {f g g2 g3 : Addr} {fd : FuncData}
theorem sc_divisor_of : FnScope ["values", "divisor", "value"] ["values"] (defScope st_divisor_of) := ⟨rfl, rfl, rfl, by decide +kernel, rfl, by decide +kernel, by decide +kernel⟩
theorem ok_divisor_of (F : Fun K "divisor_of" "divisor_of" st_divisor_of f fd) (T : Nm mg) : FnOk P w K mg base CX0 1 f fd ["values"] (spDiv K) := by
  refine F.ok sc_divisor_of (fun vs H Q E h => ?_) (fun cdv A outer s H vs Q E hr h => ?_)
  · obtain ⟨v, ns, rfl, _⟩ := h
    rfl
  · obtain ⟨v, ns, rfl, ⟨b, a, rfl, hS⟩, k⟩ := h
    refine ⟨_, (pss_cons (ps_set (i := 1) sc_divisor_of.nd rfl (Or.inl rfl) pe_int)
    (pss_cons (ps_for PassesOwn.never rfl (pi_seq (pv 0)) (pg_name (i := 2) sc_divisor_of.nd rfl (Or.inl rfl))
      (pss_cons (ps_set (i := 1) sc_divisor_of.nd rfl (Or.inl rfl) (pe_callBfun cr_gcd (by rfl) T.m_gcd (pa_cons (pv 1) (pa_cons (pv 2) pa_nil))))
    (pss_one (ps_if (pt_cmpR op_eq (pv 1) pe_int (nomark _)) (pss_one (ps_ret pe_int)) pss_nil))))
    (pss_one (ps_ret (pv 1))))), ?_⟩
    refine ⟨_, rfl, b, a, rfl, ⟨_, hS⟩, for_it walk_seq (fun i σ H2 => H2 = H ∧ ∃ v3 : Option V, σ = [some (.ref a), some (.int (gcdL (ns.take i) : Nat)), v3])
        ⟨rfl, none, rfl⟩ (fun i σ H2 _ p => by rw [p.1]; exact hS) ?_ ?_⟩
    · rintro i x σ H2 H3 hi ⟨rfl, v3, rfl⟩ ⟨rfl, hx⟩
      obtain ⟨n, hn', rfl⟩ := map_int_get hx
      refine ⟨_, rfl, _, rfl, ((gcdL (ns.take i) : Nat) : Int), n, rfl, ?_⟩
      have e : Nat.gcd ((gcdL (ns.take i) : Nat) : Int).natAbs n.natAbs = gcdL (ns.take (i + 1)) := (gcdL_take hn').symm
      rw [e]
      refine ⟨_, rfl, rfl, _, rfl, ?_⟩
      by_cases c : gcdL (ns.take (i + 1)) = 1
      · rw [c]
        refine iteT ?_
        have q := k H3 (Same.refl H3)
        rw [gcdL_of_one c] at q
        exact q
      · have c' : decide (V.int ((gcdL (ns.take (i + 1)) : Nat) : Int) = V.int 1) = false := decide_eq_false fun z => c (by
          have z' := V.int.inj z
          omega)
        rw [c']
        exact iteF ⟨rfl, _, rfl⟩
    · rintro σ H2 ⟨rfl, v3, rfl⟩
      refine ⟨_, rfl, ?_⟩
      rw [List.length_map, List.take_length]
      exact k _ (Same.refl _)
theorem sc_reduced : FnScope ["values", "divisor", "value"] ["values"] (defScope st_reduced) := ⟨rfl, rfl, rfl, by decide +kernel, rfl, by decide +kernel, by decide +kernel⟩
theorem range_map_get {α β : Type} (l : List α) (d : α) (g : α → β) : (List.range l.length).map (fun i => g (l.getD i d)) = l.map g := by
  refine List.ext_getElem (by simp) fun i h1 h2 => ?_
  simp at h2
  simp [List.getD_eq_getElem?_getD, List.getElem?_eq_getElem h2]
theorem ok_reduced (F : Fun K "reduced" "reduced" st_reduced f fd) (T : Nm mg) (D_divisor_of : Dn P w K mg base 1 "divisor_of" g ["values"] (spDiv K)) :
    FnOk P w K mg base CX0 2 f fd ["values"] (spRed K) := by
  refine F.ok sc_reduced (fun vs H Q E h => ?_) (fun cdv A outer s H vs Q E hr h => ?_)
  · obtain ⟨v, ns, rfl, _⟩ := h
    rfl
  · obtain ⟨v, ns, rfl, hq, hl, hb, k⟩ := h
    obtain ⟨b, a, rfl, hS⟩ := id hq
    refine ⟨_, (pss_cons (ps_set (i := 1) sc_reduced.nd rfl (Or.inr rfl) (pe_dn D_divisor_of (hr.mono (by decide)) rfl (pa_cons (pv 0) pa_nil)))
    (pss_cons (ps_if (pt_cmpR op_le (pv 1) pe_int (nomark _)) (pss_one (ps_ret (pe_callTy call_tuple_of (by rfl) T.n_tuple (by decide +kernel) (pa_cons (pv 0) pa_nil)))) pss_nil)
    (pss_one (ps_ret (pe_callTy call_tuple_of (by rfl) T.n_tuple (by decide +kernel) (pa_cons (pe_lc (own := [("value", 2)]) (g := gName 2) (tt := tYes) rfl sc_reduced.nd (pi_seq (pv 0)) (blkOk_by (N := ["values", "divisor", "value"]) (sc := defScope st_reduced) (by decide +kernel)) (fun _ _ _ _ _ => (pg_name (i := 2) sc_reduced.nd rfl (Or.inl rfl))) (fun _ _ _ _ _ => pts_nil) (fun _ _ _ _ _ => (pe_op op_fdivW (pv 2) (pv 1)))) pa_nil)))))), ?_⟩
    refine ⟨_, rfl, .ref a, ns, rfl, hq, fun H1 s1 => ?_⟩
    refine ⟨_, rfl, _, _, rfl, rfl, _, rfl, ?_⟩
    by_cases c : (gcdL ns : Int) ≤ 1
    · rw [decide_eq_true c]
      refine iteT ⟨_, rfl, a, ns.map V.int, rfl, ?_⟩
      have er : redL ns = ns := by
        unfold redL
        rw [if_pos c]
      rcases (hS.same s1).to with hS | hS
      · refine .inl ⟨hS, fun l hl => k l _ (s1.trans (same_upd hl)) ?_⟩
        rw [er]
        exact .inl (.inl upd_same)
      · refine .inr ⟨hS, k a H1 s1 ?_⟩
        rw [er]
        exact hS
    · rw [decide_eq_false c]
      refine iteF ?_
      have er : redL ns = ns.map fun n => n / (gcdL ns : Int) := by
        unfold redL
        rw [if_neg c]
      refine ⟨_, rfl, b, a, rfl, ⟨_, hS.same s1⟩, fun D hD => lc_fun (fun i => V.int (ns.getD i 0 / (gcdL ns : Int))) walk_seq hD (by rw [List.length_map]; exact Nat.lt_of_le_of_lt hl (by decide)) (fun H2 s2 => hS.same (s1.trans s2)) ?_ ?_⟩
      · rintro i x H2 H3 hi s2 ha ⟨rfl, hx⟩ Rk kk
        obtain ⟨n, hn, rfl⟩ := map_int_get hx
        refine ⟨rfl, _, rfl, _, rfl, n, _, rfl, rfl, wide_div (b := 9000) (by omega) (gcd_lt hb) (by decide) (by decide), ?_⟩
        have e := kk _ (Same.refl _)
        rw [List.getD_eq_getElem?_getD, hn] at e
        exact e
      · intro H2 hD2 s2
        refine ⟨D, _, rfl, .inl ⟨.of hD2, fun l hl => k l _ ((s1.trans s2).trans (same_upd hl)) ?_⟩⟩
        rw [er, List.length_map]
        have e2 : (List.range ns.length).map (fun i => V.int (ns.getD i 0 / (gcdL ns : Int))) = (ns.map fun n => n / (gcdL ns : Int)).map V.int := by
          rw [List.map_map]
          exact range_map_get ns 0 (V.int ∘ fun n => n / (gcdL ns : Int))
        rw [← e2]
        exact .inl (.inl upd_same)
/-! ### products -/
def spProd (K : PySem.W.Frag) : Sp := fun vs H Q _ => ∃ (u v : V) (x y : Vec), vs = [u, v] ∧ VecAt K H u x ∧ VecAt K H v y ∧ Sm x ∧ Sm y ∧ ∀ H', Same H H' → Q (.int (dot x y)) H'
theorem sc_product_of : FnScope ["row", "other", "one", "two"] ["row", "other"] (defScope st_product_of) := ⟨rfl, rfl, rfl, by decide +kernel, rfl, by decide +kernel, by decide +kernel⟩
theorem sum_dot : ∀ (x y : Vec), ((List.range (min x.length y.length)).map fun i => x.getD i 0 * y.getD i 0).sum = dot x y
  | [], y => by simp [dot_nil_l]
  | a :: as, [] => by simp [dot]
  | a :: as, b :: bs => by
    have ih := sum_dot as bs
    have e : min (a :: as).length (b :: bs).length = min as.length bs.length + 1 := by simp only [List.length_cons]; omega
    rw [e, List.range_succ_eq_map, List.map_cons, List.map_map, List.sum_cons]
    show a * b + _ = a * b + dot as bs
    rw [← ih]
    congr 2
theorem ok_product_of (F : Fun K "product_of" "product_of" st_product_of f fd) (T : Nm mg) : FnOk P w K mg base CX0 1 f fd ["row", "other"] (spProd K) := by
  refine F.ok sc_product_of (fun vs H Q E h => ?_) (fun cdv A outer s H vs Q E hr h => ?_)
  · obtain ⟨u, v, x, y, rfl, _⟩ := h
    rfl
  · obtain ⟨u, v, x, y, rfl, ⟨b1, p, rfl, hx⟩, ⟨b2, q, rfl, hy⟩, hX, hY, k⟩ := h
    refine ⟨_, (pss_one (ps_ret (pe_callB (cr_sum rfl) (by rfl) T.n_sum (by decide +kernel) (pa_cons (pe_lc (own := [("one", 2), ("two", 3)]) (g := gTup K 2 (gCons (gName 2) (gCons (gName 3) gNil))) (tt := tYes) rfl sc_product_of.nd (pi_zipM (by rfl) T.n_zip (pa_cons (pv 0) (pa_cons (pv 1) pa_nil))) (blkOk_by (N := ["row", "other", "one", "two"]) (sc := defScope st_product_of) (by decide +kernel)) (fun _ _ _ _ _ => (pg_tup (by rfl) (pgs_cons (pg_name (i := 2) sc_product_of.nd rfl (Or.inl rfl)) (pgs_cons (pg_name (i := 3) sc_product_of.nd rfl (Or.inl rfl)) pgs_nil)))) (fun _ _ _ _ _ => pts_nil) (fun _ _ _ _ _ => (pe_op op_mulW (pv 2) (pv 3)))) pa_nil)))), ?_⟩
    refine ⟨_, rfl, _, rfl, b1, b2, p, q, x.map V.int, y.map V.int, rfl, hx, hy, fun D hD => lc_fun (fun i => V.int (x.getD i 0 * y.getD i 0)) (walk_zipM rfl) hD ?_ (fun H2 s2 => ⟨hx.same s2, hy.same s2⟩) ?_ ?_⟩
    · rw [List.length_map, List.length_map]
      have := hX.1
      exact Nat.lt_of_le_of_lt (Nat.le_trans (Nat.min_le_left _ _) this) (by decide)
    · rintro i v H2 H3 hi s2 ha ⟨T', x', y', rfl, hT, rfl, e1, e2⟩ Rk kk
      obtain ⟨n, hn, rfl⟩ := map_int_get e1
      obtain ⟨m, hm, rfl⟩ := map_int_get e2
      refine ⟨T', _, rfl, .of upd_same, rfl, _, _, rfl, _, _, rfl, rfl, rfl, _, rfl, _, rfl, n, m, rfl, rfl, wide_mul (a := 4000) (b := 4000) (hX.2 n (List.mem_of_getElem? hn)) (hY.2 m (List.mem_of_getElem? hm)) (by decide) (by decide) (by decide), ?_⟩
      have e := kk _ (same_upd (o := .tup [.int n, .int m]) hT)
      rw [List.getD_eq_getElem?_getD, List.getD_eq_getElem?_getD, hn, hm] at e
      exact e
    · intro H2 hD2 s2
      refine ⟨D, (List.range (min x.length y.length)).map (fun i => x.getD i 0 * y.getD i 0), rfl, .of ?_, ?_⟩
      · rw [hD2, List.length_map, List.length_map, List.map_map]
        rfl
      · rw [sum_dot]
        exact k H2 s2
end
end K0


set_option Elab.async false
set_option linter.all false
set_option maxRecDepth 100000
set_option maxHeartbeats 4000000
set_option exponentiation.threshold 100000
namespace K0
open PySem PySem.Spec PyProof.Rows L2 RZ K0z K3

section
variable {P : Program} {w : World} {K : PySem.W.Frag} {mg : Str → Option Value} {base : Heap} {f g g2 g3 : Addr} {fd : FuncData}
/-- a list of new tuples, one for each vector -/
def TupsAt (K : PySem.W.Frag) (H : Hp) (v : V) (M : List Vec) : Prop := ∃ a, ∃ vs : List V, v = .ref a ∧ SqL K H a vs ∧ vs.length = M.length ∧ ∀ (i : Nat) (u : V) (x : Vec), vs[i]? = some u → M[i]? = some x → ∃ p, u = .ref p ∧ SqT K H p (x.map V.int)
theorem TupsAt.same {K : PySem.W.Frag} {H H' : Hp} {v : V} {M : List Vec} (s : Same H H') (h : TupsAt K H v M) : TupsAt K H' v M := by
  obtain ⟨a, vs, e, q, l, z⟩ := h
  exact ⟨a, vs, e, Same.seq s q, l, fun i u x h1 h2 => let ⟨p, e, t⟩ := z i u x h1 h2; ⟨p, e, same_sqT s t⟩⟩
theorem TupsAt.get {K : PySem.W.Frag} {H : Hp} {vs : List V} {M : List Vec} (l : vs.length = M.length) (z : ∀ (i : Nat) (u : V) (x : Vec), vs[i]? = some u → M[i]? = some x → ∃ p, u = .ref p ∧ SqT K H p (x.map V.int)) {i : Nat} (hi : i < M.length) :
    ∃ p, vs[i]? = some (.ref p) ∧ M[i]? = some M[i] ∧ SqT K H p (M[i].map V.int) := by
  have h1 : vs[i]? = some (vs[i]'(by omega)) := List.getElem?_eq_getElem (by omega)
  have h2 : M[i]? = some M[i] := List.getElem?_eq_getElem hi
  obtain ⟨p, e, t⟩ := z i _ _ h1 h2
  exact ⟨p, by rw [h1, e], h2, t⟩
/-- what a comprehension of new tuples has made -/
theorem tups_of {H1 H : Hp} {D : Addr} {M : List Vec} {n : Nat} (h : LcR H1 D (fun i y H => ∃ (p : Addr) (x : Vec), y = .ref p ∧ M[i]? = some x ∧ SqT K H p (x.map V.int)) n H) (hn : M.length = n) : TupsAt K H (.ref D) M := by
  obtain ⟨acc, la, hD, s, hr⟩ := h
  refine ⟨D, acc, rfl, .of hD, by rw [la, hn], fun i u x h1 h2 => ?_⟩
  obtain ⟨p, x', e, ex, t⟩ := hr i u h1
  rw [h2] at ex
  cases ex
  exact ⟨p, e, same_sqT (off_same D H) t⟩
def spUnits (K : PySem.W.Frag) : Sp := fun vs H Q _ => ∃ n : Nat, vs = [.int (n : Nat)] ∧ n ≤ 16 ∧ ∀ (v : V) (H' : Hp), Same H H' → TupsAt K H' v (units n) → Q v H'
abbrev scU : Scope := { kind := ScopeKind.function, names := [((".0" : Str), NameKind.local), (("at" : Str), NameKind.cell), (("tuple" : Str), NameKind.globalImplicit), (("range" : Str), NameKind.globalImplicit), (("wide" : Str), NameKind.cell)], isGenerator := false, isCoroutine := false }
theorem sc_unit_rows : FnScope ["wide", "place", "at"] ["wide"] (defScope st_unit_rows) := ⟨rfl, rfl, rfl, by decide +kernel, rfl, by decide +kernel, by decide +kernel⟩
theorem ok_unit_rows (F : Fun K "unit_rows" "unit_rows" st_unit_rows f fd) (T : Nm mg) : FnOk P w K mg base CX0 1 f fd ["wide"] (spUnits K) := by
  refine F.ok sc_unit_rows (fun vs H Q E h => ?_) (fun cdv A outer s H vs Q E hr h => ?_)
  · obtain ⟨n, rfl, _⟩ := h
    rfl
  · obtain ⟨n, rfl, hn, k⟩ := h
    refine ⟨_, (pss_one (ps_ret (pe_lc (own := [("at", 2)]) (g := gName 2) (tt := tYes) rfl sc_unit_rows.nd (pi_range1 (by rfl) T.n_range (pa_cons (pv 0) pa_nil)) (blkOk_by (N := ["wide", "place", "at"]) (sc := defScope st_unit_rows) (by decide +kernel)) (fun _ _ _ _ _ => (pg_name (i := 2) sc_unit_rows.nd rfl (Or.inr rfl))) (fun _ _ _ _ _ => pts_nil) (fun _ _ _ _ _ => (pe_callTy (call_tupK K) (by rfl) T.n_tuple (by decide +kernel) (pa_cons (pe_lc (own := [("place", 1)]) (g := gName 1) (tt := tYes) rfl sc_unit_rows.nd (pi_range1 (by rfl) T.n_range (pa_cons (pv 0) pa_nil)) (blkOk_by (N := ["wide", "place", "at"]) (sc := scU) (by decide +kernel)) (fun _ _ _ _ _ => (pg_name (i := 1) sc_unit_rows.nd rfl (Or.inl rfl))) (fun _ _ _ _ _ => pts_nil) (fun _ _ _ _ _ => (pe_callTy call_int1 (by rfl) T.n_int (by decide +kernel) (pa_cons (pe_cmpR op_eq (pv 1) (pv 2) (nomark _)) pa_nil)))) pa_nil)))))), ?_⟩
    refine ⟨_, rfl, _, rfl, by omega, by omega, fun D hD => lc_rel (R := fun i y H => ∃ (p : Addr) (x : Vec), y = .ref p ∧ (units n)[i]? = some x ∧ SqT K H p (x.map V.int)) (n := n) walk_range hD (Nat.lt_of_le_of_lt hn (by decide)) (fun _ _ => trivial)
      (fun i y H H' s ⟨p, x, e1, e2, t⟩ => ⟨p, x, e1, e2, same_sqT s t⟩) ?_ fun H2 q => k _ H2 ?_ (tups_of q (by simp [units]))⟩
    · rintro i x H2 H3 hi s2 ⟨acc, hacc⟩ ⟨rfl, rfl⟩ Rk kk
      refine ⟨rfl, _, rfl, _, rfl, by omega, by omega, fun D2 hD2 => lc_fun (fun j => V.int (if j = i then 1 else 0)) (n := n) walk_range hD2 (Nat.lt_of_le_of_lt hn (by decide)) (fun _ _ => trivial) ?_ ?_⟩
      · rintro j y H4 H5 hj s4 _ ⟨rfl, rfl⟩ Rk2 kk2
        refine ⟨rfl, _, rfl, _, rfl, rfl, .inr ⟨_, rfl, ?_⟩⟩
        have e := kk2 H5 (Same.refl _)
        have c : (if decide (V.int (0 + (j : Nat)) = V.int (0 + (i : Nat))) = true then (1 : Int) else 0) = if j = i then 1 else 0 := by
          by_cases z : j = i
          · subst z; simp
          · rw [if_neg z, if_neg]
            intro q
            have := V.int.inj (of_decide_eq_true q)
            omega
        rw [c]
        exact e
      · intro H4 hD4 s4
        refine ⟨false, D2, _, rfl, .of hD4, fun _ l hl => kk _ _ (s4.trans (same_upd hl)) ⟨l, unit n i, rfl, by simp [units, hi], ?_⟩, fun z => by cases z⟩
        have nl : l ≠ D := fun z => by
          have := s4 _ _ hacc
          rw [z, this] at hl
          cases hl
        refine .of ?_
        rw [off_ne nl, upd_same]
        unfold unit
        rw [List.map_map]
        congr 2
    · obtain ⟨acc, _, _, s2, _⟩ := q
      exact s2
/-! ### without, narrowed -/
def spOut (K : PySem.W.Frag) : Sp := fun vs H Q _ => ∃ (a b : Addr) (x y : Vec) (p pp : Int), vs = [.ref a, .int p, .ref b, .int pp] ∧ SqT K H a (x.map V.int) ∧ SqT K H b (y.map V.int) ∧ x.length = y.length ∧ x.length ≤ 16 ∧
  (∀ c ∈ x, c.natAbs < 2 ^ 1000) ∧ (∀ c ∈ y, c.natAbs < 2 ^ 1000) ∧ p.natAbs < 2 ^ 2000 ∧ pp.natAbs < 2 ^ 2000 ∧
  ∀ (q : Addr) (H' : Hp), Same H H' → SqT K H' q ((wout x p y pp).map V.int) → Q (.ref q) H'
theorem sc_without : FnScope ["row", "product", "pivot_row", "pivot_product", "one", "two"] ["row", "product", "pivot_row", "pivot_product"] (defScope st_without) := ⟨rfl, rfl, rfl, by decide +kernel, rfl, by decide +kernel, by decide +kernel⟩
theorem lin_list (p q : Int) (x y : Vec) (h : x.length = y.length) : (List.range x.length).map (fun i => V.int (x.getD i 0 * p - y.getD i 0 * q)) = (lin p q x y).map V.int := by
  refine List.ext_getElem (by simp [lin, h]) fun i h1 h2 => ?_
  have h3 : i < (lin p q x y).length := by simpa using h2
  have e := lin_get p q x y h i
  rw [List.getD_eq_getElem?_getD, List.getElem?_eq_getElem h3] at e
  simp only [List.getElem_map, List.getElem_range]
  rw [← e]
  rfl
theorem lin_bound {p q : Int} {x y : Vec} (h : x.length = y.length) (hx : ∀ c ∈ x, c.natAbs < 2 ^ 1000) (hy : ∀ c ∈ y, c.natAbs < 2 ^ 1000) (hp : p.natAbs < 2 ^ 2000) (hq : q.natAbs < 2 ^ 2000) :
    ∀ b ∈ lin p q x y, b.natAbs < 2 ^ 9000 := by
  intro b hb
  obtain ⟨i, hi, rfl⟩ := List.mem_iff_getElem.mp hb
  have e := lin_get p q x y h i
  rw [List.getD_eq_getElem?_getD, List.getElem?_eq_getElem hi, Option.getD_some] at e
  rw [e]
  have q0 : (0 : Int).natAbs < 2 ^ 1000 := Nat.pow_pos (by decide)
  have x1 := getD_mem (i := i) (P := fun v => v.natAbs < 2 ^ 1000) q0 hx
  have x2 := getD_mem (i := i) (P := fun v => v.natAbs < 2 ^ 1000) q0 hy
  have y1 := wide_lt x1 hp
  have y2 := wide_lt x2 hq
  have z := Int.natAbs_sub_le (x.getD i 0 * p) (y.getD i 0 * q)
  have b1 : 2 ^ (1000 + 2000) + 2 ^ (1000 + 2000) = 2 ^ 3001 := by rw [show 3001 = 3000 + 1 from rfl, Nat.pow_succ, Nat.mul_two]
  have b2 : 2 ^ 3001 ≤ 2 ^ 9000 := Nat.pow_le_pow_right (by decide) (by decide)
  generalize 2 ^ 9000 = B at b2 ⊢
  generalize 2 ^ 3001 = C at b1 b2
  generalize 2 ^ (1000 + 2000) = D at y1 y2 b1
  omega
theorem ok_without (F : Fun K "without" "without" st_without f fd) (T : Nm mg) (D_reduced : Dn P w K mg base 2 "reduced" g ["values"] (spRed K)) : FnOk P w K mg base CX0 3 f fd ["row", "product", "pivot_row", "pivot_product"] (spOut K) := by
  refine F.ok sc_without (fun vs H Q E h => ?_) (fun cdv A outer s H vs Q E hr h => ?_)
  · obtain ⟨a, b, x, y, p, pp, rfl, _⟩ := h
    rfl
  · obtain ⟨a, b, x, y, p, pp, rfl, hx, hy, hl, h16, bx, by_, bp, bpp, k⟩ := h
    refine ⟨_, (pss_cons (ps_if (pt_cmpR op_eq (pv 1) pe_int (nomark _)) (pss_one (ps_ret (pv 0))) pss_nil)
    (pss_one (ps_ret (pe_dn D_reduced (hr.mono (by decide)) rfl (pa_cons (pe_lc (own := [("one", 4), ("two", 5)]) (g := gTup K 2 (gCons (gName 4) (gCons (gName 5) gNil))) (tt := tYes) rfl sc_without.nd (pi_zipM (by rfl) T.n_zip (pa_cons (pv 0) (pa_cons (pv 2) pa_nil))) (blkOk_by (N := ["row", "product", "pivot_row", "pivot_product", "one", "two"]) (sc := defScope st_without) (by decide +kernel)) (fun _ _ _ _ _ => (pg_tup (by rfl) (pgs_cons (pg_name (i := 4) sc_without.nd rfl (Or.inl rfl)) (pgs_cons (pg_name (i := 5) sc_without.nd rfl (Or.inl rfl)) pgs_nil)))) (fun _ _ _ _ _ => pts_nil) (fun _ _ _ _ _ => (pe_op op_sub (pe_op op_mulW (pv 4) (pv 3)) (pe_op op_mulW (pv 5) (pv 1))))) pa_nil))))), ?_⟩
    refine ⟨_, rfl, rfl, _, rfl, ?_⟩
    by_cases c : p = 0
    · have e : decide (V.int p = V.int 0) = true := by rw [c]; rfl
      rw [e]
      refine iteT ⟨_, rfl, k a H (Same.refl H) ?_⟩
      unfold wout
      rw [if_pos c]
      exact hx
    · have e : decide (V.int p = V.int 0) = false := decide_eq_false fun z => c (V.int.inj z)
      rw [e]
      refine iteF ?_
      refine ⟨_, rfl, _, rfl, true, true, a, b, x.map V.int, y.map V.int, rfl, hx, hy, fun D hD => lc_fun (fun i => V.int (x.getD i 0 * pp - y.getD i 0 * p)) (walk_zipM rfl) hD ?_ (fun H2 s2 => ⟨SqB.same (b := true) s2 hx, SqB.same (b := true) s2 hy⟩) ?_ ?_⟩
      · rw [List.length_map, List.length_map]
        exact Nat.lt_of_le_of_lt (Nat.le_trans (Nat.min_le_left _ _) h16) (by decide)
      · rintro i v H2 H3 hi s2 ha ⟨T', x', y', rfl, hT, rfl, e1, e2⟩ Rk kk
        obtain ⟨n, hn, rfl⟩ := map_int_get e1
        obtain ⟨m, hm, rfl⟩ := map_int_get e2
        have bn := bx n (List.mem_of_getElem? hn)
        have bm := by_ m (List.mem_of_getElem? hm)
        refine ⟨T', _, rfl, .of upd_same, rfl, _, _, rfl, _, _, rfl, rfl, rfl, _, rfl, _, rfl, n, pp, rfl, rfl, wide_mul bn bpp (by decide) (by decide) (by decide), _, rfl, _, rfl, m, p, rfl, rfl, wide_mul bm bp (by decide) (by decide) (by decide), _, _, rfl, rfl, ?_⟩
        have e := kk _ (same_upd (o := .tup [.int n, .int m]) hT)
        rw [List.getD_eq_getElem?_getD, List.getD_eq_getElem?_getD, hn, hm] at e
        exact e
      · intro H2 hD2 s2
        have e0 : min (x.map V.int).length (y.map V.int).length = x.length := by rw [List.length_map, List.length_map, ← hl]; omega
        rw [e0, lin_list pp p x y hl] at hD2
        refine ⟨.ref D, lin pp p x y, rfl, ⟨false, D, rfl, .of hD2⟩, by rw [lin_len rfl hl.symm]; omega, lin_bound hl bx by_ bpp bp, fun q H3 s3 hq => k q H3 (s2.trans s3) ?_⟩
        unfold wout
        rw [if_neg c]
        exact hq
end
end K0


set_option Elab.async false
set_option linter.all false
set_option maxRecDepth 100000
set_option maxHeartbeats 4000000
set_option exponentiation.threshold 100000
namespace K0
open PySem PySem.Spec PyProof.Rows L2 RZ K0z K3

section
variable {P : Program} {w : World} {K : PySem.W.Frag} {mg : Str → Option Value} {base : Heap} {f g g2 g3 : Addr} {fd : FuncData}
structure HeldOk (n : Nat) (held : List Vec) : Prop where
  len : held.length ≤ 16
  wid : ∀ h ∈ held, h.length = n
  n16 : n ≤ 16
  bd : ∀ h ∈ held, ∀ b ∈ h, b.natAbs < 2 ^ 1000
structure RowOk (row : Vec) : Prop where
  len : row.length ≤ 16
  bd : ∀ b ∈ row, b.natAbs < 2 ^ 100
def spNarrow (K : PySem.W.Frag) : Sp := fun vs H Q _ => ∃ (v u : V) (n : Nat) (held : List Vec) (row : Vec), vs = [v, u] ∧ TupsAt K H v held ∧ VecAt K H u row ∧ HeldOk n held ∧ RowOk row ∧
  ∀ (v' : V) (H' : Hp), Same H H' → TupsAt K H' v' (narrow held row) → Q v' H'
theorem sqT_off {H : Hp} {D q : Addr} {acc xs : List V} (h : H D = some (.lst acc)) (t : SqT K H q xs) : SqT K (Off D H) q xs := by
  have ne : ∀ o, H q = some o → (∀ l, o ≠ .lst l) → Off D H q = some o := fun o e n => by
    rw [off_ne (fun z => by rw [z, h] at e; cases e; exact n _ rfl)]
    exact e
  rcases t with (t | ⟨o, t⟩) | t
  · exact .inl (.inl (ne _ t fun l z => by cases z))
  · exact .inl (.inr ⟨o, ne _ t fun l z => by cases z⟩)
  · exact .inr t
theorem getD_of {α : Type} {l : List α} {i : Nat} (h : i < l.length) (d : α) : l.getD i d = l[i] := by
  rw [List.getD_eq_getElem?_getD, List.getElem?_eq_getElem h]
  rfl
theorem HeldOk.sm {n : Nat} {held : List Vec} (o : HeldOk n held) {h : Vec} (m : h ∈ held) : Sm h :=
  ⟨by have := o.n16; have := o.wid h m; omega, fun b hb => Nat.lt_of_lt_of_le (o.bd h m b hb) (Nat.pow_le_pow_right (by decide) (by decide))⟩
theorem RowOk.sm {row : Vec} (o : RowOk row) : Sm row := ⟨by have := o.len; omega, fun b hb => Nat.lt_of_lt_of_le (o.bd b hb) (Nat.pow_le_pow_right (by decide) (by decide))⟩
theorem prod_bound {h row : Vec} {n : Nat} {held : List Vec} (o : HeldOk n held) (m : h ∈ held) (r : RowOk row) : (dot h row).natAbs < 2 ^ 2000 := by
  have b1 := dot_bound (2 ^ 100) (2 ^ 1000) h row (fun i => Nat.le_of_lt (getD_mem (i := i) (P := fun v => v.natAbs < 2 ^ 1000) (Nat.pow_pos (by decide)) (o.bd h m))) fun b hb => Nat.le_of_lt (r.bd b hb)
  rw [o.wid h m, ← Nat.pow_add] at b1
  have b2 : n * 2 ^ (1000 + 100) ≤ 16 * 2 ^ 1100 := Nat.mul_le_mul_right _ o.n16
  have b3 : 16 * 2 ^ 1100 = 2 ^ 1104 := by rw [show (16 : Nat) = 2 ^ 4 from rfl, ← Nat.pow_add]
  have b4 : 2 ^ 1104 < 2 ^ 2000 := Nat.pow_lt_pow_right (by decide) (by decide)
  rw [b3] at b2
  exact Nat.lt_of_le_of_lt (Nat.le_trans b1 b2) b4
theorem sc_narrowed : FnScope ["held", "row", "products", "each", "pivots", "at", "pivot"] ["held", "row"] (defScope st_narrowed) := ⟨rfl, rfl, rfl, by decide +kernel, rfl, by decide +kernel, by decide +kernel⟩
theorem ok_narrowed (F : Fun K "narrowed" "narrowed" st_narrowed f fd) (T : Nm mg) (D_product_of : Dn P w K mg base 1 "product_of" g ["row", "other"] (spProd K)) (D_without : Dn P w K mg base 3 "without" g2 ["row", "product", "pivot_row", "pivot_product"] (spOut K)) :
    FnOk P w K mg base CX0 4 f fd ["held", "row"] (spNarrow K) := by
  refine F.ok sc_narrowed (fun vs H Q E h => ?_) (fun cdv A outer s H vs Q E hr h => ?_)
  · obtain ⟨v, u, n, held, row, rfl, _⟩ := h
    rfl
  · obtain ⟨v, u, n, held, row, rfl, hT, hV, ho, hro, k⟩ := h
    refine ⟨_, (pss_cons (ps_set (i := 2) sc_narrowed.nd rfl (Or.inr rfl) (pe_lc (own := [("each", 3)]) (g := gName 3) (tt := tYes) rfl sc_narrowed.nd (pi_seqK K (pv 0)) (blkOk_by (N := ["held", "row", "products", "each", "pivots", "at", "pivot"]) (sc := defScope st_narrowed) (by decide +kernel)) (fun _ _ _ _ _ => (pg_name (i := 3) sc_narrowed.nd rfl (Or.inl rfl))) (fun _ _ _ _ _ => pts_nil) (fun _ _ _ _ _ => (pe_dn D_product_of (hr.mono (by decide)) rfl (pa_cons (pv 3) (pa_cons (pv 1) pa_nil))))))
    (pss_cons (ps_setLc (i := 4) (own := [("at", 5)]) (g := gName 5) rfl sc_narrowed.nd rfl rfl (sw_true rfl rfl rfl (by decide +kernel)) (pi_range1 (by rfl) T.n_range (pa_cons (pe_callB (call_lenK K) (by rfl) T.n_len (by decide +kernel) (pa_cons (pv 0) pa_nil)) pa_nil)) (blkOk_by (N := ["held", "row", "products", "each", "pivots", "at", "pivot"]) (sc := defScope st_narrowed) (by decide +kernel)) (fun _ _ _ _ _ => (pg_name (i := 5) sc_narrowed.nd rfl (Or.inl rfl))) (fun _ _ _ _ _ => (pts_one (pt_cmpR op_ne (pe_ix (ix_K K) (pv 2) (pv 5) (fun _ _ => rfl)) pe_int (nomark _)))) (fun _ _ _ _ _ => (pv 5)))
    (pss_cons (ps_if (pt_not (pt_truth (pv 4) (by intro _; rfl))) (pss_one (ps_ret (pv 0))) pss_nil)
    (pss_cons (ps_set (i := 6) sc_narrowed.nd rfl (Or.inr rfl) (pe_ix (ix_K K) (pv 4) pe_int (fun _ _ => rfl)))
    (pss_one (ps_ret (pe_lc (own := [("at", 5)]) (g := gName 5) rfl sc_narrowed.nd (pi_range1 (by rfl) T.n_range (pa_cons (pe_callB (call_lenK K) (by rfl) T.n_len (by decide +kernel) (pa_cons (pv 0) pa_nil)) pa_nil)) (blkOk_by (N := ["held", "row", "products", "each", "pivots", "at", "pivot"]) (sc := defScope st_narrowed) (by decide +kernel)) (fun _ _ _ _ _ => (pg_name (i := 5) sc_narrowed.nd rfl (Or.inl rfl))) (fun _ _ _ _ _ => (pts_one (pt_cmpR op_ne (pv 5) (pv 6) (nomark _)))) (fun _ _ _ _ _ => (pe_dn D_without (hr.mono (by decide)) rfl (pa_cons (pe_ix (ix_K K) (pv 0) (pv 5) (fun _ _ => rfl)) (pa_cons (pe_ix (ix_K K) (pv 2) (pv 5) (fun _ _ => rfl)) (pa_cons (pe_ix (ix_K K) (pv 0) (pv 6) (fun _ _ => rfl)) (pa_cons (pe_ix (ix_K K) (pv 2) (pv 6) (fun _ _ => rfl)) pa_nil))))))))))))), ?_⟩
    obtain ⟨a, vs, rfl, hS, hl, hz⟩ := id hT
    have hl16 : vs.length < sizeLine := by rw [hl]; exact Nat.lt_of_le_of_lt ho.len (by decide)
    have hl17 : held.length < sizeLine := by rw [← hl]; exact hl16
    have lH := ho.len
    let prod : Nat → Int := fun i => dot (held.getD i []) row
    refine ⟨_, rfl, false, a, rfl, ⟨_, hS⟩, fun D hD => lc_fun (fun i => V.int (prod i)) (walk_seq (b := false)) hD hl16 (fun H2 s2 => SqB.same (b := false) s2 hS) ?_ ?_⟩
    · rintro i x H2 H3 hi s2 _ ⟨rfl, hx⟩ Rk kk
      have hi2 : i < held.length := by omega
      obtain ⟨p, hp, hm, ht⟩ := TupsAt.get hl hz hi2
      rw [hp] at hx
      cases hx
      refine ⟨rfl, _, rfl, _, rfl, .ref p, u, held[i], row, rfl, VecAt.tup (same_sqT s2 ht), hV.same s2, ho.sm (List.getElem_mem hi2), hro.sm, fun H4 s4 => ?_⟩
      have e : prod i = dot held[i] row := by show dot (held.getD i []) row = _; rw [getD_of hi2]
      rw [← e]
      exact kk H4 s4
    intro H1 hD1 s1
    rw [hl] at hD1
    have hDl : SqB K false H1 D ((List.range held.length).map fun i => V.int (prod i)) := .of hD1
    have prodAt : ∀ i, i < held.length → atI ((List.range held.length).map fun i => V.int (prod i)) ((0 : Int) + (i : Nat)) = some (.int (prod i)) := fun i hi => by
      rw [Int.zero_add]
      exact atI_nat (by simp [hi])
    -- pivots
    refine ⟨_, rfl, false, a, vs, rfl, Same.seq s1 hS, _, rfl, by omega, by rw [hl]; omega, fun D2 hD2 => ?_⟩
    rw [hl]
    refine lc_funF (fun i => prod i != 0) (fun i => V.int (0 + (i : Nat))) (walk_range (lo := 0) (n := held.length)) hD2 hl17 (fun _ _ => trivial) ?_ ?_
    · rintro i x H2 H3 hi s2 _ ⟨rfl, rfl⟩ Rt Rk h1 h2
      refine ⟨rfl, _, rfl, _, rfl, false, D, _, _, _, rfl, rfl, hDl.same s2, prodAt i hi, rfl, _, rfl, ?_⟩
      by_cases c : prod i = 0
      · rw [c]
        exact iteF (h1 (by simp [c]) H3 (Same.refl _))
      · have e : decide (V.int (prod i) = V.int 0) = false := decide_eq_false fun z => c (V.int.inj z)
        rw [e]
        exact iteT ⟨_, rfl, h2 (by simpa using c) H3 (Same.refl _)⟩
    intro H2 hD2' s2
    have fe := find_filter (([] : Vec)) (fun h => dot h row != 0) held
    have fe' : ((List.range held.length).filter fun i => prod i != 0).head? = held.findIdx? (fun h => dot h row != 0) := fe
    generalize hix : (List.range held.length).filter (fun i => prod i != 0) = ix at hD2' fe'
    have s02 : Same H H2 := s1.trans s2
    refine ⟨.ref D2, rfl, !ix.isEmpty, .inl ⟨_, .of hD2', by simp⟩, ?_⟩
    cases ix with
    | nil =>
      refine iteT ⟨_, rfl, k _ H2 s02 ?_⟩
      have e : narrow held row = held := by
        unfold narrow
        rw [← fe']
        rfl
      rw [e]
      exact hT.same s02
    | cons kk ks =>
      refine iteF ?_
      have hk : held.findIdx? (fun h => dot h row != 0) = some kk := fe'.symm
      obtain ⟨hkl, _⟩ := List.findIdx?_eq_some_iff_getElem.mp hk
      refine ⟨.ref D2, rfl, false, D2, _, 0, _, rfl, rfl, .of hD2', atI_nat (j := 0) rfl, ?_⟩
      refine ⟨_, rfl, false, a, vs, rfl, Same.seq s02 hS, _, rfl, by omega, by rw [hl]; omega, fun D3 hD3 => ?_⟩
      rw [hl]
      have hkk : held.getD kk [] = held[kk] := getD_of hkl _
      obtain ⟨pk, hpk, hmk, htk⟩ := TupsAt.get hl hz hkl
      refine lc_relF (R := fun i y H => ∃ p : Addr, y = .ref p ∧ SqT K H p ((wout (held.getD i []) (prod i) (held.getD kk []) (prod kk)).map V.int)) (fun i => i != kk) (walk_range (lo := 0) (n := held.length)) hD3 hl17 (fun _ _ => trivial)
        (fun i y H H' s ⟨p, e1, t⟩ => ⟨p, e1, same_sqT s t⟩) ?_ ?_
      · rintro i x H3 H4 hi s3 ⟨acc, hacc⟩ ⟨rfl, rfl⟩ Rt Rk h1 h2
        refine ⟨rfl, _, rfl, _, rfl, rfl, _, rfl, ?_⟩
        by_cases c : i = kk
        · have e : decide (V.int (0 + (i : Nat)) = V.int (0 + (kk : Nat))) = true := by rw [c]; simp
          rw [e]
          exact iteF (h1 (by simp [c]) H4 (Same.refl _))
        · have e : decide (V.int (0 + (i : Nat)) = V.int (0 + (kk : Nat))) = false := decide_eq_false fun z => c (by have := V.int.inj z; omega)
          rw [e]
          have s03 := s02.trans s3
          obtain ⟨p, hp, hm, ht⟩ := TupsAt.get hl hz hi
          have hii : held.getD i [] = held[i] := getD_of hi _
          have at0 : ∀ j : Nat, (q : Addr) → vs[j]? = some (.ref q) → atI vs ((0 : Int) + (j : Nat)) = some (.ref q) := fun j q e => by
            rw [Int.zero_add]
            exact atI_nat e
          refine iteT ⟨_, rfl, _, rfl, false, a, vs, _, _, rfl, rfl, Same.seq s03 hS, at0 i p hp, _, rfl, _, rfl, false, D, _, _, _, rfl, rfl, hDl.same (s2.trans s3), prodAt i hi, _, rfl, _, rfl, false, a, vs, _, _, rfl, rfl, Same.seq s03 hS, at0 kk pk hpk,
            _, rfl, _, rfl, false, D, _, _, _, rfl, rfl, hDl.same (s2.trans s3), prodAt kk hkl, p, pk, held[i], held[kk], prod i, prod kk, rfl, same_sqT s03 ht, same_sqT s03 htk, ?_⟩
          have mi := List.getElem_mem hi
          have mk := List.getElem_mem hkl
          have bi : (prod i).natAbs < 2 ^ 2000 := by
            have := prod_bound ho mi hro
            rw [← hii] at this
            exact this
          have bk : (prod kk).natAbs < 2 ^ 2000 := by
            have := prod_bound ho mk hro
            rw [← hkk] at this
            exact this
          have w1 := ho.wid _ mi
          have w2 := ho.wid _ mk
          refine ⟨by rw [w1, w2], by rw [w1]; exact ho.n16, ho.bd _ mi, ho.bd _ mk, bi, bk, fun q H5 s5 hq => h2 (by simpa using c) _ H5 s5 ⟨q, rfl, ?_⟩⟩
          rw [hii, hkk]
          exact sqT_off (s5 _ _ hacc) hq
      · rintro H3 ⟨acc, la, hD3', s3, hr⟩
        have en : narrow held row = ((List.range held.length).filter fun i => i != kk).map fun i => wout (held.getD i []) (prod i) (held.getD kk []) (prod kk) := by
          unfold narrow
          rw [hk]
          exact erase_filter [] (fun h => wout h (dot h row) (held.getD kk []) (dot (held.getD kk []) row)) held kk
        refine k _ H3 (s02.trans s3) ⟨D3, acc, rfl, .of hD3', ?_, fun j y x h1 h2 => ?_⟩
        · rw [la, en, List.length_map]
        · rw [en, List.getElem?_map] at h2
          cases hi : ((List.range held.length).filter fun i => i != kk)[j]? with
          | none => rw [hi] at h2; cases h2
          | some i =>
            rw [hi] at h2
            cases h2
            obtain ⟨p, e, t⟩ := hr j y i h1 hi
            exact ⟨p, e, same_sqT (off_same _ _) t⟩
/-! ### the rank -/
end
end K0


set_option Elab.async false
set_option linter.all false
set_option maxRecDepth 100000
set_option maxHeartbeats 4000000
set_option exponentiation.threshold 100000
namespace K0
open PySem PySem.Spec PyProof.Rows L2 RZ K0z K3

section
variable {P : Program} {w : World} {K : PySem.W.Frag} {mg : Str → Option Value} {base : Heap} {f g g2 g3 : Addr} {fd : FuncData}
/-- rows that the program can take: few, not wide, not great -/
structure MatOk (M : List Vec) : Prop where
  len : M.length ≤ 16
  row : ∀ r ∈ M, r.length ≤ 16 ∧ ∀ b ∈ r, b.natAbs < 2 ^ 100
theorem held_ok {M : List Vec} {n : Nat} (hn : n ≤ 9) (o : MatOk M) (i : Nat) : HeldOk n (heldM n (M.take i)) := by
  obtain ⟨h1, h2⟩ := held_facts n (M.take i) (R := 2 ^ 100) (Nat.pow_pos (by decide)) fun r hr b hb => Nat.le_of_lt ((o.row r (List.mem_of_mem_take hr)).2 b hb)
  refine ⟨by omega, fun h m => (h2 h m).1, by omega, fun h m b hb => ?_⟩
  refine Nat.lt_of_le_of_lt ((h2 h m).2 b hb) ?_
  have e1 : 4 * (n * 2 ^ 100) ≤ 2 ^ 106 := by
    have : (2 : Nat) ^ 106 = 64 * 2 ^ 100 := by rw [show 106 = 6 + 100 from rfl, Nat.pow_add]
    omega
  have e2 : (4 * (n * 2 ^ 100)) ^ (n - 1) ≤ (2 ^ 106) ^ 8 := by
    by_cases hz : n = 0
    · subst hz
      show 1 ≤ _
      exact Nat.pow_pos (Nat.pow_pos (by decide))
    · exact Nat.le_trans (Nat.pow_le_pow_left e1 _) (Nat.pow_le_pow_right (Nat.pow_pos (by decide)) (by omega))
  refine Nat.lt_of_le_of_lt e2 ?_
  rw [← Nat.pow_mul]
  exact Nat.pow_lt_pow_right (by decide) (by decide)
theorem held_succ {n : Nat} {M : List Vec} {i : Nat} {x : Vec} (h : M[i]? = some x) : heldM n (M.take (i + 1)) = narrow (heldM n (M.take i)) x := by
  unfold heldM
  rw [take_get h, List.foldl_append]
  rfl
def spLift (K : PySem.W.Frag) : Sp := fun vs H Q _ => ∃ (u : V) (x : Vec), vs = [u] ∧ VecAt K H u x ∧ x.length ≤ 16 ∧ ∀ (p : Addr) (H' : Hp), Same H H' → H' p = some (.tup ((x ++ [1]).map V.int)) → Q (.ref p) H'
theorem sc_lifted_point : FnScope ["point"] ["point"] (defScope st_lifted_point) := ⟨rfl, rfl, rfl, by decide +kernel, rfl, by decide +kernel, by decide +kernel⟩
theorem ok_lifted_point (F : Fun K "lifted_point" "lifted_point" st_lifted_point f fd) : FnOk P w K mg base CX0 1 f fd ["point"] (spLift K) := by
  refine F.ok sc_lifted_point (fun vs H Q E h => ?_) (fun cdv A outer s H vs Q E hr h => ?_)
  · obtain ⟨u, x, rfl, _⟩ := h
    rfl
  · obtain ⟨u, x, rfl, ⟨b, p, rfl, hx⟩, hl, k⟩ := h
    refine ⟨_, (pss_one (ps_ret (pe_tup (StX.pa_star (pv 0) (pa_cons pe_int pa_nil))))), ?_⟩
    refine ⟨_, rfl, p, _, rfl, hx.to.symm, ?_, fun q hq => k q _ (same_upd hq) ?_⟩
    · rw [List.length_append, List.length_map]
      exact Nat.le_trans (Nat.add_le_add_right hl _) (by decide)
    · rw [upd_same, List.map_append]
      rfl
end
end K0


set_option Elab.async false
set_option linter.all false
set_option maxRecDepth 100000
set_option maxHeartbeats 4000000
namespace K0
open PySem PySem.Spec PyProof.Rows L2

/-! ### the makers of the errors -/
def fs1 (f : Str) : List V → List (Str × V)
  | [v] => [(f, v)]
  | _ => []
def fs2 : List V → List (Str × V)
  | [x, y] => [("most", y), ("what", x)]
  | _ => []
section
variable {P : Program} {w : World} {K : PySem.W.Frag} {mg : Str → Option Value} {base : Heap} {f C : Addr} {fd : FuncData}
abbrev si_BadPoint : Stmt := inClass (topS 11) 0
theorem sci_BadPoint : FnScope ["self", "part"] ["self", "part"] (defScope si_BadPoint) := ⟨rfl, rfl, rfl, by decide +kernel, rfl, by decide +kernel, by decide +kernel⟩
theorem oki_BadPoint (F : Fun K "__init__" "BadPoint.__init__" si_BadPoint f fd) (T : OexC K C) (no : PySem.W.findIn K (.ref C) "part" = some none) : FnOk P w K mg base CX0 1 f fd ["self", "part"] (spI C 1 (fs1 "part")) := by
  refine F.ok sci_BadPoint (fun vs H Q E h => ?_) (fun cdv A outer s H vs Q E hr h => ?_)
  · obtain ⟨a, ws, rfl, hl, _⟩ := h
    show ws.length + 1 = 2
    omega
  · obtain ⟨a, ws, rfl, hl, ha, k⟩ := h
    match ws, hl with
    | [v], _ =>
      refine ⟨_, (pss_one (ps_ost (pv 0) (pv 1))), ?_⟩
      refine ⟨_, rfl, _, rfl, a, C, rfl, T, no, .inl ⟨ha, fun d hd hda => ?_⟩⟩
      refine k d _ hd hda upd_same (by rw [upd_ne hda, upd_same]; rfl) fun b o hb e => ?_
      rw [upd_ne hb, upd_ne (ne_of_none e hd)]
      exact e
abbrev si_Misfit : Stmt := inClass (topS 12) 0
theorem sci_Misfit : FnScope ["self", "part"] ["self", "part"] (defScope si_Misfit) := ⟨rfl, rfl, rfl, by decide +kernel, rfl, by decide +kernel, by decide +kernel⟩
theorem oki_Misfit (F : Fun K "__init__" "Misfit.__init__" si_Misfit f fd) (T : OexC K C) (no : PySem.W.findIn K (.ref C) "part" = some none) : FnOk P w K mg base CX0 1 f fd ["self", "part"] (spI C 1 (fs1 "part")) := by
  refine F.ok sci_Misfit (fun vs H Q E h => ?_) (fun cdv A outer s H vs Q E hr h => ?_)
  · obtain ⟨a, ws, rfl, hl, _⟩ := h
    show ws.length + 1 = 2
    omega
  · obtain ⟨a, ws, rfl, hl, ha, k⟩ := h
    match ws, hl with
    | [v], _ =>
      refine ⟨_, (pss_one (ps_ost (pv 0) (pv 1))), ?_⟩
      refine ⟨_, rfl, _, rfl, a, C, rfl, T, no, .inl ⟨ha, fun d hd hda => ?_⟩⟩
      refine k d _ hd hda upd_same (by rw [upd_ne hda, upd_same]; rfl) fun b o hb e => ?_
      rw [upd_ne hb, upd_ne (ne_of_none e hd)]
      exact e
end
theorem vals_rev {xs : List V} {us : List Value} (r : Vals xs us) : Vals xs.reverse us.reverse := by
  induction r with
  | nil => exact .nil
  | cons h t ih =>
    rw [List.reverse_cons, List.reverse_cons]
    exact ih.append (.cons h .nil)
/-- the bundle of a class with one field -/
theorem ec1 {P : Program} {w : World} {K : PySem.W.Frag} {mg : Str → Option Value} {base : Heap} {x f q : Str} {st : Stmt} {C fI : Addr} {fd : FuncData} (o : OexC K C) (xf : XfC K C) (ec : ExcC K C)
    (h1 : PySem.W.findIn K (.ref C) "__init__" = some (some (.ref fI))) (h2 : PySem.W.typeIn K (.ref fI) = some (.type "function")) (F : Fun K "__init__" q st fI fd)
    (G : FnOk P w K mg base CX0 1 fI fd ["self", f] (spI C 1 (fs1 f))) (m : mg x = some (.ref C)) (no : PySem.W.findIn K (.ref C) f = some none)
    (b1 : ∀ (kV doc pm : Value) (an : Option Addr) (cdv ct : Value) (u v : Value), bindArgs (PySem.W.fnOf "__init__" q (defArgs st) (defBody st) (defScope st) .none kV doc pm an cdv ct) ⟨[u, v], []⟩ = pure [(("self" : Str), u), (f, v)])
    (b2 : ∀ (kV doc pm : Value) (an : Option Addr) (cdv ct : Value) (u v : Value), bindArgs (PySem.W.fnOf "__init__" q (defArgs st) (defBody st) (defScope st) .none kV doc pm an cdv ct) ⟨[u], [(f, v)]⟩ = pure [(("self" : Str), u), (f, v)]) :
    Ec P w K mg base x C 1 [f] List.reverse (fs1 f) := by
  obtain ⟨oc, od, kV, doc, pm, an, cdv, ct, osl, rfl, lk, hcd⟩ := F.ex
  refine ⟨o, xf, ec, ⟨fI, _, _, fun us _ => us, fun us ws => us ++ ws.reverse, h1, h2, G, ⟨fun s us ws X l1 l2 => ?_, fun r _ => r⟩, ⟨fun s us ws X l1 l2 => ?_, fun r rz => ?_⟩⟩, fun zs h => by rw [List.length_reverse]; exact h, by decide, m, fun ws hw q hq => ?_⟩
  · match us, ws, l1, l2 with
    | [u, v], [], _, _ => exact .of_eq (b1 kV doc pm an cdv ct u v)
  · match us, ws, l1, l2 with
    | [u], [v], _, _ => exact .of_eq (b2 kV doc pm an cdv ct u v)
  · refine r.append ?_
    rename_i vs us zs ws
    exact vals_rev rz
  · match ws, hw with
    | [v], _ =>
      cases List.mem_singleton.mp hq
      exact no
end K0


set_option Elab.async false
set_option linter.all false
set_option maxRecDepth 100000
set_option maxHeartbeats 4000000
namespace K0
open PySem PySem.Spec PyProof.Rows L2

/-! ### flat values as data -/
def toD : V → PyData
  | .bl b => .bool b
  | .int i => .int i
  | .str x => .str x
  | _ => .none
def flat : V → Bool
  | .non | .bl _ | .int _ => true
  | .str x => PyData.strOk x
  | _ => false
section
variable {K : PySem.W.Frag} {H : Hp}
theorem dpF : ∀ {v : V}, flat v = true → Dp K H v (toD v)
  | .non, _ => .non
  | .bl b, _ => .bl b
  | .int i, _ => .int i
  | .str x, _ => .str x
theorem dpAllF : ∀ {xs : List V}, xs.all flat = true → DpAll K H xs (xs.map toD)
  | [], _ => .nil
  | x :: xs, h => by
    rw [List.all_cons, Bool.and_eq_true] at h
    exact .cons (dpF h.1) (dpAllF h.2)
theorem layF : ∀ {xs : List V}, xs.all flat = true → PyData.canLayAll0 (xs.map toD) = true
  | [], _ => rfl
  | x :: xs, h => by
    rw [List.all_cons, Bool.and_eq_true] at h
    have ih := layF h.2
    cases x with
    | str z =>
      have hz : PyData.strOk z = true := h.1
      simp [toD, PyData.canLayAll0, PyData.canLay0, ih, hz]
    | _ => simp [toD, PyData.canLayAll0, PyData.canLay0, ih]
theorem depF : ∀ (xs : List V), PyData.depthAll (xs.map toD) = 0
  | [] => rfl
  | x :: xs => by
    have ih := depF xs
    cases x <;> simp [toD, PyData.depthAll, PyData.depth, ih]
theorem shapedL {xs : List V} (h : xs.all flat = true) : SeqAt.shaped (.list (xs.map toD)) = true := by
  unfold SeqAt.shaped
  rw [Bool.and_eq_true]
  refine ⟨?_, ?_⟩
  · simp only [PyData.canLay0]
    exact layF h
  · simp only [PyData.depth, depF]
    decide
theorem shapedNil : SeqAt.shaped (.list []) = true := shapedL (xs := []) rfl
theorem dpL {a : Addr} {xs : List V} (h : SqL K H a xs) (f : xs.all flat = true) : Dp K H (.ref a) (.list (xs.map toD)) := .lst h (dpAllF f)
theorem dpNil {a : Addr} (h : SqL K H a []) : Dp K H (.ref a) (.list []) := .lst h .nil
theorem eqvNil (xs : List V) : PyData.eqv (.list (xs.map toD)) (.list []) = xs.isEmpty := by
  cases xs <;> simp [PyData.eqv, PyData.eqvAll]
theorem eqv_ints : ∀ (ns ms : List Int), PyData.eqvAll ((ns.map V.int).map toD) ((ms.map V.int).map toD) = decide (ns = ms)
  | [], [] => by simp [PyData.eqvAll]
  | [], m :: ms => by simp [PyData.eqvAll]
  | n :: ns, [] => by simp [PyData.eqvAll]
  | n :: ns, m :: ms => by
    have ih := eqv_ints ns ms
    simp only [List.map_cons, toD, PyData.eqvAll, PyData.eqv, ih]
    by_cases e : n = m
    · subst e
      by_cases e2 : ns = ms
      · subst e2; simp
      · simp [e2]
    · simp [e]
theorem eqvL_ints (ns ms : List Int) : PyData.eqv (.list ((ns.map V.int).map toD)) (.list ((ms.map V.int).map toD)) = decide (ns = ms) := by
  simp only [PyData.eqv]
  exact eqv_ints ns ms
theorem flat_ints (ns : List Int) : (ns.map V.int).all flat = true := by
  induction ns with
  | nil => rfl
  | cons n ns ih => simp only [List.map_cons, List.all_cons, ih, flat, Bool.and_self]
theorem flat_bls (bs : List Bool) : (bs.map V.bl).all flat = true := by
  induction bs with
  | nil => rfl
  | cons n ns ih => simp only [List.map_cons, List.all_cons, ih, flat, Bool.and_self]
theorem eqv_same {xs : List V} (h : xs.all flat = true) : PyData.eqv (.list (xs.map toD)) (.list (xs.map toD)) = true := SeqAt.eqv_refl _ (by simp only [PyData.canLay0]; exact layF h)
end
end K0


set_option Elab.async false
set_option linter.all false
set_option maxRecDepth 100000
set_option maxHeartbeats 4000000
/-! a caught exception, held beyond its clause -/
namespace L2
open PySem PySem.Spec PyProof.Rows
/-- at a: an exception that was raised once, of the class at C, its dict at d -/
def exq (a C d : Addr) : HO := .ext fun h => ∃ (oe : Obj) (vs : Array Value), h.get? a = some oe ∧ oe.cls = .ref C ∧ oe.dict = some d ∧ oe.data = .fields vs
theorem exq_ok {P : Program} {w : World} {H : Hp} {h : Heap} {a C d : Addr} {oe : Obj} {vs : Array Value} (he : h.get? a = some oe) (h1 : oe.cls = .ref C) (h2 : oe.dict = some d) (h3 : oe.data = .fields vs) : ObjOk P w H h a (exq a C d) :=
  ⟨⟨oe, vs, he, h1, h2, h3⟩, ⟨_, he⟩, fun hp1 hp2 z k => by
    obtain ⟨o, vs, q, r⟩ := z
    exact ⟨o, vs, k _ q, r⟩⟩
theorem exq_at {P : Program} {w : World} {H : Hp} {h : Heap} {a C d : Addr} (hok : HOk P w H h) (he : H a = some (exq a C d)) : ∃ (vs : Array Value) (sl : Array (Option Value)), h.get? a = some ({ cls := .ref C, dict := some d, data := .fields vs, slots := sl } : Obj) := by
  have x : ObjOk P w H h a (.ext fun h => ∃ (oe : Obj) (vs : Array Value), h.get? a = some oe ∧ oe.cls = .ref C ∧ oe.dict = some d ∧ oe.data = .fields vs) := hok a _ he
  obtain ⟨⟨oe, vs, q1, q2, q3, q4⟩, _, _⟩ := x
  obtain ⟨oc, od, oda, osl⟩ := oe
  dsimp only at q2 q3 q4
  subst q2 q3 q4
  exact ⟨vs, osl, q1⟩
section
variable {X : Cx} {pins : List (Addr × Obj)} {σ : L2.St} {H : Hp} {s : Shared}
/-- an object that stands already is tracked from now on -/
theorem Inv.track {a : Addr} {oe : Obj} {vs : Array Value} {o : HO} (I : Inv X pins σ H s) (ha : s.heap.get? a = some oe) (hd : oe.data = .fields vs) (nH : H a = none) (nL : a ≠ X.env.locals) (npin : ∀ p ∈ X.pn ++ pins, p.1 ≠ a) (n0 : X.s_0.heap.get? a = none)
    (ok : ObjOk X.prog X.w (upd H a o) s.heap a o) : Inv X pins σ (upd H a o) s := by
  refine ⟨I.ok, I.os, I.bare, ⟨I.base.keep, I.base.slot, fun b ob q n hx => ?_, I.base.there, fun b xs q => ?_, fun b ob u q => ?_, fun b ps q => ?_⟩, I.loc, I.cell, ?_, fun x c e => ?_, fun p hp => ?_, ?_, I.len⟩
  · have hb : b ≠ a := fun z => by rw [z, n0] at q; cases q
    rw [upd_ne hb]
    exact I.base.free b ob q n hx
  · have e := I.base.tups b xs q
    rw [upd_ne (ne_of_none e nH)]
    exact e
  · have e := I.base.frzs b ob u q
    rw [upd_ne (ne_of_none e nH)]
    exact e
  · obtain ⟨more, e⟩ := I.base.tbls b ps q
    exact ⟨more, by rw [upd_ne (ne_of_none e nH)]; exact e⟩
  · rw [upd_ne (Ne.symm nL)]
    exact I.free
  · obtain ⟨v, ob, q1, q2⟩ := I.cell x c e
    have hc : c ≠ a := fun z => by
      rw [z, ha] at q1
      cases q1
      rw [hd] at q2
      cases q2
    rw [upd_ne hc]
    exact I.freeC x c e
  · obtain ⟨e, n, r⟩ := I.pin p hp
    exact ⟨e, by rw [upd_ne (npin p hp)]; exact n, r⟩
  · exact I.hok.laidN (fun _ _ q => q) nH ok
end
/-- what 'except x as n: y = n' wishes of an exception of the body -/
def wKeep (K : PySem.W.Frag) (c : Value) (i j l : Nat) (D : Ends) : WX := fun cls d σ H =>
  ∃ C dd, cls = .ref C ∧ d = some dd ∧ PySem.W.exmOne K cls c = some true ∧ ∀ a, H a = none → σ.length = l → D.nx ((((σ.set i (some (.ref a))).set j (some (.ref a))).set i none)) (upd H a (exq a C dd))
section
variable {X : Cx} {x n y : Str} {c : Value} {i j : Nat} {body : List Stmt} {np pos pos' p1 p2 p3 : Pos} {tb : WX → TS}
theorem ps_try_keep (hs : X.stack = X.env :: X.outer) (hf : X.env.frame = some X.env.locals) (hN : X.N.Nodup) (hi : X.N[i]? = some n) (hj : X.N[j]? = some y) (hln : X.env.kindOf n = some .local) (hly : X.env.scope.names.lookup y = some .local) (hil : i < X.N.length) (hc : Names X x c)
    (hex : X.ex = [])
    (hb : ∀ (W : WX) (pn : List (Addr × Obj)) (xe : Value → Shared → Prop), Takes (X.tr pn xe) W → PassesOwn (model X.prog X.w) X.A X.env xe → PSs (X.tr pn xe) body (tb W))
    (hdb : (n == ("__debug__" : Str)) = false := by decide) (hcd : (n == ("__classdict__" : Str)) = false := by decide) :
    PS X (.Try body [.ExceptHandler (some (.Name x np)) (some n) [.Assign [.Name y p1] (.Name n p2) p3] pos'] [] [] pos) (fun D σ H => tb (wKeep X.K c i j X.N.length D) D σ H) := by
  refine ⟨fun pins s σ H D I h => ?_⟩
  have ok := I.ok
  have hfr : X.A.frames = some (X.env :: X.outer) := by rw [ok.frames, hs]
  have hloc : Loc X.env.scope n := .inl hln
  refine wpAny_Try_except ?_
  refine wpAny_mono ((hb (wKeep X.K c i j X.N.length D) (X.pn ++ pins) (fun e s₁ => wpAny (model X.prog X.w) X.A (noteFrame e X.env) (fun _ s₂ => wpAny (model X.prog X.w) X.A (setFlight e none) (fun _ s₃ =>
    wpAny (model X.prog X.w) X.A (handleBy e X.env [.ExceptHandler (some (.Name x np)) (some n) [.Assign [.Name y p1] (.Name n p2) p3] pos']) (SP X pins D) X.xe s₃) X.xe s₂) X.xe s₁) (fun u s' xx => ?_) PassesOwn.looking).run [] s σ H D (I.toTry _) h) (fun f s1 hsp => ?_) (fun e s1 he => he)
  · obtain ⟨a, B, sI, pins', σ', H', cls, d, rfl, J', nb, up, sky, na, os, ag, C, dd, rfl, rfl, hb1, hyes⟩ := xx
    have J : Inv X pins σ' H' sI := J'.ofTry ok
    have sky' : Sky B (X.env :: X.outer) a (Zc (.ref C) (some dd)) X.env.locals s'.heap := by rw [← hs]; exact sky
    show wpAny (model X.prog X.w) X.A (noteFrame (.ref a) X.env) _ _ _
    refine Sky.land Zc.steady hfr hf sky' fun h3 fl3 up3 => ?_
    have J3 : Inv X pins σ' H' { s' with heap := h3 } := J.landed nb fl3.1 (up.trans up3) os ag
    obtain ⟨oe3, vs3, he3, hz3, hd3⟩ := fl3.there
    have notFr : ∀ {h : Heap} {o : Obj} {vs : Array Value}, h.FunFrames B (X.env :: X.outer) → h.get? a = some o → o.data = .fields vs → a ∉ frs (X.env :: X.outer) := fun {h o vs} ff e dd hm => by
      obtain ⟨_, o', e', hnf⟩ := ff.mem hm
      rw [e] at e'; cases e'
      exact hnf _ dd
    have nfr := notFr fl3.2.2.1 he3 hd3
    have nL : a ≠ X.env.locals := fun z => nfr (List.mem_filterMap.mpr ⟨X.env, List.mem_cons_self, by rw [hf, z]⟩)
    have nF : a ∉ X.fs := fun hm => by
      obtain ⟨e, he, q⟩ := List.mem_filterMap.mp hm
      exact nfr (List.mem_filterMap.mpr ⟨e, List.mem_cons_of_mem _ he, q⟩)
    have gB : B.get? a = none := fl3.2.1
    have n0 : X.s_0.heap.get? a = none := by
      cases e : X.s_0.heap.get? a with
      | none => rfl
      | some o =>
        obtain ⟨o', e'⟩ := J.base.there a o e (by rw [hex]; exact List.not_mem_nil)
        have q := nb a o' e' (by rw [hs]; exact nfr)
        rw [gB] at q
        cases q
    have npin : ∀ p ∈ X.pn ++ pins, p.1 ≠ a := fun p hp z => by
      obtain ⟨e, _, nl, nf, _⟩ := J.pin p hp
      have q := nb p.1 p.2 e (by rw [hs, z]; exact nfr)
      rw [z, gB] at q
      cases q
    have S3 := J3.suite he3 hd3 na nL nF
    refine wpAny_handleBy_cons (codeAny_handlers_test ?_) (by intro q; cases q)
    have LT : PySem.W.Looks (model X.prog X.w) h3 (typeOf (.ref a)) (.ref C) := fun A Q E s k q => wpAny_typeOf_ref (k _ _ he3) (by rw [hz3.1]; exact q)
    have LM := PySem.W.exm_one (M := model X.prog X.w) (J3.kIn) LT hb1
    have test : ∀ {Q : Value → Shared → Prop} {E : Value → Shared → Prop}, Q c { s' with heap := h3 } → wpAny (model X.prog X.w) (X.A.mark (some (.ref a))) (eval (.Name x np) X.env) Q E { s' with heap := h3 } := fun {Q E} q => by
      obtain ⟨hg, hdbg, hm | ⟨hm, hv, hnn⟩⟩ := hc
      · exact ld_glob (X := X.suite a ((a, oe3) :: (X.pn ++ pins))) S3 hg hm q hdbg
      · exact ld_blt (X := X.suite a ((a, oe3) :: (X.pn ++ pins))) S3 hg hm hv q hnn hdbg
    refine test (LM.here ?_)
    refine codeAny_handlers_suite_as ?_
    refine HandSPX.lands_againZ fl3 fun h4 fl4 up4 => ?_
    have J4 : Inv X pins σ' H' { s' with heap := h4 } := J.landed nb fl4.1 ((up.trans up3).trans up4) os ag
    obtain ⟨oe4, vs4, he4, hz4, hd4⟩ := fl4.there
    have S4 := J4.suite he4 hd4 na nL nF
    refine store_ok (X := X.suite a ((a, oe4) :: (X.pn ++ pins))) (v := .ref a) S4 hN hi hloc rfl (fun s5 S5 => ?_) (.inr hln)
    have hpv : PSs (X.suite a ((a, oe4) :: (X.pn ++ pins))) [.Assign [.Name y p1] (.Name n p2) p3] (tAsg (tVar i) (gName j)) := pss_one (ps_set (X := X.suite a ((a, oe4) :: (X.pn ++ pins))) hN hj (.inl hly) (pe_var (X := X.suite a ((a, oe4) :: (X.pn ++ pins))) hi (.inl hln) hdb hcd) rfl (.inr hly))
    have hlen : i < σ'.length := by rw [J.len]; exact hil
    refine wpAny_mono (hpv.run [] s5 _ H' { nx := fun σ6 H6 => σ6 = (σ'.set i (some (.ref a))).set j (some (.ref a)) ∧ H6 = H', rt := fun _ _ => False, bk := fun _ _ => False, ct := fun _ _ => False } S5 ⟨.ref a, List.getElem?_set_self hlen, rfl, rfl⟩) (fun f s6 hsp => ?_) (fun _ _ z => False.elim z)
    cases f with
    | next =>
      obtain ⟨σ6, H6, S6, rfl, rfl⟩ := hsp
      refine gone_ok (X := X.suite a ((a, oe4) :: (X.pn ++ pins))) S6 hN hi hln fun s7 S7 => ?_
      obtain ⟨g7, _, _, _, _⟩ := S7.pin (a, oe4) (List.mem_append_left _ List.mem_cons_self)
      have J7 : Inv X pins _ H6 s7 := S7.unsuite ok
      exact ⟨_, _, J7.track g7 hd4 na nL npin n0 (exq_ok g7 hz4.1 hz4.2 hd4), hyes a na J.len⟩
    | brk =>
      obtain ⟨σ6, H6, S6, q6⟩ := hsp
      exact q6.elim
    | cont =>
      obtain ⟨σ6, H6, S6, q6⟩ := hsp
      exact q6.elim
    | ret u =>
      obtain ⟨v6, σ6, H6, S6, r6, q6⟩ := hsp
      exact q6.elim
  · cases f with
    | next =>
      obtain ⟨σ', H', J', q⟩ := hsp
      exact wpAny_execs_nil ⟨σ', H', J'.ofTry ok, q⟩
    | brk =>
      obtain ⟨σ', H', J', q⟩ := hsp
      exact ⟨σ', H', J'.ofTry ok, q⟩
    | cont =>
      obtain ⟨σ', H', J', q⟩ := hsp
      exact ⟨σ', H', J'.ofTry ok, q⟩
    | ret u =>
      obtain ⟨v, σ', H', J', r, q⟩ := hsp
      exact ⟨v, σ', H', J'.ofTry ok, r, q⟩
end
end L2


set_option Elab.async false
set_option linter.all false
set_option maxRecDepth 100000
set_option maxHeartbeats 4000000
set_option exponentiation.threshold 100000
namespace K0
open PySem PySem.Spec PyProof.Rows L2 RZ K0z K3

theorem pe_cint {X : Cx} {x : Str} {pos : Pos} {n : Int} (hg : Gl X x) (hm : ∃ t, X.mg x = some (.int n t)) (hd : (x == ("__debug__" : Str)) = false := by decide) : PE X (.Name x pos) (tC (.int n)) := by
  obtain ⟨t, h⟩ := hm
  exact pe_glob hg h ⟨t, rfl⟩ hd
/-- what a raise of the class x, by place, wants -/
def RaiseC (P : Program) (w : World) (K : PySem.W.Frag) (mg : Str → Option Value) (base : Heap) (x : Str) (C : Addr) (f : Str) : Prop :=
  ∃ fI fd ps, PySem.W.findIn K (.ref C) "__init__" = some (some (.ref fI)) ∧ PySem.W.typeIn K (.ref fI) = some (.type "function") ∧ FnOk P w K mg base CX0 1 fI fd ps (spI C 1 (fs1 f)) ∧ Binds K fd ps [] ∧ OexC K C ∧ mg x = some (.ref C)
section
variable {X : Cx} {C : Addr} {x f : Str} {p pos : Pos} {e : Expr} {v : V}
theorem pmk_c (D : RaiseC X.prog X.w X.K X.mg X.base x C f) (hr : Room 2 X.A) (hg : Gl X x) (ha : PA X [e] (tCons (tC v) tNil))
    (hdb : (x == ("__debug__" : Str)) = false := by decide) (hs : starEach [e] X.env = (false, eval e X.env) :: starEach [] X.env := by rfl) :
    PMk X (.Call (.Name x p) [e] [] pos) (fun _ H Q => ∀ (d : Addr) (H' : Hp), H d = none → H' d = some (.xd (fs1 f [v])) → Same H H' → Q (.ref C) (some d) H') := by
  obtain ⟨fI, fd, ps, h1, h2, F, B, T, m⟩ := D
  have h := pmk_oex (p := p) (pos := pos) T h1 h2 F hr B .nil pass0 hg m ha hdb hs (by rfl)
  intro pins s σ H1 Q I q
  refine h pins s σ H1 Q I ?_
  refine ⟨by show 1 ≤ 1000; decide, fun a ha => ⟨a, [v], rfl, rfl, upd_same, fun d H2 hd hda e1 e2 e3 => ⟨rfl, d, _, e1, e2, ?_, ?_⟩⟩⟩
  · rw [upd_ne hda] at hd
    exact hd
  · rw [upd_ne hda] at hd
    refine q d _ hd upd_same fun b o hb => ?_
    have nb : b ≠ d := ne_of_none hb hd
    have nba : b ≠ a := ne_of_none hb ha
    rw [upd_ne nb, del_ne nba]
    exact e3 b o nba (by rw [upd_ne nba]; exact hb)
end
/-! ### any value as rows -/
/-- v: no list or tuple; or one of items, each of which is none, or one of these items -/
def ValAt (K : PySem.W.Frag) (H : Hp) (v : V) : Option (List (Option (List V))) → Prop
  | none => Seqs K H v none
  | some os => ∃ vs : List V, Seqs K H v (some vs) ∧ vs.length = os.length ∧ ∀ (i : Nat) (u : V) (o : Option (List V)), vs[i]? = some u → os[i]? = some o → Seqs K H u o ∧ Items K H o
theorem ValAt.same {K : PySem.W.Frag} {H H' : Hp} {v : V} {o : Option (List (Option (List V)))} (s : Same H H') (h : ValAt K H v o) : ValAt K H' v o := by
  cases o with
  | none =>
    have h' : Seqs K H v none := h
    exact Seqs.same s h'
  | some os =>
    obtain ⟨vs, h1, h2, h3⟩ := h
    exact ⟨vs, h1.same s, h2, fun i u o a b => ⟨(h3 i u o a b).1.same s, (h3 i u o a b).2.same s⟩⟩
theorem Seqs.sqB {K : PySem.W.Frag} {H : Hp} {v : V} {xs : List V} (h : Seqs K H v (some xs)) : ∃ b a, v = .ref a ∧ SqB K b H a xs ∧ xs.length < sizeLine := by
  obtain ⟨_, hz, a, e, h2⟩ := h
  obtain ⟨b, q⟩ := SqB.or h2
  exact ⟨b, a, e, q, hz⟩
def ptsB (os : List (Option (List V))) (l m : V) : Bool := match os with
  | [] => false
  | o :: r => lenB o l m && (o :: r).all fun q => lenB q (.int (o.getD []).length) (.int (o.getD []).length) && intsB q
def spPts (K : PySem.W.Frag) : Sp := fun vs H Q _ => ∃ (v : V) (l m : Int) (os : List (Option (List V))), vs = [v, .int l, .int m] ∧ ValAt K H v (some os) ∧ os ≠ [] ∧ ∀ H', Same H H' → Q (.bl (ptsB os (.int l) (.int m))) H'
section
variable {P : Program} {w : World} {K : PySem.W.Frag} {mg : Str → Option Value} {base : Heap} {f g g2 g3 C : Addr} {fd : FuncData}
theorem ValAt.get {K : PySem.W.Frag} {H : Hp} {vs : List V} {os : List (Option (List V))} (l : vs.length = os.length) (z : ∀ (i : Nat) (u : V) (o : Option (List V)), vs[i]? = some u → os[i]? = some o → Seqs K H u o ∧ Items K H o) {i : Nat} (hi : i < os.length) :
    ∃ u, vs[i]? = some u ∧ os[i]? = some os[i] ∧ Seqs K H u os[i] ∧ Items K H os[i] := by
  have h1 : vs[i]? = some (vs[i]'(by omega)) := List.getElem?_eq_getElem (by omega)
  have h2 : os[i]? = some os[i] := List.getElem?_eq_getElem hi
  exact ⟨_, h1, h2, z i _ _ h1 h2⟩
theorem sc_are_points : FnScope ["value", "least_wide", "most_wide", "point"] ["value", "least_wide", "most_wide"] (defScope st_are_points) := ⟨rfl, rfl, rfl, by decide +kernel, rfl, by decide +kernel, by decide +kernel⟩
theorem ok_are_points (F : Fun K "are_points" "are_points" st_are_points f fd) (T : Nm mg) (D_is_list : Dn P w K mg base 3 "is_list" g ["value", "least", "most"] (spIsList K)) (D_is_point : Dn P w K mg base 5 "is_point" g2 ["value", "wide"] (spIsPoint K)) :
    FnOk P w K mg base CX0 6 f fd ["value", "least_wide", "most_wide"] (spPts K) := by
  refine F.ok sc_are_points (fun vs H Q E h => ?_) (fun cdv A outer s H vs Q E hr h => ?_)
  · obtain ⟨v, l, m, os, rfl, _⟩ := h
    rfl
  · obtain ⟨v, l, m, os, rfl, hv, hne, k⟩ := h
    refine ⟨_, (pss_cons (ps_if (pt_not (pt_val (pe_dn D_is_list (hr.mono (by decide)) rfl (pa_cons (pe_ix (ix_K K) (pv 0) pe_int (fun _ _ => rfl)) (pa_cons (pv 1) (pa_cons (pv 2) pa_nil)))))) (pss_one (ps_ret pe_bl)) pss_nil)
    (pss_one (ps_ret (pe_callB (cr_all rfl) (by rfl) T.n_all (by decide +kernel) (pa_cons (pe_lc (own := [("point", 3)]) (g := gName 3) (tt := tYes) rfl sc_are_points.nd (pi_seqK K (pv 0)) (blkOk_by (N := ["value", "least_wide", "most_wide", "point"]) (sc := defScope st_are_points) (by decide +kernel)) (fun _ _ _ _ _ => (pg_name (i := 3) sc_are_points.nd rfl (Or.inl rfl))) (fun _ _ _ _ _ => pts_nil) (fun _ _ _ _ _ => (pe_dn D_is_point (hr.mono (by decide)) rfl (pa_cons (pv 3) (pa_cons (pe_callB (call_lenK K) (by rfl) T.n_len (by decide +kernel) (pa_cons (pe_ix (ix_K K) (pv 0) pe_int (fun _ _ => rfl)) pa_nil)) pa_nil))))) pa_nil))))), ?_⟩
    obtain ⟨vs, hS, hl, hz⟩ := id hv
    obtain ⟨b, a, rfl, hB, hz2⟩ := hS.sqB
    cases os with
    | nil => exact absurd rfl hne
    | cons o r =>
      obtain ⟨u0, e0, _, hs0, hi0⟩ := ValAt.get hl hz (i := 0) (by simp)
      have at0 : atI vs 0 = some u0 := atI_nat (j := 0) e0
      refine ⟨_, rfl, b, a, vs, 0, u0, rfl, rfl, hB, at0, _, rfl, _, rfl, u0, .int l, .int m, o, rfl, hs0, .inr ⟨l, rfl⟩, .inr ⟨m, rfl⟩, fun H1 s1 => ⟨_, rfl, ?_⟩⟩
      cases c : lenB o (.int l) (.int m) with
      | false =>
        refine iteT ?_
        have q := k H1 s1
        have e : ptsB (o :: r) (.int l) (.int m) = (lenB o (.int l) (.int m) && (o :: r).all fun q => lenB q (.int (o.getD []).length) (.int (o.getD []).length) && intsB q) := rfl
        rw [e, c] at q
        exact q
      | true =>
        refine iteF ?_
        cases o with
        | none => cases c
        | some ys =>
          have hs0' : Seqs K H u0 (some ys) := hs0
          obtain ⟨b0, a0, eu, hB0, _⟩ := hs0'.sqB
          subst eu
          refine ⟨_, rfl, b, a, rfl, ⟨_, hB.same s1⟩, fun D hD => lc_fun (fun i => V.bl (lenB (((some ys) :: r).getD i none) (.int (ys.length : Nat)) (.int (ys.length : Nat)) && intsB (((some ys) :: r).getD i none))) walk_seq hD hz2 (fun H2 s2 => hB.same (s1.trans s2)) ?_ ?_⟩
          · rintro i x H2 H3 hi s2 _ ⟨rfl, hx⟩ Rk kk
            have hi2 : i < ((some ys) :: r).length := by omega
            obtain ⟨u, e1, e2, hs, hit⟩ := ValAt.get hl hz hi2
            rw [e1] at hx
            cases hx
            have s12 := s1.trans s2
            refine ⟨rfl, _, rfl, _, rfl, b, a, vs, 0, _, rfl, rfl, hB.same s12, at0, b0, a0, ys, rfl, hB0.same s12, _, (ys.length : Nat), _, rfl, hs.same s12, hit.same s12, fun H4 s4 => ?_⟩
            have e := kk H4 s4
            rw [getD_of hi2] at e
            exact e
          · intro H2 hD2 s2
            refine ⟨D, (List.range vs.length).map (fun i => lenB (((some ys) :: r).getD i none) (.int (ys.length : Nat)) (.int (ys.length : Nat)) && intsB (((some ys) :: r).getD i none)), rfl, .of ?_, ?_⟩
            · rw [hD2, List.map_map]
              rfl
            · have q := k H2 (s1.trans s2)
              have e : ptsB (some ys :: r) (.int l) (.int m) = (lenB (some ys) (.int l) (.int m) && (some ys :: r).all fun q => lenB q (.int (ys.length : Nat)) (.int (ys.length : Nat)) && intsB q) := rfl
              rw [e, c, Bool.true_and] at q
              rw [hl, range_map_getD ((some ys) :: r) none (fun q => lenB q (.int (ys.length : Nat)) (.int (ys.length : Nat)) && intsB q), List.all_map]
              exact q
end
end K0


set_option Elab.async false
set_option linter.all false
set_option maxRecDepth 100000
set_option maxHeartbeats 4000000
set_option exponentiation.threshold 100000
namespace K0
open PySem PySem.Spec PyProof.Rows L2 RZ K0z K3

/-- the rows as vectors -/
def mat (M : List Vec) : List (Option (List V)) := M.map fun x => some (x.map V.int)
def toI : V → Int
  | .int n => n
  | _ => 0
theorem isI_int {x : V} (h : isI x = true) : ∃ n, x = .int n := by
  cases x with
  | int n => exact ⟨n, rfl⟩
  | _ => cases h
theorem ints_of : ∀ {xs : List V}, xs.all isI = true → (xs.map toI).map V.int = xs
  | [], _ => rfl
  | x :: xs, h => by
    rw [List.all_cons, Bool.and_eq_true] at h
    obtain ⟨n, rfl⟩ := isI_int h.1
    rw [List.map_cons, List.map_cons, ints_of h.2]
    rfl
theorem lenB_int {o : Option (List V)} {l m : Int} : lenB o (.int l) (.int m) = true ↔ ∃ xs, o = some xs ∧ l ≤ xs.length ∧ (xs.length : Int) ≤ m := by
  cases o with
  | none => simp [lenB]
  | some xs => simp [lenB, within, leB, geB]
theorem pts_mat {os : List (Option (List V))} (h : ptsB os (.int 1) (.int 8) = true) : ∃ M n, os = mat M ∧ M ≠ [] ∧ 1 ≤ n ∧ n ≤ 8 ∧ ∀ r ∈ M, r.length = n := by
  cases os with
  | nil => cases h
  | cons o r =>
    have e : ptsB (o :: r) (.int 1) (.int 8) = (lenB o (.int 1) (.int 8) && (o :: r).all fun q => lenB q (.int (o.getD []).length) (.int (o.getD []).length) && intsB q) := rfl
    rw [e, Bool.and_eq_true] at h
    obtain ⟨h1, h2⟩ := h
    obtain ⟨ys, rfl, l1, l2⟩ := lenB_int.mp h1
    rw [List.all_eq_true] at h2
    have key : ∀ q ∈ some ys :: r, ∃ xs : List V, q = some xs ∧ xs.length = ys.length ∧ (xs.map toI).map V.int = xs := fun q hq => by
      have := h2 q hq
      rw [Bool.and_eq_true] at this
      obtain ⟨xs, rfl, a, b⟩ := lenB_int.mp this.1
      have a' : ((ys.length : Nat) : Int) ≤ xs.length := a
      have b' : (xs.length : Int) ≤ ((ys.length : Nat) : Int) := b
      exact ⟨xs, rfl, by omega, ints_of this.2⟩
    refine ⟨(some ys :: r).map fun q => (q.getD []).map toI, ys.length, ?_, by simp, by omega, by omega, fun x hx => ?_⟩
    · unfold mat
      rw [List.map_map]
      conv => lhs; rw [← List.map_id (some ys :: r)]
      refine List.map_congr_left fun q hq => ?_
      obtain ⟨xs, rfl, _, e⟩ := key q hq
      show some xs = some ((xs.map toI).map V.int)
      rw [e]
    · obtain ⟨q, hq, rfl⟩ := List.mem_map.mp hx
      obtain ⟨xs, rfl, l, _⟩ := key q hq
      show (xs.map toI).length = _
      rw [List.length_map, l]
theorem mat_inj : ∀ {M N : List Vec}, mat M = mat N → M = N
  | [], [], _ => rfl
  | [], _ :: _, h => by cases h
  | _ :: _, [], h => by cases h
  | x :: M, y :: N, h => by
    have h1 : some (x.map V.int) = some (y.map V.int) := (List.cons.inj h).1
    have h2 := mat_inj (M := M) (N := N) (List.cons.inj h).2
    have h3 : x.map V.int = y.map V.int := Option.some.inj h1
    have : x = y := List.map_inj_right (fun a b e => V.int.inj e) |>.mp h3
    rw [this, h2]
def okB (vo : Option (List (Option (List V)))) (lo : Nat) : Bool := match vo with
  | none => false
  | some os => decide (lo ≤ os.length) && decide (os.length ≤ 16) && (os.isEmpty || ptsB os (.int 1) (.int 8))
def rankL (M : List Vec) : Int := ((M.headD []).length : Nat) - ((heldM (M.headD []).length M).length : Nat)
def spanL (M : List Vec) : Int := ((M.headD []).length : Nat) - ((heldM ((M.headD []).length + 1) (M.map (· ++ [1]))).length : Nat)
def Small (vo : Option (List (Option (List V)))) : Prop := ∀ M, vo = some (mat M) → ∀ r ∈ M, ∀ b ∈ r, b.natAbs < 2 ^ 100
def spAsk (K : PySem.W.Frag) (C : Addr) (lo : Nat) (part : Str) (g : List Vec → Int) : Sp := fun vs H Q E => ∃ (v : V) (vo : Option (List (Option (List V)))), vs = [v] ∧ ValAt K H v vo ∧ Small vo ∧
  (okB vo lo = true → ∀ M, vo = some (mat M) → ∀ H', Same H H' → Q (.int (g M)) H') ∧
  (okB vo lo = false → ∀ (d : Addr) (H' : Hp), H d = none → H' d = some (.xd (fs1 "part" [.str part])) → Same H H' → E (.ref C) (some d) H')
theorem rows_of_val {K : PySem.W.Frag} {H : Hp} {v : V} {M : List Vec} (h : ValAt K H v (some (mat M))) : RowsAt K H v M := by
  obtain ⟨vs, hS, hl, hz⟩ := h
  obtain ⟨b, a, rfl, hB, _⟩ := hS.sqB
  have hl' : vs.length = M.length := by rw [hl]; simp [mat]
  refine ⟨b, a, vs, rfl, hB, hl', fun i u x h1 h2 => ?_⟩
  have h3 : (mat M)[i]? = some (some (x.map V.int)) := by
    unfold mat
    rw [List.getElem?_map, h2]
    rfl
  obtain ⟨b0, a0, e, q, _⟩ := (hz i u _ h1 h3).1.sqB
  exact ⟨b0, a0, e, q⟩
section
variable {P : Program} {w : World} {K : PySem.W.Frag} {mg : Str → Option Value} {base : Heap} {f g g2 g3 C : Addr} {fd : FuncData}
end
end K0


set_option Elab.async false
set_option linter.all false
set_option maxRecDepth 100000
set_option maxHeartbeats 4000000
namespace K0
open PySem PySem.Spec PyProof.Rows L2

/-! ### what draws -/
/-- the coil at c: its cells at d, how many were begun (at most m), what is left -/
def Coil (H : Hp) (c d : Addr) (ns : List Int) (m : Nat) : Prop := ns.length ≤ 63 ∧ c ≠ d ∧ H d = some (.lst (ns.map V.int)) ∧
  ∃ a b : Int, H c = some (.lst [.ref d, .int a, .int b]) ∧ 0 ≤ a ∧ a ≤ m ∧ 0 ≤ b
def SameBut (c : Addr) (H H' : Hp) : Prop := ∀ b o, b ≠ c → H b = some o → H' b = some o
theorem SameBut.refl (c : Addr) (H : Hp) : SameBut c H H := fun _ _ _ e => e
theorem SameBut.trans {c : Addr} {H H1 H2 : Hp} (a : SameBut c H H1) (b : SameBut c H1 H2) : SameBut c H H2 := fun x o n e => b x o n (a x o n e)
theorem SameBut.of {c : Addr} {H H' : Hp} (s : Same H H') : SameBut c H H' := fun b o _ e => s b o e
theorem SameBut.to {c : Addr} {H H0 H' : Hp} (s : SameBut c H H') (h : Same H0 H) (hc : H0 c = none) : Same H0 H' := fun b o e => s b o (ne_of_none e hc) (h b o e)
def spCoil (K : PySem.W.Frag) : Sp := fun vs H Q _ => ∃ (a : Addr) (ns : List Int), vs = [.ref a] ∧ SqL K H a (ns.map V.int) ∧ ns.length ≤ 63 ∧
  ∀ (c d : Addr) (H' : Hp), H c = none → Same H H' → Coil H' c d ns 0 → Q (.ref c) H'
def spTurn : Sp := fun vs H Q _ => ∃ (c d : Addr) (ns : List Int) (m : Nat) (many : Int), vs = [.ref c, .int many] ∧ Coil H c d ns m ∧ m ≤ 100000 ∧ 0 < many ∧ many.natAbs < 2 ^ 9000 ∧
  ∀ (r : Int) (H' : Hp), 0 ≤ r → r < many → Coil H' c d ns (m + 1) → SameBut c H H' → Q (.int r) H'
section
variable {P : Program} {w : World} {K : PySem.W.Frag} {mg : Str → Option Value} {base : Heap} {f g g2 : Addr} {fd : FuncData}
theorem sc_coil : FnScope ["script", "cell"] ["script"] (defScope st__law_loom) := ⟨rfl, rfl, rfl, by decide +kernel, rfl, by decide +kernel, by decide +kernel⟩
theorem int_sel (ns : List Int) : (ns.map V.int).filterMap (fun x => match x with | .int n => some (V.int n) | _ => none) = ns.map V.int := by
  induction ns with
  | nil => rfl
  | cons n ns ih => simp only [List.map_cons, List.filterMap_cons, ih]
theorem ok_coil (F : Fun K "_law_loom" "_law_loom" st__law_loom f fd) (T : Nm mg) : FnOk P w K mg base CX0 1 f fd ["script"] (spCoil K) := by
  refine F.ok sc_coil (fun vs H Q E h => ?_) (fun cdv A outer s H vs Q E hr h => ?_)
  · obtain ⟨a, ns, rfl, _⟩ := h
    rfl
  · obtain ⟨a, ns, rfl, hS, hl, k⟩ := h
    refine ⟨_, (pss_one (ps_ret (pe_lst (pa_cons (pe_lc (own := [("cell", 1)]) (g := gName 1) (tt := tYes) rfl sc_coil.nd (pi_list (pe_slice sl_list (pv 0) po_none (po_some pe_int))) (blkOk_by (N := ["script", "cell"]) (sc := defScope st__law_loom) (by decide +kernel)) (fun _ _ _ _ _ => pg_name (i := 1) sc_coil.nd rfl (Or.inl rfl)) (fun _ _ _ _ _ => pts_nil) (fun _ _ _ _ _ => (pe_callTy call_int1 (by rfl) T.n_int (by decide +kernel) (pa_cons (pv 1) pa_nil)))) (pa_cons pe_int (pa_cons pe_int pa_nil)))))), ?_⟩
    have ec : cutV (ns.map V.int) none (some 63) = ns.map V.int := by
      show ((ns.map V.int).drop 0).take (HT.sIx (ns.map V.int).length (ns.map V.int).length (some ((63 : Nat) : Int)) - 0) = _
      rw [HT.sIx_nat, List.drop_zero]
      refine List.take_of_length_le ?_
      rw [List.length_map]
      omega
    refine ⟨_, rfl, 63, rfl, a, _, rfl, hS, fun p hp => ⟨p, rfl, ⟨_, .of upd_same⟩, fun D hD => ?_⟩⟩
    rw [ec] at hD ⊢
    refine lcl (xs := ns.map V.int) (fun x => match x with | .int n => some (V.int n) | _ => none) hD (.of upd_same) (by rw [List.length_map]; exact Nat.lt_of_le_of_lt hl (by decide)) (fun _ => rfl) ?_ ?_ ?_
    · intro x hx H2 _ R hR
      obtain ⟨n, _, rfl⟩ := List.mem_map.mp hx
      exact hR H2 (Same.refl H2)
    · intro x hx y hy H2 _ R hR
      obtain ⟨n, _, rfl⟩ := List.mem_map.mp hx
      cases hy
      exact ⟨_, rfl, .inl ⟨n, rfl, hR H2 (Same.refl H2)⟩⟩
    · rintro H2 ⟨h1, h2⟩
      rw [int_sel] at h1
      refine ⟨(by show 3 ≤ sizeLine; decide), fun c hc => ?_⟩
      have s0 : Same H H2 := (same_upd hp).trans h2
      have ncd : c ≠ D := fun e => by
        rw [e, h1] at hc
        cases hc
      refine k c D _ (s0.free hc) (s0.trans (same_upd hc)) ⟨hl, ncd, ?_, 0, 0, upd_same, by decide, by decide, by decide⟩
      rw [upd_ne (Ne.symm ncd)]
      exact h1
theorem sc_turn : FnScope ["loom", "many", "rest", "at", "cell", "mixed"] ["loom", "many"] (defScope st__law_thread) := ⟨rfl, rfl, rfl, by decide +kernel, rfl, by decide +kernel, by decide +kernel⟩
theorem mod_rng {i j : Int} (h : 0 < j) : 0 ≤ i % j ∧ i % j < j := ⟨Int.emod_nonneg i (by omega), Int.emod_lt_of_pos i h⟩
theorem mix_bound {x a : Int} (h0 : 0 ≤ a) (h1 : a ≤ 100000) (hx0 : 0 ≤ x) (hx1 : x < 2147483563) : (x * (2 * a + 3313) + 48619 * a * a + 27107).natAbs < 2 ^ 64 := by
  have e1 : x * (2 * a + 3313) ≤ 2147483563 * 203313 := Int.mul_le_mul (by omega) (by omega) (by omega) (by omega)
  have e2 : 0 ≤ x * (2 * a + 3313) := Int.mul_nonneg hx0 (by omega)
  have e3 : 48619 * a * a ≤ 4861900000 * 100000 := Int.mul_le_mul (by omega) h1 h0 (by omega)
  have e4 : 0 ≤ 48619 * a * a := Int.mul_nonneg (by omega) h0
  generalize x * (2 * a + 3313) = y at e1 e2 ⊢
  generalize 48619 * a * a = z at e3 e4 ⊢
  omega
theorem ok_turn (F : Fun K "_law_thread" "_law_thread" st__law_thread f fd) (T : Nm mg) : FnOk P w K mg base CX0 1 f fd ["loom", "many"] spTurn := by
  refine F.ok sc_turn (fun vs H Q E h => ?_) (fun cdv A outer s H vs Q E hr h => ?_)
  · obtain ⟨c, d, ns, m, many, rfl, _⟩ := h
    rfl
  · obtain ⟨c, d, ns, m, many, rfl, ⟨hl, ncd, hd, a, b, hc, ha0, ha1, hb⟩, hm, hp, hw, k⟩ := h
    have hdiv : ∀ x : Int, CDivW x many := fun x => wide_div (b := 9000) hp hw (by decide) (by decide)
    have qdiv : ∀ x : Int, 0 ≤ x → 0 ≤ x / many := fun x hx => Int.ediv_nonneg hx (by omega)
    refine ⟨_, (pss_cons (ps_if (pt_cmpR op_gt (pe_ix ix_list (pv 0) pe_int (fun _ _ => rfl)) pe_int (nomark _)) (pss_cons (ps_set (i := 2) sc_turn.nd rfl (Or.inl rfl) (pe_callTy call_int1 (by rfl) T.n_int (by decide +kernel) (pa_cons (pe_ix ix_list (pv 0) pe_int (fun _ _ => rfl)) pa_nil)))
    (pss_cons (ps_asg (pe_op op_fdivW (pv 2) (pv 1)) (pg_sub (pv 0) pe_int set_list))
    (pss_one (ps_ret (pe_op op_mod (pe_callTy call_int1 (by rfl) T.n_int (by decide +kernel) (pa_cons (pv 2) pa_nil)) (pv 1)))))) pss_nil)
    (pss_cons (ps_set (i := 3) sc_turn.nd rfl (Or.inl rfl) (pe_ix ix_list (pv 0) pe_int (fun _ _ => rfl)))
    (pss_cons (ps_asg (pe_op op_add (pv 3) pe_int) (pg_sub (pv 0) pe_int set_list))
    (pss_cons (ps_set (i := 4) sc_turn.nd rfl (Or.inl rfl) (pe_op op_add (pe_op op_mul pe_int (pv 3)) pe_int))
    (pss_cons (ps_if (pt_cmpR (op_neD hr.units) (pe_ix ix_list (pv 0) pe_int (fun _ _ => rfl)) (pe_lst pa_nil) (nomark _)) (pss_one (ps_set (i := 4) sc_turn.nd rfl (Or.inl rfl) (pe_ix ix_list (pe_ix ix_list (pv 0) pe_int (fun _ _ => rfl)) (pe_op op_mod (pe_callTy call_int1 (by rfl) T.n_int (by decide +kernel) (pa_cons (pv 3) pa_nil)) (pe_callB call_len_seq (by rfl) T.n_len (by decide +kernel) (pa_cons (pe_ix ix_list (pv 0) pe_int (fun _ _ => rfl)) pa_nil))) (fun _ _ => rfl)))) pss_nil)
    (pss_cons (ps_if (PW.pt (pw_and (pt_cmpR op_lt (pv 3) (pe_callB call_len_seq (by rfl) T.n_len (by decide +kernel) (pa_cons (pe_ix ix_list (pv 0) pe_int (fun _ _ => rfl)) pa_nil)) (nomark _)) (pw_and1 (pt_cmpR op_ge (pe_callB call_abs (by rfl) T.n_abs (by decide +kernel) (pa_cons (pv 4) pa_nil)) (pe_op op_pow pe_int pe_int) (nomark _))))) (pss_cons (ps_set (i := 2) sc_turn.nd rfl (Or.inl rfl) (pe_op op_add (pe_op op_mul pe_int (pe_op op_sub (pe_callB call_abs (by rfl) T.n_abs (by decide +kernel) (pa_cons (pv 4) pa_nil)) (pe_op op_pow pe_int pe_int))) (pe_callTy call_int1 (by rfl) T.n_int (by decide +kernel) (pa_cons (pe_cmpR op_lt (pv 4) pe_int (nomark _)) pa_nil))))
    (pss_cons (ps_asg (pe_op op_fdivW (pe_callTy call_int1 (by rfl) T.n_int (by decide +kernel) (pa_cons (pv 2) pa_nil)) (pv 1)) (pg_sub (pv 0) pe_int set_list))
    (pss_one (ps_ret (pe_op op_mod (pe_callTy call_int1 (by rfl) T.n_int (by decide +kernel) (pa_cons (pv 2) pa_nil)) (pv 1)))))) pss_nil)
    (pss_cons (ps_set (i := 5) sc_turn.nd rfl (Or.inl rfl) (pe_op op_mod (pe_callTy call_int1 (by rfl) T.n_int (by decide +kernel) (pa_cons (pe_op op_pow (pe_op op_add (pe_op op_add (pe_op op_mod (pe_callTy call_int1 (by rfl) T.n_int (by decide +kernel) (pa_cons (pv 4) pa_nil)) pe_int) (pe_op op_mul pe_int (pv 3))) pe_int) pe_int) pa_nil)) pe_int))
    (pss_cons (ps_set (i := 5) sc_turn.nd rfl (Or.inl rfl) (pe_op op_mod (pe_callTy call_int1 (by rfl) T.n_int (by decide +kernel) (pa_cons (pe_op op_pow (pe_op op_add (pe_op op_add (pe_op op_mul (pv 5) (pe_op op_add (pe_op op_mul pe_int (pv 3)) pe_int)) (pe_op op_mul (pe_op op_mul pe_int (pv 3)) (pv 3))) pe_int) pe_int) pa_nil)) pe_int))
    (pss_one (ps_ret (pe_op op_mod (pe_callTy call_int1 (by rfl) T.n_int (by decide +kernel) (pa_cons (pe_op op_fdivW (pv 5) pe_int) pa_nil)) (pv 1)))))))))))), ?_⟩
    -- coil[2] > 0
    refine ⟨_, rfl, c, _, 2, _, rfl, rfl, .of hc, atI_nat (j := 2) rfl, ⟨b, 0, rfl, rfl, _, rfl, ?_⟩⟩
    by_cases cb : 0 < b
    · rw [decide_eq_true cb]
      refine iteT ⟨_, rfl, c, _, 2, _, rfl, rfl, .of hc, atI_nat (j := 2) rfl, (.inl ⟨b, rfl, ?_⟩)⟩
      refine ⟨_, rfl, _, rfl, b, many, rfl, rfl, hdiv b, _, rfl, c, _, 2, 2, rfl, rfl, hc, rfl, ?_⟩
      refine ⟨_, rfl, .inl ⟨b, rfl, _, rfl, b, many, rfl, rfl, hp, ?_⟩⟩
      refine k _ _ (mod_rng hp).1 (mod_rng hp).2 ⟨hl, ncd, (by rw [upd_ne (Ne.symm ncd)]; exact hd), a, b / many, upd_same, ha0, by omega, qdiv b (by omega)⟩ fun x o n e => ?_
      rw [upd_ne n]
      exact e
    · rw [decide_eq_false cb]
      have eb : b = 0 := by omega
      subst eb
      -- at = coil[1]; coil[1] = at + 1; cell = ..
      refine iteF ⟨_, rfl, c, _, 1, _, rfl, rfl, .of hc, atI_nat (j := 1) rfl, ?_⟩
      refine ⟨_, rfl, a, 1, rfl, rfl, _, rfl, c, _, 1, 1, rfl, rfl, hc, rfl, ?_⟩
      refine ⟨_, rfl, 48619, a, rfl, rfl, .inl ⟨by decide, by decide⟩, _, 7151, rfl, rfl, ?_⟩
      have hd1 : upd H c (.lst [.ref d, .int (a + 1), .int 0]) d = some (.lst (ns.map V.int)) := by
        rw [upd_ne (Ne.symm ncd)]
        exact hd
      -- what comes behind the choice of the cell
      have tail : ∀ (x : Int) (H2 : Hp), H2 c = some (.lst [.ref d, .int (a + 1), .int 0]) → H2 d = some (.lst (ns.map V.int)) → SameBut c H H2 →
          (tSeq (tIfS (tAnd (tTest (tOp (rI0 fun i j => .bl (decide (i < j))) (tVar 3) (tCB (fun xs H Q => ∃ p ys, xs = [.ref p] ∧ (SqL K H p ys ∨ SqT K H p ys) ∧ Q (.int ys.length) H) (tCons (tOp (rIxL K) (tVar 0) (tC (.int 0))) tNil))))
              (tTest (tOp (rI0 fun i j => .bl (decide (j ≤ i))) (tCB (fun xs H Q => ∃ i, xs = [.int i] ∧ Q (.int (if i < 0 then -i else i)) H) (tCons (tVar 4) tNil)) (tOp (rI CPow fun i j => .int (i ^ j.toNat)) (tC (.int 10)) (tC (.int 18))))))
            (tSeq (tAsg (tOp (rI0 fun i j => .int (i + j)) (tOp (rI CMul fun i j => .int (i * j)) (tC (.int 2)) (tOp (rI0 fun i j => .int (i - j)) (tCB (fun xs H Q => ∃ i, xs = [.int i] ∧ Q (.int (if i < 0 then -i else i)) H) (tCons (tVar 4) tNil)) (tOp (rI CPow fun i j => .int (i ^ j.toNat)) (tC (.int 10)) (tC (.int 18)))))
                (tCB (fun xs H Q => (∃ i, xs = [.int i] ∧ Q (.int i) H) ∨ ∃ k, xs = [.bl k] ∧ Q (.int (if k then 1 else 0)) H) (tCons (tOp (rI0 fun i j => .bl (decide (i < j))) (tVar 4) (tC (.int 0))) tNil))) (gName 2))
              (tSeq (tAsg (tOp (rI CDivW fun i j => .int (i / j)) (tCB (fun xs H Q => (∃ i, xs = [.int i] ∧ Q (.int i) H) ∨ ∃ k, xs = [.bl k] ∧ Q (.int (if k then 1 else 0)) H) (tCons (tVar 2) tNil)) (tVar 1)) (gSub (tVar 0) (tC (.int 2)) rSetL))
                (tRet (tOp (rI (fun _ j => 0 < j) fun i j => .int (i % j)) (tCB (fun xs H Q => (∃ i, xs = [.int i] ∧ Q (.int i) H) ∨ ∃ k, xs = [.bl k] ∧ Q (.int (if k then 1 else 0)) H) (tCons (tVar 2) tNil)) (tVar 1))))) tNext)
          (tSeq (tAsg (tOp (rI (fun _ j => 0 < j) fun i j => .int (i % j)) (tCB (fun xs H Q => (∃ i, xs = [.int i] ∧ Q (.int i) H) ∨ ∃ k, xs = [.bl k] ∧ Q (.int (if k then 1 else 0)) H) (tCons (tOp (rI CPow fun i j => .int (i ^ j.toNat)) (tOp (rI0 fun i j => .int (i + j)) (tOp (rI0 fun i j => .int (i + j)) (tOp (rI (fun _ j => 0 < j) fun i j => .int (i % j)) (tCB (fun xs H Q => (∃ i, xs = [.int i] ∧ Q (.int i) H) ∨ ∃ k, xs = [.bl k] ∧ Q (.int (if k then 1 else 0)) H) (tCons (tVar 4) tNil)) (tC (.int 2147483629))) (tOp (rI CMul fun i j => .int (i * j)) (tC (.int 27107)) (tVar 3))) (tC (.int 7151))) (tC (.int 5))) tNil)) (tC (.int 2147483563))) (gName 5))
          (tSeq (tAsg (tOp (rI (fun _ j => 0 < j) fun i j => .int (i % j)) (tCB (fun xs H Q => (∃ i, xs = [.int i] ∧ Q (.int i) H) ∨ ∃ k, xs = [.bl k] ∧ Q (.int (if k then 1 else 0)) H) (tCons (tOp (rI CPow fun i j => .int (i ^ j.toNat)) (tOp (rI0 fun i j => .int (i + j)) (tOp (rI0 fun i j => .int (i + j)) (tOp (rI CMul fun i j => .int (i * j)) (tVar 5) (tOp (rI0 fun i j => .int (i + j)) (tOp (rI CMul fun i j => .int (i * j)) (tC (.int 2)) (tVar 3)) (tC (.int 3313)))) (tOp (rI CMul fun i j => .int (i * j)) (tOp (rI CMul fun i j => .int (i * j)) (tC (.int 48619)) (tVar 3)) (tVar 3))) (tC (.int 27107))) (tC (.int 3))) tNil)) (tC (.int 2147483543))) (gName 5))
            (tRet (tOp (rI (fun _ j => 0 < j) fun i j => .int (i % j)) (tCB (fun xs H Q => (∃ i, xs = [.int i] ∧ Q (.int i) H) ∨ ∃ k, xs = [.bl k] ∧ Q (.int (if k then 1 else 0)) H) (tCons (tOp (rI CDivW fun i j => .int (i / j)) (tVar 5) (tC (.int 64))) tNil)) (tVar 1))))))
          { nx := fun _ H' => Q .non H', rt := Q } [some (.ref c), some (.int many), none, some (.int a), some (.int x), none] H2 := by
        intro x H2 hc2 hd2 sb
        have mixed : (tSeq (tAsg (tOp (rI (fun _ j => 0 < j) fun i j => .int (i % j)) (tCB (fun xs H Q => (∃ i, xs = [.int i] ∧ Q (.int i) H) ∨ ∃ k, xs = [.bl k] ∧ Q (.int (if k then 1 else 0)) H) (tCons (tOp (rI CPow fun i j => .int (i ^ j.toNat)) (tOp (rI0 fun i j => .int (i + j)) (tOp (rI0 fun i j => .int (i + j)) (tOp (rI (fun _ j => 0 < j) fun i j => .int (i % j)) (tCB (fun xs H Q => (∃ i, xs = [.int i] ∧ Q (.int i) H) ∨ ∃ k, xs = [.bl k] ∧ Q (.int (if k then 1 else 0)) H) (tCons (tVar 4) tNil)) (tC (.int 2147483629))) (tOp (rI CMul fun i j => .int (i * j)) (tC (.int 27107)) (tVar 3))) (tC (.int 7151))) (tC (.int 5))) tNil)) (tC (.int 2147483563))) (gName 5))
          (tSeq (tAsg (tOp (rI (fun _ j => 0 < j) fun i j => .int (i % j)) (tCB (fun xs H Q => (∃ i, xs = [.int i] ∧ Q (.int i) H) ∨ ∃ k, xs = [.bl k] ∧ Q (.int (if k then 1 else 0)) H) (tCons (tOp (rI CPow fun i j => .int (i ^ j.toNat)) (tOp (rI0 fun i j => .int (i + j)) (tOp (rI0 fun i j => .int (i + j)) (tOp (rI CMul fun i j => .int (i * j)) (tVar 5) (tOp (rI0 fun i j => .int (i + j)) (tOp (rI CMul fun i j => .int (i * j)) (tC (.int 2)) (tVar 3)) (tC (.int 3313)))) (tOp (rI CMul fun i j => .int (i * j)) (tOp (rI CMul fun i j => .int (i * j)) (tC (.int 48619)) (tVar 3)) (tVar 3))) (tC (.int 27107))) (tC (.int 3))) tNil)) (tC (.int 2147483543))) (gName 5))
            (tRet (tOp (rI (fun _ j => 0 < j) fun i j => .int (i % j)) (tCB (fun xs H Q => (∃ i, xs = [.int i] ∧ Q (.int i) H) ∨ ∃ k, xs = [.bl k] ∧ Q (.int (if k then 1 else 0)) H) (tCons (tOp (rI CDivW fun i j => .int (i / j)) (tVar 5) (tC (.int 64))) tNil)) (tVar 1)))))
          { nx := fun _ H' => Q .non H', rt := Q } [some (.ref c), some (.int many), none, some (.int a), some (.int x), none] H2 := by
          have b1 := mod_rng (i := x) (j := 2147483629) (by decide)
          refine ⟨_, rfl, .inl ⟨x, rfl, x, 2147483629, rfl, rfl, (by show (0 : Int) < 2147483629; decide), ?_⟩⟩
          refine ⟨_, rfl, 27107, a, rfl, rfl, .inl ⟨by decide, by decide⟩, _, _, rfl, rfl, _, 7151, rfl, rfl, _, 5, rfl, rfl, ⟨by decide, by decide, ?_⟩, .inl ⟨_, rfl, _, 2147483563, rfl, rfl, (by show (0 : Int) < 2147483563; decide), ?_⟩⟩
          · generalize x % 2147483629 = z at b1 ⊢
            omega
          · dsimp only
            generalize ((x % 2147483629 + 27107 * a + 7151) ^ (5 : Int).toNat) = y
            have b2 := mod_rng (i := y) (j := 2147483563) (by decide)
            generalize y % 2147483563 = z at b2 ⊢
            refine ⟨_, rfl, _, rfl, 2, a, rfl, rfl, .inl ⟨by decide, by decide⟩, _, 3313, rfl, rfl, z, _, rfl, rfl, .inl ⟨by omega, by omega⟩, ?_⟩
            refine ⟨_, rfl, 48619, a, rfl, rfl, .inl ⟨by decide, by decide⟩, _, rfl, _, a, rfl, rfl, .inr ⟨by omega, by omega⟩, _, _, rfl, rfl, _, 27107, rfl, rfl, _, 3, rfl, rfl, ⟨by decide, by decide, ?_⟩, .inl ⟨_, rfl, _, 2147483543, rfl, rfl, (by show (0 : Int) < 2147483543; decide), ?_⟩⟩
            · exact mix_bound ha0 (by omega) b2.1 b2.2
            · dsimp only
              generalize ((z * (2 * a + 3313) + 48619 * a * a + 27107) ^ (3 : Int).toNat) = y2
              refine ⟨_, rfl, _, 64, rfl, rfl, wide_div (b := 10) (by decide) (by decide) (by decide) (by decide), .inl ⟨_, rfl, _, rfl, _, many, rfl, rfl, hp, ?_⟩⟩
              exact k _ _ (mod_rng hp).1 (mod_rng hp).2 ⟨hl, ncd, hd2, a + 1, 0, hc2, by omega, by omega, by decide⟩ sb
        refine ⟨_, rfl, _, rfl, c, _, 0, _, rfl, rfl, .of hc2, atI_nat (j := 0) rfl, ⟨d, ns.map V.int, rfl, .inl (.of hd2), a, _, rfl, rfl, _, rfl, ?_⟩⟩
        by_cases c1 : a < ((ns.map V.int).length : Nat)
        · rw [decide_eq_true c1]
          refine iteT ⟨_, rfl, x, rfl, 10, 18, rfl, rfl, ⟨by decide, by decide, by decide⟩, _, _, rfl, rfl, _, rfl, ?_⟩
          generalize hP : (10 : Int) ^ (18 : Int).toNat = P
          by_cases c2 : P ≤ (if x < 0 then -x else x)
          · rw [decide_eq_true c2]
            refine iteT ⟨_, rfl, x, rfl, 10, 18, rfl, rfl, ⟨by decide, by decide, by decide⟩, _, _, rfl, rfl, 2, _, rfl, rfl, .inl ⟨by decide, by decide⟩, ?_⟩
            rw [hP]
            refine ⟨_, rfl, x, 0, rfl, rfl, .inr ⟨_, rfl, _, _, rfl, rfl, ?_⟩⟩
            dsimp only
            generalize hz : 2 * ((if x < 0 then -x else x) - P) + (if (decide (x < 0)) = true then 1 else 0) = z
            have hz0 : 0 ≤ z := by
              rw [← hz]
              split <;> omega
            refine ⟨_, rfl, .inl ⟨z, rfl, _, rfl, z, many, rfl, rfl, hdiv z, _, rfl, c, _, 2, 2, rfl, rfl, hc2, rfl, ?_⟩⟩
            refine ⟨_, rfl, .inl ⟨z, rfl, _, rfl, z, many, rfl, rfl, hp, ?_⟩⟩
            refine k _ _ (mod_rng hp).1 (mod_rng hp).2 ⟨hl, ncd, (by rw [upd_ne (Ne.symm ncd)]; exact hd2), a + 1, z / many, upd_same, by omega, by omega, qdiv z hz0⟩ fun y o n e => ?_
            rw [upd_ne n]
            exact sb y o n e
          · rw [decide_eq_false c2]
            exact iteF mixed
        · rw [decide_eq_false c1]
          exact iteF mixed
      have sb1 : SameBut c H (upd H c (.lst [.ref d, .int (a + 1), .int 0])) := fun y o n e => by
        rw [upd_ne n]
        exact e
      refine ⟨_, rfl, c, _, 0, _, rfl, rfl, .of (upd_same), atI_nat (j := 0) rfl, ⟨(by show 0 ≤ sizeLine; decide), fun p hp2 => ?_⟩⟩
      have hp2 : (upd H c (.lst [.ref d, .int (a + 1), .int 0])) p = none := hp2
      have npc : p ≠ c := fun e => by
        rw [e, upd_same] at hp2
        cases hp2
      have npd : p ≠ d := fun e => by
        rw [e, hd1] at hp2
        cases hp2
      have hc3 : (upd (upd H c (.lst [.ref d, .int (a + 1), .int 0])) p (.lst [])) c = some (.lst [.ref d, .int (a + 1), .int 0]) := by
        rw [upd_ne (Ne.symm npc), upd_same]
      have hd3 : (upd (upd H c (.lst [.ref d, .int (a + 1), .int 0])) p (.lst [])) d = some (.lst (ns.map V.int)) := by
        rw [upd_ne (Ne.symm npd)]
        exact hd1
      have sb3 : SameBut c H (upd (upd H c (.lst [.ref d, .int (a + 1), .int 0])) p (.lst [])) := fun y o n e => by
        have e1 := sb1 y o n e
        rw [upd_ne (ne_of_none e1 hp2)]
        exact e1
      refine ⟨.list ((ns.map V.int).map toD), .list [], dpL (.of hd3) (flat_ints ns), dpNil (.of upd_same), shapedL (flat_ints ns), shapedNil, _, rfl, ?_⟩
      rw [eqvNil]
      cases hns : (ns.map V.int).isEmpty with
      | true => exact iteF (tail _ _ hc3 hd3 sb3)
      | false =>
        refine iteT ?_
        have hlen : 0 < ns.length := by
          cases ns with
          | nil => cases hns
          | cons n1 nr => exact Nat.succ_pos _
        refine ⟨_, rfl, c, _, 0, _, rfl, rfl, .of hc3, atI_nat (j := 0) rfl, _, rfl, .inl ⟨a, rfl, _, rfl, c, _, 0, _, rfl, rfl, .of hc3, atI_nat (j := 0) rfl, d, ns.map V.int, rfl, .inl (.of hd3), a, _, rfl, rfl, ?_, ?_⟩⟩
        · rw [List.length_map]
          show (0 : Int) < (ns.length : Int)
          omega
        · have hb2 := mod_rng (i := a) (j := ((ns.map V.int).length : Nat)) (by rw [List.length_map]; omega)
          rw [List.length_map] at hb2 ⊢
          dsimp only
          generalize hz : a % (ns.length : Int) = z at hb2 ⊢
          obtain ⟨j, rfl⟩ : ∃ j : Nat, z = (j : Int) := ⟨z.toNat, by omega⟩
          have hj : j < ns.length := by omega
          refine ⟨d, ns.map V.int, _, .int ns[j], rfl, rfl, .of hd3, atI_nat (by simp [hj]), ?_⟩
          exact tail _ _ hc3 hd3 sb3
end
end K0


set_option Elab.async false
set_option linter.all false
set_option maxRecDepth 100000
set_option maxHeartbeats 4000000
set_option exponentiation.threshold 100000
namespace K0
open PySem PySem.Spec PyProof.Rows L2 RZ K0z K3

theorem Coil.but {H H' : Hp} {c d : Addr} {ns : List Int} {m : Nat} (h : Coil H c d ns m) (s : Same H H') : Coil H' c d ns m := by
  obtain ⟨h1, h2, h3, a, b, h4, r⟩ := h
  exact ⟨h1, h2, s _ _ h3, a, b, s _ _ h4, r⟩
theorem Coil.ne {H : Hp} {c d : Addr} {ns : List Int} {m : Nat} (h : Coil H c d ns m) {p : Addr} (hp : H p = none) : p ≠ c ∧ p ≠ d := by
  obtain ⟨h1, h2, h3, a, b, h4, r⟩ := h
  exact ⟨fun e => (by rw [e, h4] at hp; cases hp), fun e => (by rw [e, h3] at hp; cases hp)⟩
theorem Coil.upd {H : Hp} {p c d : Addr} {o : HO} {ns : List Int} {m : Nat} (h : Coil H c d ns m) (hc : p ≠ c) (hd : p ≠ d) : Coil (upd H p o) c d ns m := by
  obtain ⟨h1, h2, h3, a, b, h4, r⟩ := h
  exact ⟨h1, h2, by rw [upd_ne (Ne.symm hd)]; exact h3, a, b, by rw [upd_ne (Ne.symm hc)]; exact h4, r⟩
theorem Coil.more {H : Hp} {c d : Addr} {ns : List Int} {m m' : Nat} (h : Coil H c d ns m) (l : m ≤ m') : Coil H c d ns m' := by
  obtain ⟨h1, h2, h3, a, b, h4, h5, h6, h7⟩ := h
  exact ⟨h1, h2, h3, a, b, h4, h5, by omega, h7⟩
theorem SameBut.off {c : Addr} {H H' : Hp} (s : SameBut c H H') : Same (Off c H) (Off c H') := same_off s
theorem SameBut.up {c : Addr} {H H' : Hp} (s : SameBut c H H') : Same (Off c H) H' := s.off.trans (off_same c H')
theorem sameBut_of {c : Addr} {H H' : Hp} (s : Same (Off c H) H') : SameBut c H H' := fun b o n e => s b o (by rw [off_ne n]; exact e)
theorem new_but {c : Addr} {H : Hp} {p : Addr} {o : HO} (hp : H p = none) : SameBut c H (upd H p o) := SameBut.of (same_upd hp)
section
variable {P : Program} {w : World} {K : PySem.W.Frag} {mg : Str → Option Value} {base : Heap} {f g g2 g3 : Addr} {fd : FuncData}
def spOne (K : PySem.W.Frag) : Sp := fun vs H Q _ => ∃ (c d : Addr) (ns : List Int) (m : Nat) (b : Bool) (a : Addr) (xs : List V), vs = [.ref c, .ref a] ∧ Coil H c d ns m ∧ m ≤ 100000 ∧ SqB K b (Off c H) a xs ∧ 0 < xs.length ∧ xs.length ≤ 100000 ∧
  ∀ (i : Nat) (y : V) (H' : Hp), xs[i]? = some y → Coil H' c d ns (m + 1) → SameBut c H H' → Q y H'
theorem sc_one_of : FnScope ["loom", "some"] ["loom", "some"] (defScope st__law_one_of) := ⟨rfl, rfl, rfl, by decide +kernel, rfl, by decide +kernel, by decide +kernel⟩
theorem natAbs_small {n k : Nat} (h : n ≤ 100000) : ((n : Nat) : Int).natAbs < 2 ^ 9000 := by
  have : (100000 : Nat) < 2 ^ 9000 := Nat.lt_of_lt_of_le (by decide : 100000 < 2 ^ 17) (Nat.pow_le_pow_right (by decide) (by decide))
  omega
theorem small9000 {n : Int} (h : n.natAbs < 2 ^ 200) : n.natAbs < 2 ^ 9000 := Nat.lt_of_lt_of_le h (Nat.pow_le_pow_right (by decide) (by decide))
theorem ok_one_of (F : Fun K "_law_one_of" "_law_one_of" st__law_one_of f fd) (T : Nm mg) (D__law_thread : Dn P w K mg base 1 "_law_thread" g ["loom", "many"] spTurn) : FnOk P w K mg base CX0 2 f fd ["loom", "some"] (spOne K) := by
  refine F.ok sc_one_of (fun vs H Q E h => ?_) (fun cdv A outer s H vs Q E hr h => ?_)
  · obtain ⟨c, d, ns, m, b, a, xs, rfl, _⟩ := h
    rfl
  · obtain ⟨c, d, ns, m, b, a, xs, rfl, hC, hm, hx, h0, h1, k⟩ := h
    refine ⟨_, (pss_one (ps_ret (pe_ix (ix_K K) (pv 1) (pe_dn D__law_thread (hr.mono (by decide)) rfl (pa_cons (pv 0) (pa_cons (pe_callB (call_lenK K) (by rfl) T.n_len (by decide +kernel) (pa_cons (pv 1) pa_nil)) pa_nil))) (fun _ _ => rfl)))), ?_⟩
    refine ⟨_, rfl, _, rfl, _, rfl, b, a, xs, rfl, hx.same (off_same c H), c, d, ns, m, (xs.length : Nat), rfl, hC, hm, by omega, natAbs_small (k := 0) h1, fun r H1 r0 r1 hC1 sb => ?_⟩
    obtain ⟨j, rfl⟩ : ∃ j : Nat, r = (j : Int) := ⟨r.toNat, by omega⟩
    have hj : j < xs.length := by omega
    have e := List.getElem?_eq_getElem hj
    exact ⟨b, a, xs, _, _, rfl, rfl, hx.same sb.up, atI_nat e, k j _ H1 e hC1 sb⟩
def spNum : Sp := fun vs H Q _ => ∃ (c d : Addr) (ns : List Int) (m : Nat) (size : Int), vs = [.ref c, .int size] ∧ Coil H c d ns m ∧ m ≤ 90000 ∧ 0 < size ∧ size ≤ 100000000000000000 ∧
  ∀ (r : Int) (H' : Hp), r.natAbs < 2 ^ 68 → Coil H' c d ns (m + 2) → SameBut c H H' → Q (.int r) H'
theorem sc_number : FnScope ["loom", "size"] ["loom", "size"] (defScope st__law_number) := ⟨rfl, rfl, rfl, by decide +kernel, rfl, by decide +kernel, by decide +kernel⟩
theorem cm {i j : Int} (hi : i.natAbs ≤ 1000000000000000000) (hj : j.natAbs ≤ 1000000000000000000) : CMulW i j :=
  wide_mul (a := 100) (b := 100) (Nat.lt_of_le_of_lt hi (by decide)) (Nat.lt_of_le_of_lt hj (by decide)) (by decide) (by decide) (by decide)
theorem ok_number (F : Fun K "_law_number" "_law_number" st__law_number f fd) (D__law_thread : Dn P w K mg base 1 "_law_thread" g ["loom", "many"] spTurn) : FnOk P w K mg base CX0 2 f fd ["loom", "size"] spNum := by
  refine F.ok sc_number (fun vs H Q E h => ?_) (fun cdv A outer s H vs Q E hr h => ?_)
  · obtain ⟨c, d, ns, m, size, rfl, _⟩ := h
    rfl
  · obtain ⟨c, d, ns, m, size, rfl, hC, hm, h0, h1, k⟩ := h
    refine ⟨_, (pss_cons (ps_if (pt_cmpR op_lt (pv 1) pe_int (nomark _)) (pss_one (ps_ret (pe_op op_sub (pe_dn D__law_thread (hr.mono (by decide)) rfl (pa_cons (pv 0) (pa_cons (pe_op op_add (pe_op op_mulW pe_int (pv 1)) pe_int) pa_nil))) (pv 1)))) pss_nil)
    (pss_one (ps_ret (pe_op op_sub (pe_op op_add (pe_op op_mulW (pe_op op_sub (pe_dn D__law_thread (hr.mono (by decide)) rfl (pa_cons (pv 0) (pa_cons pe_int pa_nil))) pe_int) (pv 1)) (pe_dn D__law_thread (hr.mono (by decide)) rfl (pa_cons (pv 0) (pa_cons pe_int pa_nil)))) pe_int)))), ?_⟩
    refine ⟨_, rfl, _, _, rfl, rfl, _, rfl, ?_⟩
    have e200 : ∀ n : Int, n.natAbs ≤ 1000000000000000000 → n.natAbs < 2 ^ 9000 := fun n hn => small9000 (Nat.lt_of_le_of_lt hn (by decide))
    by_cases c1 : size < 100
    · rw [decide_eq_true c1]
      refine iteT ⟨_, rfl, _, rfl, 2, size, rfl, rfl, cm (by omega) (by omega), _, _, rfl, rfl, c, d, ns, m, _, rfl, hC, by omega, by omega, e200 _ (by omega), fun r H1 r0 r1 hC1 sb => ?_⟩
      refine ⟨_, rfl, _, _, rfl, rfl, k _ H1 ?_ (hC1.more (by omega)) sb⟩
      have : (100 : Nat) < 2 ^ 68 := by decide
      omega
    · rw [decide_eq_false c1]
      refine iteF ⟨_, rfl, c, d, ns, m, 2001, rfl, hC, by omega, by decide, e200 _ (by decide), fun r H1 r0 r1 hC1 sb => ?_⟩
      refine ⟨_, _, rfl, rfl, _, rfl, _, _, rfl, rfl, cm (by omega) (by omega), ?_⟩
      refine ⟨_, rfl, c, d, ns, m + 1, 7, rfl, hC1, by omega, by decide, e200 _ (by decide), fun r2 H2 r20 r21 hC2 sb2 => ?_⟩
      refine ⟨_, _, rfl, rfl, _, _, rfl, rfl, k _ H2 ?_ hC2 (sb.trans sb2)⟩
      have a1 : (r - 1000) * size ≤ 1000 * 100000000000000000 := by
        rcases Int.le_total 0 (r - 1000) with z | z
        · exact Int.mul_le_mul (by omega) h1 (by omega) (by omega)
        · have := Int.mul_nonneg (by omega : 0 ≤ -(r - 1000)) (by omega : 0 ≤ size)
          have e : -(r - 1000) * size = -((r - 1000) * size) := Int.neg_mul ..
          omega
      have a2 : -(1000 * 100000000000000000) ≤ (r - 1000) * size := by
        rcases Int.le_total 0 (r - 1000) with z | z
        · have := Int.mul_nonneg z (by omega : 0 ≤ size)
          omega
        · have := Int.mul_le_mul (by omega : -(r - 1000) ≤ 1000) h1 (by omega) (by omega)
          have e : -(r - 1000) * size = -((r - 1000) * size) := Int.neg_mul ..
          omega
      generalize (r - 1000) * size = z at a1 a2 ⊢
      have : (200000000000000000000 : Nat) < 2 ^ 68 := by decide
      omega
/-! ### stirred -/
theorem perm_erase {α : Type} : ∀ (l : List α) (j : Nat) (h : j < l.length), ([l[j]] ++ l.eraseIdx j).Perm l
  | a :: l, 0, _ => List.Perm.refl _
  | a :: l, j + 1, h => by
    have hj : j < l.length := by simpa using h
    have ih := perm_erase l j hj
    show (l[j] :: a :: l.eraseIdx j).Perm (a :: l)
    exact (List.Perm.swap a l[j] _).trans (List.Perm.cons a ih)

end
end K0


set_option Elab.async false
set_option linter.all false
set_option maxRecDepth 100000
set_option maxHeartbeats 8000000
set_option exponentiation.threshold 100000
namespace K0
open PySem PySem.Spec PyProof.Rows L2 RZ K0z K3

def rSlK (K : PySem.W.Frag) : V → Option Int → Option Int → Hp → VK → Prop := fun x lo hi H Q => ∃ b a xs, x = .ref a ∧ SqB K b H a xs ∧ (b = true → ¬ (HT.sIx xs.length 0 lo = 0 ∧ HT.sIx xs.length xs.length hi = xs.length)) ∧
  ∀ p, H p = none → Q (.ref p) (upd H p (if b = true then .tup (cutV xs lo hi) else .lst (cutV xs lo hi)))
theorem sl_K {X : Cx} (K : PySem.W.Frag) (e : X.K = K := by rfl) : SlR X (rSlK K) := by
  subst e
  intro pins s σ H x v vl vu lo hi sl Q I rx hs pl pu h
  obtain ⟨b, a, xs, e, hx, hw, q⟩ := h
  cases b
  · exact sl_list pins s σ H x v vl vu lo hi sl Q I rx hs pl pu ⟨a, xs, e, hx, q⟩
  · exact sl_tup pins s σ H x v vl vu lo hi sl Q I rx hs pl pu ⟨a, xs, e, hx, hw rfl, q⟩
def subV (x y : Vec) : Vec := List.zipWith (fun a b => a - b) x y
theorem sub_list (x y : Vec) : (List.range (min x.length y.length)).map (fun t => V.int (x.getD t 0 - y.getD t 0)) = (subV x y).map V.int := by
  unfold subV
  refine List.ext_getElem (by simp) fun i h1 h2 => ?_
  simp only [List.length_map, List.length_zipWith] at h2
  have hx : i < x.length := by omega
  have hy : i < y.length := by omega
  simp [List.getD_eq_getElem?_getD, List.getElem?_eq_getElem hx, List.getElem?_eq_getElem hy]
section
variable {P : Program} {w : World} {K : PySem.W.Frag} {mg : Str → Option Value} {base : Heap} {f g g2 g3 g4 : Addr} {fd : FuncData}
theorem sc_lis_integer : FnScope ["value"] ["value"] (defScope st__law_is_integer) := ⟨rfl, rfl, rfl, by decide +kernel, rfl, by decide +kernel, by decide +kernel⟩
theorem ok_lis_integer (F : Fun K "_law_is_integer" "_law_is_integer" st__law_is_integer f fd) (T : Nm mg) : FnOk P w K mg base CX0 1 f fd ["value"] (spIsInt K) := by
  refine F.ok sc_lis_integer (fun vs H Q E h => ?_) (fun cdv A outer s H vs Q E hr h => ?_)
  · obtain ⟨v, q, rfl, _⟩ := h
    rfl
  · obtain ⟨v, q, rfl, ⟨t, i, b, ty, hi, hb, hib, _⟩, k⟩ := h
    refine ⟨_, (pss_one (ps_ret (pe_and (pe_callB call_isA (by rfl) T.n_isinstance (by decide +kernel) (pa_cons (pv 0) (pa_cons (pe_tyn "int" (by rfl) T.n_int (by decide +kernel)) pa_nil))) (pe_one (pe_not (pe_callB call_isA (by rfl) T.n_isinstance (by decide +kernel) (pa_cons (pv 0) (pa_cons (pe_tyn "bool" (by rfl) T.n_bool (by decide +kernel)) pa_nil)))))))), ?_⟩
    refine ⟨_, rfl, v, .ty "int", t, .type "int", i, rfl, .ty _, ty, hi, i, rfl, ?_⟩
    cases i with
    | false =>
      refine iteF ?_
      have e : isI v = false := hib.symm
      rw [← e]
      exact k H (Same.refl H)
    | true =>
      refine iteT ?_
      refine ⟨_, rfl, v, .ty "bool", t, .type "bool", b, rfl, .ty _, ty, hb, b, rfl, ?_⟩
      have e : isI v = !b := hib.symm
      rw [← e]
      exact k H (Same.refl H)
end
end K0


set_option Elab.async false
set_option linter.all false
set_option maxRecDepth 100000
set_option maxHeartbeats 8000000
set_option exponentiation.threshold 100000
namespace K0
open PySem PySem.Spec PyProof.Rows L2 RZ K0z K3

theorem cut_last {xs : List V} (h : 1 ≤ xs.length) : cutV xs none (some (-1)) = xs.dropLast := by
  unfold cutV
  have e1 : HT.sIx xs.length 0 none = 0 := rfl
  have e2 : HT.sIx xs.length xs.length (some (-1)) = xs.length - 1 := by
    show (if (-1 : Int) < 0 then ((-1 : Int) + (xs.length : Nat)).toNat else min (-1 : Int).toNat xs.length) = _
    rw [if_pos (by decide)]
    omega
  rw [e1, e2, List.drop_zero, Nat.sub_zero, List.dropLast_eq_take]
theorem not_whole {n : Nat} (h : 1 ≤ n) : ¬ (HT.sIx n 0 none = 0 ∧ HT.sIx n n (some (-1)) = n) := fun z => by
  have e2 : HT.sIx n n (some (-1)) = n - 1 := by
    show (if (-1 : Int) < 0 then ((-1 : Int) + (n : Nat)).toNat else min (-1 : Int).toNat n) = _
    rw [if_pos (by decide)]
    omega
  rw [e2] at z
  omega
theorem at_last {x : Vec} (h : 1 ≤ x.length) : atI (x.map V.int) (-1) = some (.int (x.getLastD 0)) := by
  have e : ixN (x.map V.int).length (-1) = some (x.length - 1) := by
    unfold ixN
    rw [List.length_map, if_neg (by decide), if_pos (by omega)]
    congr 1
    omega
  unfold atI
  rw [e]
  show (x.map V.int)[x.length - 1]? = _
  rw [List.getElem?_map, List.getElem?_eq_getElem (by omega)]
  have : x ≠ [] := List.length_pos_iff.mp h
  rw [List.getLastD_eq_getLast?, List.getLast?_eq_getElem?, List.getElem?_eq_getElem (by omega)]
  rfl
theorem filt_map {α β : Type} (l : List α) (d : α) (p : α → Bool) (g : α → β) : ((List.range l.length).filter (fun i => p (l.getD i d))).map (fun i => g (l.getD i d)) = (l.filter p).map g := by
  have e := range_map_getD l d (fun x => x)
  rw [List.map_id'] at e
  conv => rhs; rw [← e]
  rw [List.filter_map, List.map_map]
  rfl
section
variable {P : Program} {w : World} {K : PySem.W.Frag} {mg : Str → Option Value} {base : Heap} {f g g2 g3 g4 g5 g6 CB CM : Addr} {fd : FuncData}
def spPlaneOf (K : PySem.W.Frag) : Sp := fun vs H Q _ => ∃ (a : Addr) (h : Vec), vs = [.ref a] ∧ SqT K H a (h.map V.int) ∧ 2 ≤ h.length ∧ h.length ≤ 10 ∧ firstL h.dropLast ≠ 0 ∧
  ∀ (p q : Addr) (H' : Hp), Same H H' → H' p = some (.tup [.ref q, .int (planeOf h).2]) → H' q = some (.tup ((planeOf h).1.map V.int)) → Q (.ref p) H'
theorem sc_plane_of : FnScope ["row", "first", "number"] ["row"] (defScope st_plane_of) := ⟨rfl, rfl, rfl, by decide +kernel, rfl, by decide +kernel, by decide +kernel⟩
theorem ok_plane_of (F : Fun K "plane_of" "plane_of" st_plane_of f fd) (T : Nm mg) : FnOk P w K mg base CX0 1 f fd ["row"] (spPlaneOf K) := by
  refine F.ok sc_plane_of (fun vs H Q E h => ?_) (fun cdv A outer s H vs Q E hr h => ?_)
  · obtain ⟨a, h, rfl, _⟩ := h
    rfl
  · obtain ⟨a, h, rfl, hT, h2, h10, hf, k⟩ := h
    refine ⟨_, (pss_cons (ps_set (i := 1) sc_plane_of.nd rfl (Or.inl rfl) (pe_ix (ix_K K) (pe_lc (own := [("number", 2)]) (g := gName 2) rfl sc_plane_of.nd (pi_seqK K (pe_slice (sl_K K) (pv 0) po_none (po_some (pe_un un_neg pe_int)))) (blkOk_by (N := ["row", "first", "number"]) (sc := defScope st_plane_of) (by decide +kernel)) (fun _ _ _ _ _ => (pg_name (i := 2) sc_plane_of.nd rfl (Or.inl rfl))) (fun _ _ _ _ _ => (pts_one (pt_cmpR op_ne (pv 2) pe_int (nomark _)))) (fun _ _ _ _ _ => (pv 2))) pe_int (fun _ _ => rfl)))
    (pss_cons (ps_if (pt_cmpR op_lt (pv 1) pe_int (nomark _)) (pss_one (ps_ret (pe_tup (pa_cons (pe_callTy (call_tupK K) (by rfl) T.n_tuple (by decide +kernel) (pa_cons (pe_lc (own := [("number", 2)]) (g := gName 2) (tt := tYes) rfl sc_plane_of.nd (pi_seqK K (pe_slice (sl_K K) (pv 0) po_none (po_some (pe_un un_neg pe_int)))) (blkOk_by (N := ["row", "first", "number"]) (sc := defScope st_plane_of) (by decide +kernel)) (fun _ _ _ _ _ => (pg_name (i := 2) sc_plane_of.nd rfl (Or.inl rfl))) (fun _ _ _ _ _ => pts_nil) (fun _ _ _ _ _ => (pe_un un_neg (pv 2)))) pa_nil)) (pa_cons (pe_ix (ix_K K) (pv 0) (pe_un un_neg pe_int) (fun _ _ => rfl)) pa_nil))))) pss_nil)
    (pss_one (ps_ret (pe_tup (pa_cons (pe_slice (sl_K K) (pv 0) po_none (po_some (pe_un un_neg pe_int))) (pa_cons (pe_un un_neg (pe_ix (ix_K K) (pv 0) (pe_un un_neg pe_int) (fun _ _ => rfl))) pa_nil))))))), ?_⟩
    have lm : 1 ≤ (h.map V.int).length := by rw [List.length_map]; omega
    have dl : (h.map V.int).dropLast = h.dropLast.map V.int := by rw [List.map_dropLast]
    have ld : h.dropLast.length = h.length - 1 := List.length_dropLast
    refine ⟨_, rfl, 1, rfl, _, rfl, true, a, _, rfl, hT, fun _ => not_whole lm, fun Z hZ => ⟨true, Z, rfl, ⟨_, .of upd_same⟩, fun D hD => ?_⟩⟩
    rw [cut_last lm, dl] at hD ⊢
    have sZ := same_upd (o := if true = true then HO.tup (h.dropLast.map V.int) else HO.lst (h.dropLast.map V.int)) hZ
    have hZ1 : upd H Z (if true = true then HO.tup (h.dropLast.map V.int) else HO.lst (h.dropLast.map V.int)) Z = some (.tup (h.dropLast.map V.int)) := upd_same
    generalize upd H Z (if true = true then HO.tup (h.dropLast.map V.int) else HO.lst (h.dropLast.map V.int)) = H1 at sZ hZ1 hD ⊢
    have hsz : (h.dropLast.map V.int).length < sizeLine := by rw [List.length_map]; exact Nat.lt_of_le_of_lt (by omega : _ ≤ 10) (by decide)
    refine lc_funF (fun i => h.dropLast.getD i 0 != 0) (fun i => V.int (h.dropLast.getD i 0)) (walk_seq (b := true)) hD hsz (fun H2 s2 => .of (s2 _ _ hZ1)) ?_ ?_
    · rintro i x H2 H3 hi s2 _ ⟨rfl, hx⟩ Rt Rk g1 g2
      obtain ⟨n, hn, rfl⟩ := map_int_get hx
      have eg : h.dropLast.getD i 0 = n := by rw [List.getD_eq_getElem?_getD, hn]; rfl
      refine ⟨rfl, _, rfl, rfl, _, rfl, ?_⟩
      by_cases c : n = 0
      · have e : (!decide (V.int n = V.int 0)) = false := by rw [c]; simp
        rw [e]
        exact iteF (g1 (by rw [eg, c]; rfl) _ (Same.refl _))
      · have e : (!decide (V.int n = V.int 0)) = true := by rw [decide_eq_false (fun z => c (V.int.inj z))]; rfl
        rw [e]
        refine iteT ⟨_, rfl, ?_⟩
        have q := g2 (by rw [eg]; simpa using c) _ (Same.refl _)
        rw [eg] at q
        exact q
    intro H2 hD2 s2
    rw [List.length_map, filt_map h.dropLast 0 (fun x => x != 0) V.int] at hD2
    have hne : h.dropLast.filter (fun x => x != 0) ≠ [] := fun e => hf (by unfold firstL; rw [e]; rfl)
    have e0 : ((h.dropLast.filter (fun x => x != 0)).map V.int)[0]? = some (.int (firstL h.dropLast)) := by
      unfold firstL
      cases e : h.dropLast.filter (fun x => x != 0) with
      | nil => exact absurd e hne
      | cons y ys => rfl
    refine ⟨false, D, _, 0, _, rfl, rfl, .of hD2, atI_nat (j := 0) e0, ?_⟩
    have s02 := sZ.trans s2
    refine ⟨_, rfl, _, _, rfl, rfl, _, rfl, ?_⟩
    by_cases c : firstL h.dropLast < 0
    · have ep : planeOf h = (h.dropLast.map (- ·), h.getLastD 0) := if_pos c
      rw [ep] at k
      rw [decide_eq_true c]
      refine iteT ⟨_, rfl, 1, rfl, _, rfl, true, a, _, rfl, same_sqT s02 hT, fun _ => not_whole lm, fun Y hY => ⟨true, Y, rfl, ⟨_, .of upd_same⟩, fun D2 hD3 => ?_⟩⟩
      rw [cut_last lm, dl] at hD3 ⊢
      have sY := same_upd (o := if true = true then HO.tup (h.dropLast.map V.int) else HO.lst (h.dropLast.map V.int)) hY
      have hY1 : upd H2 Y (if true = true then HO.tup (h.dropLast.map V.int) else HO.lst (h.dropLast.map V.int)) Y = some (.tup (h.dropLast.map V.int)) := upd_same
      generalize upd H2 Y (if true = true then HO.tup (h.dropLast.map V.int) else HO.lst (h.dropLast.map V.int)) = H3 at sY hY1 hD3 ⊢
      refine lc_fun (fun i => V.int (- h.dropLast.getD i 0)) (walk_seq (b := true)) hD3 hsz (fun H4 s4 => .of (s4 _ _ hY1)) ?_ ?_
      · rintro i x H4 H5 hi s4 _ ⟨rfl, hx⟩ Rk kk
        obtain ⟨n, hn, rfl⟩ := map_int_get hx
        have eg : h.dropLast.getD i 0 = n := by rw [List.getD_eq_getElem?_getD, hn]; rfl
        have q := kk _ (Same.refl _)
        rw [eg] at q
        exact ⟨rfl, _, rfl, n, rfl, q⟩
      · intro H4 hD4 s4
        rw [List.length_map, range_map_getD h.dropLast 0 (fun x => V.int (- x))] at hD4
        have em : h.dropLast.map (fun x => V.int (- x)) = (h.dropLast.map (- ·)).map V.int := by rw [List.map_map]; rfl
        rw [em] at hD4
        refine ⟨false, D2, _, rfl, .of hD4, fun _ q hq => ?_, fun z => (by cases z)⟩
        have sq := same_upd (o := .tup ((h.dropLast.map (- ·)).map V.int)) hq
        have hq1 : upd H4 q (.tup ((h.dropLast.map (- ·)).map V.int)) q = some (.tup ((h.dropLast.map (- ·)).map V.int)) := upd_same
        generalize upd H4 q (.tup ((h.dropLast.map (- ·)).map V.int)) = H5 at sq hq1 ⊢
        have s05 := s02.trans (sY.trans (s4.trans sq))
        refine ⟨_, rfl, 1, rfl, true, a, _, _, _, rfl, rfl, same_sqT s05 hT, at_last (by omega), (by show 2 ≤ sizeLine; decide), fun p hp => ?_⟩
        exact k p q _ (s05.trans (same_upd hp)) upd_same ((same_upd hp) _ _ hq1)
    · have ep : planeOf h = (h.dropLast, - h.getLastD 0) := if_neg c
      rw [ep] at k
      rw [decide_eq_false c]
      refine iteF ⟨_, rfl, 1, rfl, _, rfl, true, a, _, rfl, same_sqT s02 hT, fun _ => not_whole lm, fun q hq => ?_⟩
      rw [cut_last lm, dl]
      have sq := same_upd (o := if true = true then HO.tup (h.dropLast.map V.int) else HO.lst (h.dropLast.map V.int)) hq
      have hq1 : upd H2 q (if true = true then HO.tup (h.dropLast.map V.int) else HO.lst (h.dropLast.map V.int)) q = some (.tup (h.dropLast.map V.int)) := upd_same
      generalize upd H2 q (if true = true then HO.tup (h.dropLast.map V.int) else HO.lst (h.dropLast.map V.int)) = H3 at sq hq1 ⊢
      have s03 := s02.trans sq
      refine ⟨_, rfl, 1, rfl, true, a, _, _, _, rfl, rfl, same_sqT s03 hT, at_last (by omega), _, rfl, (by show 2 ≤ sizeLine; decide), fun p hp => ?_⟩
      exact k p q _ (s03.trans (same_upd hp)) upd_same ((same_upd hp) _ _ hq1)
end
end K0


set_option Elab.async false
set_option linter.all false
set_option maxRecDepth 100000
set_option maxHeartbeats 8000000
set_option exponentiation.threshold 100000
namespace K0
open PySem PySem.Spec PyProof.Rows L2 RZ K0z K3

def okP (vo : Option (List (Option (List V)))) : Prop := ∃ M, vo = some (mat M) ∧ 2 ≤ M.length ∧ M.length ≤ 6 ∧ ∀ r ∈ M, r.length = M.length
theorem pts_n {os : List (Option (List V))} {n : Nat} (hne : os ≠ []) : ptsB os (.int (n : Nat)) (.int (n : Nat)) = true ↔ ∃ M, os = mat M ∧ ∀ r ∈ M, r.length = n := by
  cases os with
  | nil => exact absurd rfl hne
  | cons o r =>
    have e : ptsB (o :: r) (.int (n : Nat)) (.int (n : Nat)) = (lenB o (.int (n : Nat)) (.int (n : Nat)) && (o :: r).all fun q => lenB q (.int (o.getD []).length) (.int (o.getD []).length) && intsB q) := rfl
    rw [e, Bool.and_eq_true, List.all_eq_true]
    constructor
    · rintro ⟨h1, h2⟩
      obtain ⟨ys, rfl, l1, l2⟩ := lenB_int.mp h1
      have key : ∀ q ∈ some ys :: r, ∃ xs : List V, q = some xs ∧ xs.length = n ∧ (xs.map toI).map V.int = xs := fun q hq => by
        have := h2 q hq
        rw [Bool.and_eq_true] at this
        obtain ⟨xs, rfl, a, b⟩ := lenB_int.mp this.1
        have a' : ((ys.length : Nat) : Int) ≤ xs.length := a
        have b' : (xs.length : Int) ≤ ((ys.length : Nat) : Int) := b
        exact ⟨xs, rfl, by omega, ints_of this.2⟩
      refine ⟨(some ys :: r).map fun q => (q.getD []).map toI, ?_, fun x hx => ?_⟩
      · unfold mat
        rw [List.map_map]
        conv => lhs; rw [← List.map_id (some ys :: r)]
        refine List.map_congr_left fun q hq => ?_
        obtain ⟨xs, rfl, _, e⟩ := key q hq
        show some xs = some ((xs.map toI).map V.int)
        rw [e]
      · obtain ⟨q, hq, rfl⟩ := List.mem_map.mp hx
        obtain ⟨xs, rfl, l, _⟩ := key q hq
        show (xs.map toI).length = _
        rw [List.length_map, l]
    · rintro ⟨M, eM, hM⟩
      have key : ∀ q ∈ o :: r, ∃ x : Vec, q = some (x.map V.int) ∧ x.length = n := fun q hq => by
        rw [eM] at hq
        obtain ⟨x, hx, rfl⟩ := List.mem_map.mp hq
        exact ⟨x, rfl, hM x hx⟩
      obtain ⟨x0, rfl, l0⟩ := key o List.mem_cons_self
      refine ⟨lenB_int.mpr ⟨_, rfl, by rw [List.length_map]; omega, by rw [List.length_map]; omega⟩, fun q hq => ?_⟩
      obtain ⟨x, rfl, l⟩ := key q hq
      rw [Bool.and_eq_true]
      refine ⟨lenB_int.mpr ⟨_, rfl, ?_, ?_⟩, ?_⟩
      · show (((x0.map V.int).length : Nat) : Int) ≤ ((x.map V.int).length : Nat)
        rw [List.length_map, List.length_map]; omega
      · show (((x.map V.int).length : Nat) : Int) ≤ ((x0.map V.int).length : Nat)
        rw [List.length_map, List.length_map]; omega
      · show (x.map V.int).all isI = true
        rw [List.all_eq_true]
        intro y hy
        obtain ⟨b, _, rfl⟩ := List.mem_map.mp hy
        rfl
section
variable {P : Program} {w : World} {K : PySem.W.Frag} {mg : Str → Option Value} {base : Heap} {f g g2 g3 g4 g5 g6 CB CM : Addr} {fd : FuncData}
def spPlane (K : PySem.W.Frag) (CB CM : Addr) : Sp := fun vs H Q E => ∃ (v : V) (vo : Option (List (Option (List V)))), vs = [v] ∧ ValAt K H v vo ∧ Small vo ∧
  (∀ M, vo = some (mat M) → 2 ≤ M.length → M.length ≤ 6 → (∀ r ∈ M, r.length = M.length) →
    (2 ≤ (heldM (M.length + 1) (M.map (· ++ [1]))).length → ∀ (d : Addr) (H' : Hp), H d = none → H' d = some (.xd (fs1 "part" [.str "span"])) → Same H H' → E (.ref CM) (some d) H') ∧
    ((heldM (M.length + 1) (M.map (· ++ [1]))).length ≤ 1 → ∃ h, heldM (M.length + 1) (M.map (· ++ [1])) = [h] ∧ h.length = M.length + 1 ∧ firstL h.dropLast ≠ 0 ∧
      ∀ (p q : Addr) (H' : Hp), Same H H' → H' p = some (.tup [.ref q, .int (planeOf h).2]) → H' q = some (.tup ((planeOf h).1.map V.int)) → Q (.ref p) H')) ∧
  (¬ okP vo → ∀ (d : Addr) (H' : Hp), H d = none → H' d = some (.xd (fs1 "part" [.str "points"])) → Same H H' → E (.ref CB) (some d) H')
theorem sc_plane_through : FnScope ["points", "held", "point"] ["points"] (defScope st_plane_through) := ⟨rfl, rfl, rfl, by decide +kernel, rfl, by decide +kernel, by decide +kernel⟩
theorem ok_plane_through (F : Fun K "plane_through" "plane_through" st_plane_through f fd) (T : Nm mg) (D_is_list : Dn P w K mg base 3 "is_list" g ["value", "least", "most"] (spIsList K)) (D_are_points : Dn P w K mg base 6 "are_points" g2 ["value", "least_wide", "most_wide"] (spPts K))
    (D_unit_rows : Dn P w K mg base 1 "unit_rows" g3 ["wide"] (spUnits K)) (D_narrowed : Dn P w K mg base 4 "narrowed" g4 ["held", "row"] (spNarrow K)) (D_lifted_point : Dn P w K mg base 1 "lifted_point" g5 ["point"] (spLift K)) (D_plane_of : Dn P w K mg base 1 "plane_of" g6 ["row"] (spPlaneOf K))
    (R_BadPoint : RaiseC P w K mg base "BadPoint" CB "part") (R_Misfit : RaiseC P w K mg base "Misfit" CM "part") : FnOk P w K mg base (L2.CX P w) 7 f fd ["points"] (spPlane K CB CM) := by
  refine F.okX sc_plane_through (fun vs H Q E h => ?_) (fun cdv A outer s H vs Q E hr h => ?_)
  · obtain ⟨v, vo, rfl, _⟩ := h
    rfl
  · obtain ⟨v, vo, rfl, hv, hsm, k1, k2⟩ := h
    refine ⟨_, (pss_cons (ps_if (PW.pt (pw_or (pt_not (pt_val (pe_dn D_is_list (hr.mono (by decide)) rfl (pa_cons (pv 0) (pa_cons pe_int (pa_cons (pe_cint (by rfl) T.c_MOST_DIMENSION) pa_nil)))))) (pw_or1 (pt_not (pt_val (pe_dn D_are_points (hr.mono (by decide)) rfl (pa_cons (pv 0) (pa_cons (pe_callB (call_lenK K) (by rfl) T.n_len (by decide +kernel) (pa_cons (pv 0) pa_nil)) (pa_cons (pe_callB (call_lenK K) (by rfl) T.n_len (by decide +kernel) (pa_cons (pv 0) pa_nil)) pa_nil))))))))) (pss_one (ps_raise rfl (takes_of rfl rfl rfl rfl) (pmk_c R_BadPoint (hr.mono (by decide)) rfl (pa_cons pe_str pa_nil)))) pss_nil)
    (pss_cons (ps_set (i := 1) sc_plane_through.nd rfl (Or.inl rfl) (pe_dn D_unit_rows (hr.mono (by decide)) rfl (pa_cons (pe_op op_add (pe_callB (call_lenK K) (by rfl) T.n_len (by decide +kernel) (pa_cons (pv 0) pa_nil)) pe_int) pa_nil)))
    (pss_cons (ps_for (passes_of rfl) rfl (pi_seqK K (pv 0)) (pg_name (i := 2) sc_plane_through.nd rfl (Or.inl rfl))
      (pss_one (ps_set (i := 1) sc_plane_through.nd rfl (Or.inl rfl) (pe_dn D_narrowed (hr.mono (by decide)) rfl (pa_cons (pv 1) (pa_cons (pe_dn D_lifted_point (hr.mono (by decide)) rfl (pa_cons (pv 2) pa_nil)) pa_nil))))))
    (pss_cons (ps_if (pt_cmpR op_gt (pe_callB (call_lenK K) (by rfl) T.n_len (by decide +kernel) (pa_cons (pv 1) pa_nil)) pe_int (nomark _)) (pss_one (ps_raise rfl (takes_of rfl rfl rfl rfl) (pmk_c R_Misfit (hr.mono (by decide)) rfl (pa_cons pe_str pa_nil)))) pss_nil)
    (pss_one (ps_ret (pe_dn D_plane_of (hr.mono (by decide)) rfl (pa_cons (pe_ix (ix_K K) (pv 1) pe_int (fun _ _ => rfl)) pa_nil)))))))), ?_⟩
    have bad : ∀ H1, Same H H1 → ¬ okP vo → ∀ (d : Addr) (H' : Hp), H1 d = none → H' d = some (.xd (fs1 "part" [.str "points"])) → Same H1 H' → E (.ref CB) (some d) H' :=
      fun H1 s1 hb d H' hd e s2 => k2 hb d H' (s1.free hd) e (s1.trans s2)
    cases vo with
    | none =>
      have hv' : Seqs K H v none := hv
      refine ⟨_, rfl, v, .int 2, .int 6, none, rfl, hv', .inr ⟨2, rfl⟩, .inr ⟨6, rfl⟩, fun H1 s1 => ⟨_, rfl, ?_⟩⟩
      exact iteT (iteT (bad H1 s1 fun ⟨M, e, _⟩ => by cases e))
    | some os =>
      obtain ⟨xs, hS, hl, hz⟩ := id hv
      refine ⟨_, rfl, v, .int 2, .int 6, some xs, rfl, hS, .inr ⟨2, rfl⟩, .inr ⟨6, rfl⟩, fun H1 s1 => ⟨_, rfl, ?_⟩⟩
      have lm : ∀ M : List Vec, (mat M).length = M.length := fun M => by simp [mat]
      cases c : lenB (some xs) (.int 2) (.int 6) with
      | false =>
        refine iteT (iteT (bad H1 s1 fun ⟨M, e, l2, l6, _⟩ => ?_))
        have e' := Option.some.inj e
        have : lenB (some xs) (.int 2) (.int 6) = true := lenB_int.mpr ⟨xs, rfl, by rw [hl, e', lm]; omega, by rw [hl, e', lm]; omega⟩
        rw [c] at this
        cases this
      | true =>
        obtain ⟨_, e, l1, l2⟩ := lenB_int.mp c
        cases e
        have ne : os ≠ [] := fun z => by rw [z] at hl; rw [hl] at l1; simp at l1
        obtain ⟨bB, aB, rfl, hB, _⟩ := hS.sqB
        refine iteF ⟨_, rfl, _, rfl, bB, aB, xs, rfl, hB.same s1, _, rfl, bB, aB, xs, rfl, hB.same s1, .ref aB, (xs.length : Nat), (xs.length : Nat), os, rfl, hv.same s1, ne, fun H2 s2 => ⟨_, rfl, ?_⟩⟩
        cases cp : ptsB os (.int (xs.length : Nat)) (.int (xs.length : Nat)) with
        | false =>
          refine iteT (bad H2 (s1.trans s2) fun ⟨M, e, m2, m6, hM⟩ => ?_)
          have e' := Option.some.inj e
          have : ptsB os (.int (xs.length : Nat)) (.int (xs.length : Nat)) = true := (pts_n ne).mpr ⟨M, e', fun r hr => by rw [hM r hr, hl, e', lm]⟩
          rw [cp] at this
          cases this
        | true =>
          refine iteF ?_
          obtain ⟨M, rfl, hM⟩ := (pts_n ne).mp cp
          rw [lm] at hl
          rw [hl] at hM
          have m2 : 2 ≤ M.length := by omega
          have m6 : M.length ≤ 6 := by omega
          obtain ⟨kA, kB⟩ := k1 M rfl m2 m6 hM
          have s12 := s1.trans s2
          have hR : RowsAt K H2 (.ref aB) M := rows_of_val (hv.same s12)
          refine ⟨_, rfl, bB, aB, xs, rfl, hB.same s12, _, 1, rfl, rfl, M.length + 1, by rw [hl]; rfl, by omega, fun v0 H3 s3 hU => ?_⟩
          have s13 := s12.trans s3
          obtain ⟨b, a, vs, ea, hSq, hl2, hz2⟩ := hR.same s3
          cases ea
          have okM : MatOk (M.map (· ++ [1])) := ⟨by rw [List.length_map]; omega, fun r hr => by
            obtain ⟨x, hx, rfl⟩ := List.mem_map.mp hr
            refine ⟨by rw [List.length_append, hM x hx]; simp; omega, fun y hy => ?_⟩
            rcases List.mem_append.mp hy with z | z
            · exact hsm M rfl x hx y z
            · rw [List.mem_singleton.mp z]; decide⟩
          refine ⟨_, rfl, b, aB, rfl, ⟨_, hSq⟩, for_it walk_seq (fun i σ H4 => Same H3 H4 ∧ ∃ (v2 : V) (v3 : Option V), σ = [some (.ref aB), some v2, v3] ∧ TupsAt K H4 v2 (heldM (M.length + 1) ((M.map (· ++ [1])).take i)))
              ⟨Same.refl _, v0, none, rfl, hU⟩ (fun i σ H4 _ p => hSq.same p.1) ?_ ?_⟩
          · rintro i x σ H4 H5 hi ⟨s4, v2, v3, rfl, hT⟩ ⟨rfl, hx⟩
            have hi2 : i < M.length := by omega
            obtain ⟨u, e1, e2, hV⟩ := RowsAt.get hl2 hz2 hi2
            rw [e1] at hx
            cases hx
            have e3 : (M.map (· ++ [1]))[i]? = some (M[i] ++ [1]) := by rw [List.getElem?_map, e2]; rfl
            have hmM := List.getElem_mem hi2
            have hmr := okM.row _ (List.mem_of_getElem? e3)
            refine ⟨_, rfl, _, rfl, _, M[i], rfl, hV.same s4, by rw [hM _ hmM]; omega, fun p2 H6 s6 hp2 => ?_⟩
            refine ⟨v2, _, M.length + 1, _, M[i] ++ [1], rfl, hT.same s6, .tup (.of hp2), held_ok (by omega) okM i, ⟨hmr.1, hmr.2⟩, fun v' H7 s7 hT' => ?_⟩
            rw [← held_succ e3] at hT'
            exact ⟨s4.trans (s6.trans s7), v', _, rfl, hT'⟩
          · rintro σ H4 ⟨s4, v2, v3, rfl, hT⟩
            have et : (M.map (· ++ [1])).take M.length = M.map (· ++ [1]) := List.take_of_length_le (by rw [List.length_map]; exact Nat.le_refl _)
            rw [hl2, et] at hT
            obtain ⟨a2, vs2, rfl, hS2, hl3, hz3⟩ := hT
            have s14 := s13.trans s4
            refine ⟨_, rfl, false, a2, vs2, rfl, hS2, _, _, rfl, rfl, _, rfl, ?_⟩
            by_cases ch : (1 : Int) < (vs2.length : Nat)
            · rw [decide_eq_true ch]
              refine iteT ?_
              exact fun d H' hd e s5 => kA (Nat.le_trans (show 2 ≤ vs2.length by omega) (Nat.le_of_eq hl3)) d H' (s14.free hd) e (s14.trans s5)
            · rw [decide_eq_false ch]
              refine iteF ?_
              obtain ⟨h, eh, lh, fh, kQ⟩ := kB (Nat.le_trans (Nat.le_of_eq hl3.symm) (show vs2.length ≤ 1 by omega))
              rw [eh] at hl3 hz3
              have hl1 : vs2.length = 1 := hl3
              obtain ⟨u, eu⟩ : ∃ u, vs2[0]? = some u := ⟨_, List.getElem?_eq_getElem (by omega)⟩
              obtain ⟨p0, rfl, hp0⟩ := hz3 0 u h eu rfl
              refine ⟨_, rfl, false, a2, vs2, 0, _, rfl, rfl, hS2, atI_nat (j := 0) eu, p0, h, rfl, hp0, by omega, by omega, fh, fun p q H5 s5 g1 g2 => kQ p q H5 (s14.trans s5) g1 g2⟩
end
end K0


set_option Elab.async false
set_option linter.all false
set_option maxRecDepth 100000
set_option maxHeartbeats 8000000
set_option exponentiation.threshold 100000
namespace K0
open PySem PySem.Spec PyProof.Rows L2 RZ K0z K3

/-- these refs stand for these vectors, each a list -/
def LLs (H : Hp) (vs : List V) (M : List Vec) : Prop := vs.length = M.length ∧ ∀ (i : Nat) (u : V) (x : Vec), vs[i]? = some u → M[i]? = some x → ∃ q, u = .ref q ∧ H q = some (.lst (x.map V.int))
theorem LLs.same {H H' : Hp} {vs : List V} {M : List Vec} (h : LLs H vs M) (s : Same H H') : LLs H' vs M :=
  ⟨h.1, fun i u x h1 h2 => let ⟨q, e, z⟩ := h.2 i u x h1 h2; ⟨q, e, s _ _ z⟩⟩
theorem LLs.get {H : Hp} {vs : List V} {M : List Vec} (h : LLs H vs M) {i : Nat} (hi : i < M.length) : ∃ q, vs[i]? = some (.ref q) ∧ M[i]? = some M[i] ∧ H q = some (.lst (M[i].map V.int)) := by
  have h1 : vs[i]? = some (vs[i]'(by have := h.1; omega)) := List.getElem?_eq_getElem (by have := h.1; omega)
  have h2 : M[i]? = some M[i] := List.getElem?_eq_getElem hi
  obtain ⟨q, e, z⟩ := h.2 i _ _ h1 h2
  exact ⟨q, by rw [h1, e], h2, z⟩
theorem LLs.append {H : Hp} {vs ws : List V} {M N : List Vec} (h : LLs H vs M) (k : LLs H ws N) : LLs H (vs ++ ws) (M ++ N) := by
  refine ⟨by rw [List.length_append, List.length_append, h.1, k.1], fun i u x h1 h2 => ?_⟩
  by_cases hi : i < vs.length
  · rw [List.getElem?_append_left hi] at h1
    rw [List.getElem?_append_left (by rw [← h.1]; exact hi)] at h2
    exact h.2 i u x h1 h2
  · rw [List.getElem?_append_right (by omega)] at h1
    rw [List.getElem?_append_right (by rw [← h.1]; omega), ← h.1] at h2
    exact k.2 _ u x h1 h2
theorem filter_range {α : Type} (d : α) (p : α → Bool) : ∀ (l : List α), l.filter p = ((List.range l.length).filter (fun i => p (l.getD i d))).map (fun i => l.getD i d)
  | [] => rfl
  | a :: l => by
    have ih := filter_range d p l
    have e : (fun i => p ((a :: l).getD i d)) ∘ Nat.succ = fun i => p (l.getD i d) := by
      funext i
      simp [Function.comp]
    rw [List.length_cons, List.range_succ_eq_map]
    by_cases h : p a = true
    · rw [List.filter_cons_of_pos h, List.filter_cons_of_pos (by simpa using h), List.filter_map, e, List.map_cons, List.map_map, ih]
      rfl
    · rw [List.filter_cons_of_neg h, List.filter_cons_of_neg (by simpa using h), List.filter_map, e, List.map_map, ih]
      rfl
/-- the refs that a comprehension with a test picks -/
theorem LLs.filter {H : Hp} {vs acc : List V} {M : List Vec} {f : Vec → Bool} {n : Nat} (h : LLs H vs M) (hn : vs.length = n) (la : acc.length = ((List.range n).filter fun i => f (M.getD i [])).length)
    (hr : ∀ (k : Nat) (y : V) (i : Nat), acc[k]? = some y → ((List.range n).filter fun i => f (M.getD i []))[k]? = some i → vs[i]? = some y) : LLs H acc (M.filter f) := by
  have hM : M.length = n := by rw [← h.1, hn]
  rw [filter_range [] f M, hM]
  refine ⟨by rw [la, List.length_map], fun k y x h1 h2 => ?_⟩
  rw [List.getElem?_map] at h2
  cases hi : ((List.range n).filter fun i => f (M.getD i []))[k]? with
  | none => rw [hi] at h2; cases h2
  | some i =>
    rw [hi] at h2
    cases h2
    have him : i < n := by
      have := List.mem_of_getElem? hi
      exact List.mem_range.mp (List.mem_filter.mp this).1
    have e := hr k y i h1 hi
    refine h.2 i y _ e ?_
    show M[i]? = some (M.getD i [])
    rw [List.getD_eq_getElem?_getD, List.getElem?_eq_getElem (by omega)]
    rfl
theorem cut_drop (xs : List V) : cutV xs (some 1) none = xs.drop 1 := by
  show (xs.drop (HT.sIx xs.length 0 (some ((1 : Nat) : Int)))).take (xs.length - HT.sIx xs.length 0 (some ((1 : Nat) : Int))) = _
  rw [HT.sIx_nat]
  refine List.ext_getElem? fun i => ?_
  rw [List.getElem?_take, List.getElem?_drop, List.getElem?_drop]
  by_cases hl : xs.length = 0
  · have : xs = [] := List.eq_nil_of_length_eq_zero hl
    subst this
    simp
  · rw [Nat.min_eq_left (by omega)]
    by_cases hi : i < xs.length - 1
    · rw [if_pos hi]
    · rw [if_neg hi, List.getElem?_eq_none (by omega)]
theorem atI_int {x : Vec} {p : Nat} (h : p < x.length) : atI (x.map V.int) ((p : Nat) : Int) = some (.int (x.getD p 0)) := by
  refine atI_nat ?_
  rw [List.getElem?_map, List.getD_eq_getElem?_getD, List.getElem?_eq_getElem h]
  rfl
end K0


set_option Elab.async false
set_option linter.all false
set_option maxRecDepth 100000
set_option maxHeartbeats 8000000
set_option exponentiation.threshold 100000
namespace K0
open PySem PySem.Spec PyProof.Rows L2 RZ K0z K3

def rEqNil (K : PySem.W.Frag) : R2 := fun x y H Q => ∃ a b xs, x = .ref a ∧ y = .ref b ∧ SqL K H a xs ∧ SqL K H b [] ∧ Q (.bl xs.isEmpty) H
theorem op_eqNil {X : Cx} (K : PySem.W.Frag) (hu : X.A.units + 64 < cLine) (e : X.K = K := by rfl) : OpR X (compareOp .Eq) (rEqNil K) := by
  subst e
  intro pins s σ H x y v u Q I rx ry h
  obtain ⟨a, b, xs, rfl, rfl, hx, hy, q⟩ := h
  cases xs with
  | nil => exact op_eqD hu pins s σ H _ _ _ _ Q I rx ry ⟨.list [], .list [], .lst hx .nil, .lst hy .nil, by decide, by decide, q⟩
  | cons z zs =>
    cases rx
    cases ry
    obtain ⟨its, rv, p1, _⟩ := I.list hx
    obtain ⟨its2, rv2, p2, _⟩ := I.list hy
    cases rv2
    cases rv with
    | cons r1 r2 => exact PySem.SeqAt.RcAt.lists_lengths p1.isList p2.isList (by simp) (by omega) X.prog X.w X.xe (EP X pins σ Q) ⟨.bl _, H, I, rfl, q⟩
theorem cut_from (xs : List V) (k : Nat) : cutV xs (some (k : Int)) none = xs.drop k := by
  show (xs.drop (HT.sIx xs.length 0 (some (k : Int)))).take (xs.length - HT.sIx xs.length 0 (some (k : Int))) = _
  rw [HT.sIx_nat]
  by_cases h : k ≤ xs.length
  · rw [Nat.min_eq_left h, List.take_of_length_le (by rw [List.length_drop]; exact Nat.le_refl _)]
  · rw [Nat.min_eq_right (by omega), List.drop_length, List.drop_of_length_le (by omega), List.take_nil]
theorem cut_to (xs : List V) (k : Nat) : cutV xs none (some (k : Int)) = xs.take k := by
  show (xs.drop 0).take (HT.sIx xs.length xs.length (some (k : Int)) - 0) = _
  rw [HT.sIx_nat, List.drop_zero, Nat.sub_zero]
  by_cases h : k ≤ xs.length
  · rw [Nat.min_eq_left h]
  · rw [Nat.min_eq_right (by omega), List.take_length, List.take_of_length_le (by omega)]
/-- how great a determinant is -/
theorem ex_bound {f : List Vec → Int} {B C : Nat} : ∀ (post pre : List Vec), (∀ r ∈ post, ∀ b ∈ r, b.natAbs ≤ C) → (∀ l, (∀ r ∈ l, r ∈ pre ∨ r ∈ post) → l.length + 1 = pre.length + post.length → (f l).natAbs ≤ B) → (ex f pre post).natAbs ≤ post.length * (C * B)
  | [], _, _, _ => by simp [ex]
  | r :: post, pre, hC, hB => by
    have ih := ex_bound (f := f) (B := B) (C := C) post (pre ++ [r]) (fun x hx => hC x (List.mem_cons_of_mem _ hx)) (fun l hl hn => hB l (fun x hx => by
      rcases hl x hx with z | z
      · rcases List.mem_append.mp z with z | z
        · exact .inl z
        · rw [List.mem_singleton.mp z]; exact .inr List.mem_cons_self
      · exact .inr (List.mem_cons_of_mem _ z)) (by simp at hn ⊢; omega))
    have h1 := hB (pre ++ post) (fun x hx => by
      rcases List.mem_append.mp hx with z | z
      · exact .inl z
      · exact .inr (List.mem_cons_of_mem _ z)) (by simp; omega)
    have h2 : (r.getD 0 0).natAbs ≤ C := getD_mem (P := fun b => b.natAbs ≤ C) (Nat.zero_le _) (hC r List.mem_cons_self)
    have h3 : (sgn pre.length).natAbs = 1 := by
      have := sgn_eq pre.length
      have e : ((pre.length : Nat) : Int) % 2 = 0 ∨ ((pre.length : Nat) : Int) % 2 = 1 := by omega
      rcases e with e | e <;> rw [this, e] <;> decide
    simp only [ex]
    have h4 : (sgn pre.length * r.getD 0 0 * f (pre ++ post)).natAbs ≤ C * B := by
      rw [Int.natAbs_mul, Int.natAbs_mul, h3, Nat.one_mul]
      exact Nat.mul_le_mul h2 h1
    have h5 := Int.natAbs_add_le (sgn pre.length * r.getD 0 0 * f (pre ++ post)) (ex f (pre ++ [r]) post)
    rw [List.length_cons, Nat.succ_mul]
    omega
theorem D_bound : ∀ (k : Nat) (M : List Vec), M.length = k → k ≤ 8 → (∀ r ∈ M, ∀ b ∈ r, b.natAbs ≤ 2 ^ 100) → (D k M).natAbs ≤ 2 ^ (103 * k)
  | 0, _, _, _, _ => by simp [D]
  | k + 1, M, hl, hk, h => by
    have e := ex_bound (f := fun l => D k (l.map List.tail)) (B := 2 ^ (103 * k)) (C := 2 ^ 100) M [] h (fun l hm hn => D_bound k (l.map List.tail) (by rw [List.length_map]; simp at hn; omega) (by omega) (fun r hr b hb => by
      obtain ⟨x, hx, rfl⟩ := List.mem_map.mp hr
      rcases hm x hx with z | z
      · cases z
      · exact h x z b (List.mem_of_mem_tail hb)))
    show (ex (fun l => D k (l.map List.tail)) [] M).natAbs ≤ _
    refine Nat.le_trans e ?_
    rw [← Nat.pow_add, hl]
    have : (2 : Nat) ^ (103 * (k + 1)) = 2 ^ 3 * 2 ^ (100 + 103 * k) := by rw [← Nat.pow_add]; congr 1; omega
    rw [this]
    exact Nat.mul_le_mul_right _ (by omega)
section
variable {P : Program} {w : World} {K : PySem.W.Frag} {mg : Str → Option Value} {base : Heap} {f g g2 g3 g4 : Addr} {fd : FuncData}
def spDet (K : PySem.W.Frag) (n : Nat) : Sp := fun vs H Q _ => ∃ (a : Addr) (us : List V) (M : List Vec), vs = [.ref a] ∧ H a = some (.lst us) ∧ LLs H us M ∧ M.length < n ∧ M.length ≤ 6 ∧ (∀ r ∈ M, r.length = M.length ∧ ∀ b ∈ r, b.natAbs ≤ 2 ^ 100) ∧
  ∀ H', Same H H' → Q (.int (D M.length M)) H'
theorem sc_determinant : FnScope ["rows", "found", "at", "row", "other"] ["rows"] (defScope st__law_determinant) := ⟨rfl, rfl, rfl, by decide +kernel, rfl, by decide +kernel, by decide +kernel⟩
theorem ok_det (F : Fun K "_law_determinant" "_law_determinant" st__law_determinant f fd) (T : Nm mg) (m : mg "_law_determinant" = some (.ref f)) (B : Binds K fd ["rows"] []) : ∀ n, FnOk P w K mg base CX0 n f fd ["rows"] (spDet K n)
  | 0 => ⟨fun vs H Q E h => by obtain ⟨_, _, _, _, _, _, h, _⟩ := h; exact absurd h (Nat.not_lt_zero _), fun A outer s H args us vs Q E hr e0 hb r h => by obtain ⟨_, _, _, _, _, _, h, _⟩ := h; exact absurd h (Nat.not_lt_zero _)⟩
  | n + 1 => by
    have D__law_determinant : Dn P w K mg base n "_law_determinant" f ["rows"] (spDet K n) := ⟨⟨fd, ok_det F T m B n, B⟩, m, F.kp⟩
    refine F.ok sc_determinant (fun vs H Q E h => ?_) (fun cdv A outer s H vs Q E hr h => ?_)
    · obtain ⟨a, us, M, rfl, _⟩ := h
      rfl
    · obtain ⟨a, us, M, rfl, ha, hL, hn, h6, hM, k⟩ := h
      refine ⟨_, (pss_cons (ps_if (pt_cmpR (op_eqNil K hr.units) (pv 0) (pe_lst pa_nil) (nomark _)) (pss_one (ps_ret pe_int)) pss_nil)
      (pss_cons (ps_set (i := 1) sc_determinant.nd rfl (Or.inl rfl) pe_int)
      (pss_cons (ps_for PassesOwn.never rfl (pi_enum (by rfl) T.n_enumerate (pa_cons (pv 0) pa_nil)) (pg_tup (by rfl) (pgs_cons (pg_name (i := 2) sc_determinant.nd rfl (Or.inl rfl)) (pgs_cons (pg_name (i := 3) sc_determinant.nd rfl (Or.inl rfl)) pgs_nil)))
        (pss_one (ps_if (pt_cmpR op_ne (pe_ix (ix_K K) (pv 3) pe_int (fun _ _ => rfl)) pe_int (nomark _)) (pss_one (ps_set (i := 1) sc_determinant.nd rfl (Or.inl rfl) (pe_op op_add (pv 1) (pe_op op_mulW (pe_op op_mulW (pe_op op_sub pe_int (pe_op op_mulW pe_int (pe_op op_mod (pe_callTy call_int1 (by rfl) T.n_int (by decide +kernel) (pa_cons (pv 2) pa_nil)) pe_int))) (pe_ix (ix_K K) (pv 3) pe_int (fun _ _ => rfl))) (pe_dn D__law_determinant (hr.mono (Nat.le_refl _)) rfl (pa_cons (pe_lc (own := [("other", 4)]) (g := gName 4) (tt := tYes) rfl sc_determinant.nd (pi_seqK K (pe_op op_cat (pe_slice sl_list (pv 0) po_none (po_some (pv 2))) (pe_slice sl_list (pv 0) (po_some (pe_op op_add (pv 2) pe_int)) po_none))) (blkOk_by (N := ["rows", "found", "at", "row", "other"]) (sc := defScope st__law_determinant) (by decide +kernel)) (fun _ _ _ _ _ => (pg_name (i := 4) sc_determinant.nd rfl (Or.inl rfl))) (fun _ _ _ _ _ => pts_nil) (fun _ _ _ _ _ => (pe_slice (sl_K K) (pv 4) (po_some pe_int) po_none))) pa_nil)))))) pss_nil)))
      (pss_one (ps_ret (pv 1)))))), ?_⟩
      refine ⟨_, rfl, (by show 0 ≤ sizeLine; decide), fun z hz => ⟨a, z, us, rfl, rfl, .of ((same_upd hz) _ _ ha), .of upd_same, _, rfl, ?_⟩⟩
      have s1 := same_upd (o := .lst []) hz
      generalize upd H z (.lst []) = H1 at s1 ⊢
      by_cases ce : us = []
      · have e0 : M = [] := List.eq_nil_of_length_eq_zero (by rw [← hL.1, ce]; rfl)
        subst e0
        rw [ce]
        exact iteT (k H1 s1)
      · have hne : us.isEmpty = false := by
          cases us with
          | nil => exact absurd rfl ce
          | cons _ _ => rfl
        have upos : 0 < us.length := List.length_pos_iff.mpr ce
        rw [hne]
        refine iteF ?_
        have ha1 := s1 _ _ ha
        have hus : us.length = M.length := hL.1
        refine ⟨_, rfl, a, _, rfl, .of ha1, for_it walk_enum (fun i σ H2 => ∃ (x2 x3 : Option V) (found : Int), σ = [some (.ref a), some (.int found), x2, x3, none] ∧ Same H1 H2 ∧ found + ex (fun l => K3.D (M.length - 1) (l.map List.tail)) (M.take i) (M.drop i) = K3.D M.length M)
          ⟨none, none, 0, rfl, Same.refl _, ?_⟩ (fun i σ H2 _ h => by obtain ⟨_, _, _, _, h, _⟩ := h; exact .of (h _ _ ha1)) ?_ ?_⟩
        · have hp : 0 < M.length := by omega
          obtain ⟨k', hk'⟩ : ∃ k', M.length = k' + 1 := ⟨M.length - 1, by omega⟩
          rw [hk', Int.zero_add]
          rfl
        · rintro i x σ H2 H3 hi ⟨x2, x3, found, rfl, s2, hf⟩ ⟨T1, a1, a2, rfl, hT1, rfl, e1, e2⟩
          cases e1
          have hiM : i < M.length := by omega
          obtain ⟨q, e3, e4, hq⟩ := hL.get hiM
          have e2' : us[i]? = some a2 := e2
          rw [e3] at e2'
          cases e2'
          have st := same_upd (o := .tup [.int (i : Nat), .ref q]) hT1
          refine ⟨T1, _, rfl, .of upd_same, rfl, _, _, rfl, _, _, rfl, rfl, ?_⟩
          have s03 := s1.trans (s2.trans st)
          have s13 := s2.trans st
          generalize upd H2 T1 (.tup [.int (i : Nat), .ref q]) = H3 at st s03 s13 ⊢
          obtain ⟨hrl, hrb⟩ := hM _ (List.getElem_mem hiM)
          have hdrop : M.drop i = M[i] :: M.drop (i + 1) := List.drop_eq_getElem_cons hiM
          have htake : M.take (i + 1) = M.take i ++ [M[i]] := (List.take_append_getElem hiM).symm
          have hlt : (M.take i).length = i := by rw [List.length_take]; omega
          have hstep : ex (fun l => K3.D (M.length - 1) (l.map List.tail)) (M.take i) (M.drop i) = sgn i * (M[i]).getD 0 0 * K3.D (M.length - 1) ((M.take i ++ M.drop (i + 1)).map List.tail) + ex (fun l => K3.D (M.length - 1) (l.map List.tail)) (M.take (i + 1)) (M.drop (i + 1)) := by
            rw [hdrop, htake]
            simp only [ex, hlt]
          rw [hstep] at hf
          refine ⟨_, rfl, false, q, _, 0, _, rfl, rfl, .of (s03 _ _ hq), atI_int (p := 0) (by rw [hrl]; omega), rfl, _, rfl, ?_⟩
          by_cases c : (M[i]).getD 0 0 = 0
          · have e : (!decide (V.int ((M[i]).getD 0 0) = V.int 0)) = false := by rw [c]; simp
            rw [e]
            refine iteF ?_
            rw [c, Int.mul_zero, Int.zero_mul, Int.zero_add] at hf
            exact ⟨_, _, found, rfl, s13, hf⟩
          · have e : (!decide (V.int ((M[i]).getD 0 0) = V.int 0)) = true := by rw [decide_eq_false (fun z => c (V.int.inj z))]; rfl
            rw [e]
            refine iteT ?_
            have sgb : (1 - 2 * ((i : Int) % 2)).natAbs < 2 ^ 5 := by
              have e : ((i : Nat) : Int) % 2 = 0 ∨ ((i : Nat) : Int) % 2 = 1 := by omega
              rcases e with e | e <;> rw [e] <;> decide
            have r0b : ((M[i]).getD 0 0).natAbs < 2 ^ 101 := Nat.lt_of_le_of_lt (getD_mem (P := fun b => b.natAbs ≤ 2 ^ 100) (by decide) hrb) (by decide)
            refine ⟨_, rfl, _, rfl, .inl ⟨(i : Nat), rfl, _, 2, rfl, rfl, (by show (0 : Int) < 2; decide), 2, _, rfl, rfl, ?_, 1, _, rfl, rfl, ?_⟩⟩
            · exact wide_mul (a := 5) (b := 5) (by decide) (by omega) (by decide) (by decide) (by decide)
            refine ⟨_, rfl, false, q, _, 0, _, rfl, rfl, .of (s03 _ _ hq), atI_int (p := 0) (by rw [hrl]; omega), _, _, rfl, rfl, wide_mul (a := 5) (b := 101) sgb r0b (by decide) (by decide) (by decide), ?_⟩
            -- the rows without this one, without their heads
            refine ⟨_, rfl, _, rfl, (i : Nat), rfl, a, us, rfl, .of (s03 _ _ ha), fun Z1 hZ1 => ?_⟩
            rw [cut_to]
            have t1 := same_upd (o := .lst (us.take i)) hZ1
            have y1 : upd H3 Z1 (.lst (us.take i)) Z1 = some (.lst (us.take i)) := upd_same
            generalize upd H3 Z1 (.lst (us.take i)) = H4 at t1 y1 ⊢
            refine ⟨_, rfl, _, rfl, _, 1, rfl, rfl, _, rfl, a, us, rfl, .of (t1 _ _ (s03 _ _ ha)), fun Z2 hZ2 => ?_⟩
            have ec : cutV us (some (((i : Nat) : Int) + 1)) none = us.drop (i + 1) := cut_from us (i + 1)
            rw [ec]
            have t2 := same_upd (o := .lst (us.drop (i + 1))) hZ2
            refine ⟨Z1, Z2, _, _, rfl, rfl, t2 _ _ y1, upd_same, Nat.le_trans (by rw [List.length_take, List.length_drop]; omega : (us.take i).length + (us.drop (i + 1)).length ≤ 20) (by decide), fun W hW => ?_⟩
            have t3 := same_upd (o := .lst (us.take i ++ us.drop (i + 1))) hW
            refine ⟨false, W, rfl, ⟨_, .of upd_same⟩, fun DD hDD => ?_⟩
            have y3 : upd (upd H4 Z2 (.lst (us.drop (i + 1)))) W (.lst (us.take i ++ us.drop (i + 1))) W = some (.lst (us.take i ++ us.drop (i + 1))) := upd_same
            have t13 := t1.trans (t2.trans t3)
            generalize upd (upd H4 Z2 (.lst (us.drop (i + 1)))) W (.lst (us.take i ++ us.drop (i + 1))) = H5 at t13 y3 hDD ⊢
            have s05 := s03.trans t13
            have hLN : LLs H5 (us.take i ++ us.drop (i + 1)) (M.take i ++ M.drop (i + 1)) := by
              refine LLs.append ⟨by rw [List.length_take, List.length_take, hus], fun j u x e1 e2 => ?_⟩ ⟨by rw [List.length_drop, List.length_drop, hus], fun j u x e1 e2 => ?_⟩
              · rw [List.getElem?_take] at e1 e2
                by_cases hj : j < i
                · rw [if_pos hj] at e1 e2
                  obtain ⟨p, e, h⟩ := hL.2 j u x e1 e2
                  exact ⟨p, e, s05 _ _ h⟩
                · rw [if_neg hj] at e1; cases e1
              · rw [List.getElem?_drop] at e1 e2
                obtain ⟨p, e, h⟩ := hL.2 _ u x e1 e2
                exact ⟨p, e, s05 _ _ h⟩
            have lN : (M.take i ++ M.drop (i + 1)).length = M.length - 1 := by rw [List.length_append, List.length_take, List.length_drop]; omega
            have mN : ∀ r ∈ M.take i ++ M.drop (i + 1), r ∈ M := fun r hr => by
              rcases List.mem_append.mp hr with z | z
              · exact List.mem_of_mem_take z
              · exact List.mem_of_mem_drop z
            have lU : (us.take i ++ us.drop (i + 1)).length = M.length - 1 := by rw [hLN.1, lN]
            refine lc_rel (R := fun j y H => ∃ (p : Addr) (x : Vec), y = .ref p ∧ (M.take i ++ M.drop (i + 1))[j]? = some x ∧ H p = some (.lst (x.tail.map V.int))) (walk_seq (b := false)) hDD (Nat.lt_of_le_of_lt (by omega : _ ≤ 10) (by decide)) (fun H s => .of (s _ _ y3))
              (fun j y H H' s ⟨p, x, e1, e2, t⟩ => ⟨p, x, e1, e2, s _ _ t⟩) ?_ ?_
            · rintro j y H6 H7 hj s6 ⟨acc, hacc⟩ ⟨rfl, hy⟩ Rk kk
              obtain ⟨p, e5, e6, hp⟩ := hLN.get (i := j) (by omega)
              rw [e5] at hy
              cases hy
              refine ⟨rfl, _, rfl, 1, rfl, false, p, _, rfl, .of (s6 _ _ hp), fun z => (by cases z), fun Y hY => ?_⟩
              refine kk _ _ (same_upd hY) ⟨Y, _, rfl, e6, ?_⟩
              rw [off_ne (fun e => by rw [e, hacc] at hY; cases hY), upd_same]
              show some (HO.lst (cutV _ (some 1) none)) = _
              rw [cut_drop, List.drop_one, List.map_tail]
            rintro H6 ⟨acc, lacc, hD6, s6, hr6⟩
            have s36 := t13.trans s6
            refine ⟨DD, acc, (M.take i ++ M.drop (i + 1)).map List.tail, rfl, hD6, ⟨by rw [lacc, lU, List.length_map, lN], fun j u x e5 e6 => ?_⟩, ?_, ?_, fun r hr => ?_, fun H7 s7 => ?_⟩
            · obtain ⟨p, x', e7, e8, t⟩ := hr6 j u e5
              rw [List.getElem?_map, e8] at e6
              cases e6
              exact ⟨p, e7, off_same _ _ _ _ t⟩
            · rw [List.length_map, lN]; omega
            · rw [List.length_map, lN]; omega
            · obtain ⟨x, hx, rfl⟩ := List.mem_map.mp hr
              obtain ⟨g1, g2⟩ := hM x (mN x hx)
              exact ⟨by rw [List.length_tail, g1, List.length_map, lN], fun b hb => g2 b (List.mem_of_mem_tail hb)⟩
            · rw [List.length_map, lN]
              have db : (K3.D (M.length - 1) ((M.take i ++ M.drop (i + 1)).map List.tail)).natAbs < 2 ^ 800 := by
                refine Nat.lt_of_le_of_lt (D_bound _ _ (by rw [List.length_map, lN]) (by omega) fun r hr b hb => ?_) (Nat.pow_lt_pow_right (by decide) (by omega))
                obtain ⟨x, hx, rfl⟩ := List.mem_map.mp hr
                exact (hM x (mN x hx)).2 b (List.mem_of_mem_tail hb)
              have ab : ((1 - 2 * ((i : Int) % 2)) * (M[i]).getD 0 0).natAbs < 2 ^ 106 := by
                rw [Int.natAbs_mul]
                exact Nat.lt_of_lt_of_le (Nat.mul_lt_mul'' sgb r0b) (by decide)
              refine ⟨_, _, rfl, rfl, wide_mul (a := 106) (b := 800) ab db (by decide) (by decide) (by decide), found, _, rfl, rfl, ?_⟩
              refine ⟨_, _, _, rfl, s13.trans (s36.trans s7), ?_⟩
              rw [← sgn_eq i, Int.add_assoc]
              exact hf
        · rintro σ H2 ⟨x2, x3, found, rfl, s2, hf⟩
          rw [hus, List.take_length, List.drop_length] at hf
          have e : found = K3.D M.length M := by rw [← hf]; simp [ex]
          refine ⟨_, rfl, ?_⟩
          rw [e]
          exact k H2 (s1.trans s2)
end
end K0


set_option Elab.async false
set_option linter.all false
set_option maxRecDepth 100000
set_option maxHeartbeats 8000000
set_option exponentiation.threshold 100000
namespace K0
open PySem PySem.Spec PyProof.Rows L2 RZ K0z K3

theorem abs_nat (n : Int) : (if n < 0 then -n else n) = (n.natAbs : Nat) := by split <;> omega
theorem gcd_small {a b B : Nat} (ha : a < B) (hb : b < B) : Nat.gcd a b < B := by
  by_cases h : a = 0
  · rw [h, Nat.gcd_zero_left]; exact hb
  · exact Nat.lt_of_le_of_lt (Nat.gcd_le_left b (by omega)) ha
/-- after i turns of Euclid's way -/
structure Euc (G i o t : Nat) : Prop where
  g : Nat.gcd o t = G
  ob : o < 2 ^ 800
  tb : t < 2 ^ 800
  m : 1 ≤ i → t = 0 ∨ (t ≤ o ∧ o * t * 2 ^ (i - 1) < 2 ^ 1600)
theorem Euc.next {G i o t : Nat} (h : Euc G i o t) (ht : t ≠ 0) : Euc G (i + 1) t (o % t) := by
  have hp : 0 < t := Nat.pos_of_ne_zero ht
  have hr := Nat.mod_lt o hp
  refine ⟨by rw [← h.g, Nat.gcd_comm o t, Nat.gcd_rec t o, Nat.gcd_comm], h.tb, Nat.lt_trans hr h.tb, fun _ => ?_⟩
  by_cases hz : o % t = 0
  · exact .inl hz
  refine .inr ⟨Nat.le_of_lt hr, ?_⟩
  show t * (o % t) * 2 ^ i < 2 ^ 1600
  cases i with
  | zero =>
    rw [Nat.pow_zero, Nat.mul_one]
    have e : (2 : Nat) ^ 1600 = 2 ^ 800 * 2 ^ 800 := by rw [← Nat.pow_add]
    rw [e]
    exact Nat.mul_lt_mul'' h.tb (Nat.lt_trans hr h.tb)
  | succ i =>
    rcases h.m (by omega) with z | ⟨z1, z2⟩
    · exact absurd z ht
    · have e1 : o % t * 2 ≤ o := by
        have := Nat.div_add_mod o t
        have q1 : 1 ≤ o / t := Nat.div_pos z1 hp
        have q2 : t ≤ t * (o / t) := by
          have := Nat.mul_le_mul_left t q1
          omega
        omega
      have e2 : t * (o % t) * 2 ^ (i + 1) ≤ o * t * 2 ^ i := by
        rw [Nat.pow_succ, Nat.mul_comm (2 ^ i) 2, ← Nat.mul_assoc]
        refine Nat.mul_le_mul_right _ ?_
        rw [Nat.mul_assoc, Nat.mul_comm o t]
        exact Nat.mul_le_mul_left t e1
      exact Nat.lt_of_le_of_lt e2 z2
theorem Euc.done {G o t : Nat} (h : Euc G 2000 o t) : t = 0 := by
  rcases h.m (by decide) with z | ⟨z1, z2⟩
  · exact z
  · by_cases ht : t = 0
    · exact ht
    · exfalso
      have h1 : 1 ≤ o * t := Nat.mul_pos (by omega) (by omega)
      have h2 : (2 : Nat) ^ 1600 ≤ 2 ^ 1999 := Nat.pow_le_pow_right (by decide) (by decide)
      have h3 : 2 ^ 1999 ≤ o * t * 2 ^ (2000 - 1) := by
        have := Nat.mul_le_mul_right (2 ^ 1999) h1
        rw [Nat.one_mul] at this
        exact this
      omega
section
variable {P : Program} {w : World} {K : PySem.W.Frag} {mg : Str → Option Value} {base : Heap} {f g g2 g3 g4 : Addr} {fd : FuncData}
def spDvs (K : PySem.W.Frag) : Sp := fun vs H Q _ => ∃ (a : Addr) (ns : List Int), vs = [.ref a] ∧ H a = some (.lst (ns.map V.int)) ∧ ns.length ≤ 10 ∧ (∀ n ∈ ns, n.natAbs < 2 ^ 800) ∧ ∀ H', Same H H' → Q (.int (gcdL ns : Nat)) H'
theorem sc_divisor : FnScope ["numbers", "found", "number", "one", "other", "turn"] ["numbers"] (defScope st__law_divisor) := ⟨rfl, rfl, rfl, by decide +kernel, rfl, by decide +kernel, by decide +kernel⟩
theorem ok_divisor (F : Fun K "_law_divisor" "_law_divisor" st__law_divisor f fd) (T : Nm mg) : FnOk P w K mg base CX0 1 f fd ["numbers"] (spDvs K) := by
  refine F.ok sc_divisor (fun vs H Q E h => ?_) (fun cdv A outer s H vs Q E hr h => ?_)
  · obtain ⟨a, ns, rfl, _⟩ := h
    rfl
  · obtain ⟨a, ns, rfl, ha, hl, hb, k⟩ := h
    refine ⟨_, (pss_cons (ps_set (i := 1) sc_divisor.nd rfl (Or.inl rfl) pe_int)
    (pss_cons (ps_for PassesOwn.never rfl (pi_seqK K (pv 0)) (pg_name (i := 2) sc_divisor.nd rfl (Or.inl rfl))
      (pss_cons (ps_par (i := 3) (j := 4) (by rfl) sc_divisor.nd rfl rfl (by decide) rfl rfl (pa_cons (pv 1) (pa_cons (pe_callB call_abs (by rfl) T.n_abs (by decide +kernel) (pa_cons (pv 2) pa_nil)) pa_nil)) (by rfl))
    (pss_cons (ps_for PassesOwn.never rfl (pi_range1 (by rfl) T.n_range (pa_cons pe_int pa_nil)) (pg_name (i := 5) sc_divisor.nd rfl (Or.inl rfl))
      (pss_cons (ps_if (pt_cmpR op_eq (pv 4) pe_int (nomark _)) (pss_one ps_break) pss_nil)
    (pss_one (ps_par (i := 3) (j := 4) (by rfl) sc_divisor.nd rfl rfl (by decide) rfl rfl (pa_cons (pv 4) (pa_cons (pe_op op_mod (pe_callTy call_int1 (by rfl) T.n_int (by decide +kernel) (pa_cons (pv 3) pa_nil)) (pv 4)) pa_nil)) (by rfl)))))
    (pss_one (ps_set (i := 1) sc_divisor.nd rfl (Or.inl rfl) (pv 3))))))
    (pss_one (ps_ret (pv 1))))), ?_⟩
    refine ⟨_, rfl, false, a, rfl, ⟨_, .of ha⟩, for_it (walk_seq (b := false)) (fun i σ H2 => ∃ (x2 x3 x4 x5 : Option V) (G : Nat), σ = [some (.ref a), some (.int (G : Nat)), x2, x3, x4, x5] ∧ Same H H2 ∧ G = (ns.take i).foldl gstep 0 ∧ G < 2 ^ 800)
        ⟨none, none, none, none, 0, rfl, Same.refl _, rfl, Nat.pow_pos (by decide)⟩ (fun i σ H2 _ ⟨_, _, _, _, _, _, s2, _⟩ => .of (s2 _ _ ha)) ?_ ?_⟩
    · rintro i x σ H2 H3 hi ⟨x2, x3, x4, x5, G, rfl, s2, hG, hG8⟩ ⟨rfl, hx⟩
      obtain ⟨n, hn, rfl⟩ := map_int_get hx
      have hnb := hb n (List.mem_of_getElem? hn)
      refine ⟨_, rfl, _, rfl, n, rfl, _, _, rfl, ?_⟩
      rw [abs_nat]
      refine ⟨2000, rfl, by decide, by decide, for_it walk_range (fun j σ H4 => ∃ (o t : Nat) (x5 : Option V), σ = [some (.ref a), some (.int (G : Nat)), some (.int n), some (.int (o : Nat)), some (.int (t : Nat)), x5] ∧ Same H H4 ∧ Euc (Nat.gcd G n.natAbs) j o t)
          ⟨G, n.natAbs, x5, rfl, s2, ⟨rfl, hG8, hnb, fun h => absurd h (by decide)⟩⟩ (fun _ _ _ _ _ => trivial) ?_ ?_⟩
      · rintro j y σ H4 H5 hj ⟨o, t, x5', rfl, s4, hE⟩ ⟨rfl, rfl⟩
        refine ⟨_, rfl, rfl, _, rfl, ?_⟩
        by_cases ht : t = 0
        · subst ht
          have e : decide (V.int ((0 : Nat) : Int) = V.int 0) = true := by decide
          rw [e]
          refine iteT ?_
          have eo : o = Nat.gcd G n.natAbs := by rw [← hE.g, Nat.gcd_zero_right]
          refine ⟨_, rfl, _, _, _, _, o, rfl, s4, ?_, by rw [eo]; exact gcd_small hG8 hnb⟩
          rw [take_get hn, List.foldl_append, ← hG, eo]
          rfl
        · have e : decide (V.int ((t : Nat) : Int) = V.int 0) = false := decide_eq_false fun z => ht (by have := V.int.inj z; omega)
          rw [e]
          refine iteF ⟨_, rfl, _, rfl, .inl ⟨(o : Nat), rfl, _, rfl, (o : Nat), (t : Nat), rfl, rfl, (by show (0 : Int) < (t : Nat); omega), _, _, rfl, ?_⟩⟩
          exact ⟨t, o % t, _, by rw [Int.natCast_emod]; rfl, s4, hE.next ht⟩
      · rintro σ H4 ⟨o, t, x5', rfl, s4, hE⟩
        have ht := hE.done
        subst ht
        have eo : o = Nat.gcd G n.natAbs := by rw [← hE.g, Nat.gcd_zero_right]
        refine ⟨_, rfl, _, _, _, _, o, rfl, s4, ?_, by rw [eo]; exact gcd_small hG8 hnb⟩
        rw [take_get hn, List.foldl_append, ← hG, eo]
        rfl
    · rintro σ H2 ⟨x2, x3, x4, x5, G, rfl, s2, hG, _⟩
      rw [List.length_map, List.take_length] at hG
      refine ⟨_, rfl, ?_⟩
      rw [hG]
      exact k H2 s2
end
end K0


set_option Elab.async false
set_option linter.all false
set_option maxRecDepth 100000
set_option maxHeartbeats 8000000
set_option exponentiation.threshold 100000
namespace K0
open PySem PySem.Spec PyProof.Rows L2 RZ K0z K3

theorem op_fdivZ {X : Cx} : OpR X (binaryOp .FloorDiv) (rI (fun _ j => j ≠ 0 ∧ j.natAbs.log2 < 9000) fun i j => .int (i.fdiv j)) := opI fun _ _ _ _ _ _ _ hc q => floordiv_int hc.1 q (.inl (PyProof.noPylong_of_log2 hc.2))
abbrev scP : Scope := { kind := ScopeKind.function, names := [((".0" : Str), NameKind.local), (("point" : Str), NameKind.local), (("zip" : Str), NameKind.globalImplicit), (("points" : Str), NameKind.cell)], isGenerator := false, isCoroutine := false }
abbrev scA : Scope := { kind := ScopeKind.function, names := [((".0" : Str), NameKind.local), (("at" : Str), NameKind.cell), (("int" : Str), NameKind.globalImplicit), (("_law_determinant" : Str), NameKind.globalImplicit), (("steps" : Str), NameKind.cell)], isGenerator := false, isCoroutine := false }
def stepsL (M : List Vec) : List Vec := (M.drop 1).map fun x => subV x (M.headD [])
theorem steps_len {M : List Vec} {n : Nat} (hne : M ≠ []) (h : ∀ r ∈ M, r.length = n) : (∀ d ∈ stepsL M, d.length = n) ∧ (stepsL M).length + 1 = M.length := by
  cases M with
  | nil => exact absurd rfl hne
  | cons p0 M =>
    refine ⟨fun d hd => ?_, by simp [stepsL]⟩
    obtain ⟨x, hx, rfl⟩ := List.mem_map.mp hd
    have hm : x ∈ p0 :: M := List.mem_of_mem_drop hx
    unfold subV
    rw [List.length_zipWith, h x hm]
    show min n p0.length = n
    rw [h p0 List.mem_cons_self, Nat.min_self]
theorem steps_bound {M : List Vec} (h : ∀ r ∈ M, ∀ b ∈ r, b.natAbs < 2 ^ 99) : ∀ d ∈ stepsL M, ∀ b ∈ d, b.natAbs ≤ 2 ^ 100 := fun d hd b hb => by
  obtain ⟨x, hx, rfl⟩ := List.mem_map.mp hd
  have hm := List.mem_of_mem_drop hx
  have h0 : M.headD [] ∈ M := by
    cases M with
    | nil => cases hm
    | cons p0 M => exact List.mem_cons_self
  unfold subV at hb
  obtain ⟨i, hi⟩ := List.mem_iff_getElem?.mp hb
  rw [List.getElem?_zipWith] at hi
  cases e1 : x[i]? with
  | none => rw [e1] at hi; cases hi
  | some u =>
    cases e2 : (M.headD [])[i]? with
    | none => rw [e1, e2] at hi; cases hi
    | some u2 =>
      rw [e1, e2] at hi
      have b1 := h x hm u (List.mem_of_getElem? e1)
      have b2 := h _ h0 u2 (List.mem_of_getElem? e2)
      have e3 : u - u2 = b := Option.some.inj hi
      rw [← e3]
      have : (2 : Nat) ^ 100 = 2 ^ 99 + 2 ^ 99 := by decide
      omega
theorem add_sub : ∀ (a b : Vec), a.length = b.length → addV b (subV a b) = a
  | [], [], _ => rfl
  | [], _ :: _, h => by cases h
  | _ :: _, [], h => by cases h
  | x :: a, y :: b, h => by
    have e := add_sub a b (by simpa using h)
    unfold addV subV at e ⊢
    simp only [List.zipWith_cons_cons, e]
    congr 1
    omega
theorem frame_of {M : List Vec} {n : Nat} (hne : M ≠ []) (h : ∀ r ∈ M, r.length = n) : Frame n M (stepsL M) (M.headD []) := by
  cases M with
  | nil => exact absurd rfl hne
  | cons p0 M =>
    have h0 := h p0 List.mem_cons_self
    refine ⟨h, (steps_len hne h).1, List.mem_cons_self, fun p hm => ?_, fun d hd => ?_⟩
    · rcases List.mem_cons.mp hm with z | z
      · exact .inl z
      · exact .inr ⟨subV p p0, List.mem_map.mpr ⟨p, z, rfl⟩, (add_sub p p0 (by rw [h p hm, h0])).symm⟩
    · obtain ⟨x, hx, rfl⟩ := List.mem_map.mp hd
      have hm : x ∈ p0 :: M := List.mem_of_mem_drop hx
      show addV p0 (subV x p0) ∈ _
      rw [add_sub x p0 (by rw [h x hm, h0])]
      exact hm
theorem cof_bound {S : List Vec} {n : Nat} (hS : S.length + 1 = n) (hn : n ≤ 8) (h : ∀ r ∈ S, ∀ b ∈ r, b.natAbs ≤ 2 ^ 100) : ∀ b ∈ cof S n, b.natAbs < 2 ^ 730 := fun b hb => by
  obtain ⟨i, _, rfl⟩ := List.mem_map.mp hb
  have e : (sgn i).natAbs = 1 := by
    have e : ((i : Nat) : Int) % 2 = 0 ∨ ((i : Nat) : Int) % 2 = 1 := by omega
    rcases e with e | e <;> rw [sgn_eq, e] <;> decide
  rw [Int.natAbs_mul, e, Nat.one_mul]
  refine Nat.lt_of_le_of_lt (D_bound (n - 1) _ (by rw [List.length_map]; omega) (by omega) fun r hr b hb => ?_) (Nat.pow_lt_pow_right (by decide) (by omega))
  obtain ⟨x, hx, rfl⟩ := List.mem_map.mp hr
  exact h x hx b (List.mem_of_mem_eraseIdx hb)
theorem dot_sum : ∀ (x y : Vec), (List.zipWith (fun a b => a * b) x y).sum = dot x y
  | [], y => by simp [dot_nil_l]
  | _ :: _, [] => by simp [dot_nil_r]
  | a :: x, b :: y => by simp [dot, dot_sum x y]
theorem by_ne {c : Vec} (h : ¬ Zr c) : byL c ≠ 0 := by
  have := gcdL_pos h
  unfold byL
  split <;> omega
theorem by_dvd {c : Vec} {b : Int} (h : b ∈ c) : byL c ∣ b := by
  have := gcdL_dvd h
  unfold byL
  split
  · show (gcdL c : Int) * (1 - 2 * 1) ∣ b
    have e : (gcdL c : Int) * (1 - 2 * 1) = - (gcdL c : Int) := by omega
    rw [e]
    exact Int.neg_dvd.mpr this
  · show (gcdL c : Int) * (1 - 2 * 0) ∣ b
    have e : (gcdL c : Int) * (1 - 2 * 0) = (gcdL c : Int) := by omega
    rw [e]
    exact this
section
variable {P : Program} {w : World} {K : PySem.W.Frag} {mg : Str → Option Value} {base : Heap} {f g g2 g3 g4 : Addr} {fd : FuncData}
def spLPlane (K : PySem.W.Frag) : Sp := fun vs H Q _ => ∃ (a : Addr) (us : List V) (M : List Vec), vs = [.ref a] ∧ H a = some (.lst us) ∧ LLs H us M ∧ 2 ≤ M.length ∧ M.length ≤ 6 ∧ (∀ r ∈ M, r.length = M.length ∧ ∀ b ∈ r, b.natAbs < 2 ^ 99) ∧
  (Zr (cof (stepsL M) M.length) → ∀ H', Same H H' → Q .non H') ∧
  (¬ Zr (cof (stepsL M) M.length) → ∀ (p q : Addr) (H' : Hp), Same H H' → H' p = some (.tup [.ref q, .int (dueOf (cof (stepsL M) M.length) (M.headD [])).2]) → H' q = some (.tup ((dueOf (cof (stepsL M) M.length) (M.headD [])).1.map V.int)) → Q (.ref p) H')
theorem sc_plane : FnScope ["points", "steps", "number", "its", "point", "row", "step", "at", "filled", "by", "mine"] ["points"] (defScope st__law_plane) := ⟨rfl, rfl, rfl, by decide +kernel, rfl, by decide +kernel, by decide +kernel⟩
theorem ok_plane (F : Fun K "_law_plane" "_law_plane" st__law_plane f fd) (T : Nm mg) (D__law_determinant : Dn P w K mg base 8 "_law_determinant" g ["rows"] (spDet K 8)) (D__law_divisor : Dn P w K mg base 1 "_law_divisor" g2 ["numbers"] (spDvs K)) : FnOk P w K mg base CX0 9 f fd ["points"] (spLPlane K) := by
  refine F.ok sc_plane (fun vs H Q E h => ?_) (fun cdv A outer s H vs Q E hr h => ?_)
  · obtain ⟨a, us, M, rfl, _⟩ := h
    rfl
  · obtain ⟨a, us, M, rfl, ha, hL, m2, m6, hM, k1, k2⟩ := h
    refine ⟨_, (pss_cons (ps_set (i := 1) sc_plane.nd rfl (Or.inr rfl) (pe_lc (own := [("point", 4)]) (g := gName 4) (tt := tYes) rfl sc_plane.nd (pi_seqK K (pe_slice sl_list (pv 0) (po_some pe_int) po_none)) (blkOk_by (N := ["points", "steps", "number", "its", "point", "row", "step", "at", "filled", "by", "mine"]) (sc := defScope st__law_plane) (by decide +kernel)) (fun _ _ _ _ _ => (pg_name (i := 4) sc_plane.nd rfl (Or.inl rfl))) (fun _ _ _ _ _ => pts_nil) (fun _ _ _ _ _ => (pe_lc (own := [("number", 2), ("its", 3)]) (g := gTup K 2 (gCons (gName 2) (gCons (gName 3) gNil))) (tt := tYes) rfl sc_plane.nd (pi_zipMK K (by rfl) T.n_zip (pa_cons (pv 4) (pa_cons (pe_ix (ix_K K) (pv 0) pe_int (fun _ _ => rfl)) pa_nil))) (blkOk_by (N := ["points", "steps", "number", "its", "point", "row", "step", "at", "filled", "by", "mine"]) (sc := scP) (by decide +kernel)) (fun _ _ _ _ _ => (pg_tup (by rfl) (pgs_cons (pg_name (i := 2) sc_plane.nd rfl (Or.inl rfl)) (pgs_cons (pg_name (i := 3) sc_plane.nd rfl (Or.inl rfl)) pgs_nil)))) (fun _ _ _ _ _ => pts_nil) (fun _ _ _ _ _ => (pe_op op_sub (pv 2) (pv 3)))))))
    (pss_cons (ps_setLc (i := 5) (own := [("at", 7)]) (g := gName 7) (tt := tYes) rfl sc_plane.nd rfl rfl (sw_true rfl rfl rfl (by decide +kernel)) (pi_range1 (by rfl) T.n_range (pa_cons (pe_callB (call_lenK K) (by rfl) T.n_len (by decide +kernel) (pa_cons (pv 0) pa_nil)) pa_nil)) (blkOk_by (N := ["points", "steps", "number", "its", "point", "row", "step", "at", "filled", "by", "mine"]) (sc := defScope st__law_plane) (by decide +kernel)) (fun _ _ _ _ _ => (pg_name (i := 7) sc_plane.nd rfl (Or.inr rfl))) (fun _ _ _ _ _ => pts_nil) (fun _ _ _ _ _ => (pe_op op_mulW (pe_op op_sub pe_int (pe_op op_mulW pe_int (pe_op op_mod (pe_callTy call_int1 (by rfl) T.n_int (by decide +kernel) (pa_cons (pv 7) pa_nil)) pe_int))) (pe_dn D__law_determinant (hr.mono (by decide)) rfl (pa_cons (pe_lc (own := [("step", 6)]) (g := gName 6) (tt := tYes) rfl sc_plane.nd (pi_seqK K (pv 1)) (blkOk_by (N := ["points", "steps", "number", "its", "point", "row", "step", "at", "filled", "by", "mine"]) (sc := scA) (by decide +kernel)) (fun _ _ _ _ _ => (pg_name (i := 6) sc_plane.nd rfl (Or.inl rfl))) (fun _ _ _ _ _ => pts_nil) (fun _ _ _ _ _ => (pe_op op_cat (pe_slice (sl_K K) (pv 6) po_none (po_some (pv 7))) (pe_slice (sl_K K) (pv 6) (po_some (pe_op op_add (pv 7) pe_int)) po_none)))) pa_nil)))))
    (pss_cons (ps_setLc (i := 8) (own := [("number", 2)]) (g := gName 2) rfl sc_plane.nd rfl rfl (sw_true rfl rfl rfl (by decide +kernel)) (pi_seqK K (pv 5)) (blkOk_by (N := ["points", "steps", "number", "its", "point", "row", "step", "at", "filled", "by", "mine"]) (sc := defScope st__law_plane) (by decide +kernel)) (fun _ _ _ _ _ => (pg_name (i := 2) sc_plane.nd rfl (Or.inl rfl))) (fun _ _ _ _ _ => (pts_one (pt_cmpR op_ne (pv 2) pe_int (nomark _)))) (fun _ _ _ _ _ => (pv 2)))
    (pss_cons (ps_if (pt_cmpR (op_eqNil K hr.units) (pv 8) (pe_lst pa_nil) (nomark _)) (pss_one (ps_ret pe_non)) pss_nil)
    (pss_cons (ps_set (i := 9) sc_plane.nd rfl (Or.inr rfl) (pe_op op_mulW (pe_dn D__law_divisor (hr.mono (by decide)) rfl (pa_cons (pv 5) pa_nil)) (pe_op op_sub pe_int (pe_op op_mulW pe_int (pe_callTy call_int1 (by rfl) T.n_int (by decide +kernel) (pa_cons (pe_cmpR op_lt (pe_ix (ix_K K) (pv 8) pe_int (fun _ _ => rfl)) pe_int (nomark _)) pa_nil))))))
    (pss_cons (ps_setLc (i := 5) (own := [("number", 2)]) (g := gName 2) (tt := tYes) rfl sc_plane.nd rfl rfl (sw_true rfl rfl rfl (by decide +kernel)) (pi_seqK K (pv 5)) (blkOk_by (N := ["points", "steps", "number", "its", "point", "row", "step", "at", "filled", "by", "mine"]) (sc := defScope st__law_plane) (by decide +kernel)) (fun _ _ _ _ _ => (pg_name (i := 2) sc_plane.nd rfl (Or.inl rfl))) (fun _ _ _ _ _ => pts_nil) (fun _ _ _ _ _ => (pe_op op_fdivZ (pv 2) (pv 9))))
    (pss_one (ps_ret (pe_tup (pa_cons (pe_callTy (call_tupK K) (by rfl) T.n_tuple (by decide +kernel) (pa_cons (pv 5) pa_nil)) (pa_cons (pe_callB (cr_sum rfl) (by rfl) T.n_sum (by decide +kernel) (pa_cons (pe_lc (own := [("mine", 10), ("its", 3)]) (g := gTup K 2 (gCons (gName 10) (gCons (gName 3) gNil))) (tt := tYes) rfl sc_plane.nd (pi_zipMK K (by rfl) T.n_zip (pa_cons (pv 5) (pa_cons (pe_ix (ix_K K) (pv 0) pe_int (fun _ _ => rfl)) pa_nil))) (blkOk_by (N := ["points", "steps", "number", "its", "point", "row", "step", "at", "filled", "by", "mine"]) (sc := defScope st__law_plane) (by decide +kernel)) (fun _ _ _ _ _ => (pg_tup (by rfl) (pgs_cons (pg_name (i := 10) sc_plane.nd rfl (Or.inl rfl)) (pgs_cons (pg_name (i := 3) sc_plane.nd rfl (Or.inl rfl)) pgs_nil)))) (fun _ _ _ _ _ => pts_nil) (fun _ _ _ _ _ => (pe_op op_mulW (pv 10) (pv 3)))) pa_nil)) pa_nil))))))))))), ?_⟩
    have hus : us.length = M.length := hL.1
    have hMne : M ≠ [] := List.length_pos_iff.mp (by omega)
    obtain ⟨q0, e0, _, hq0⟩ := hL.get (i := 0) (by omega)
    have hh : M.headD [] = M[0]'(by omega) := by
      cases M with
      | nil => exact absurd rfl hMne
      | cons _ _ => rfl
    have hsl := steps_len hMne fun r hr => (hM r hr).1
    have hsb := steps_bound fun r hr => (hM r hr).2
    -- steps
    refine ⟨_, rfl, 1, rfl, a, us, rfl, .of ha, fun Z hZ => ⟨false, Z, rfl, ⟨_, .of upd_same⟩, fun DD hD => ?_⟩⟩
    rw [cut_drop] at hD ⊢
    have sZ := same_upd (o := .lst (us.drop 1)) hZ
    have hZ1 : upd H Z (.lst (us.drop 1)) Z = some (.lst (us.drop 1)) := upd_same
    generalize upd H Z (.lst (us.drop 1)) = H1 at sZ hZ1 hD ⊢
    refine lc_rel (R := fun i y H => ∃ (q : Addr) (x : Vec), y = .ref q ∧ (stepsL M)[i]? = some x ∧ H q = some (.lst (x.map V.int))) (walk_seq (b := false) (xs := us.drop 1)) hD (Nat.lt_of_le_of_lt (by rw [List.length_drop]; omega : (us.drop 1).length ≤ 16) (by decide)) (fun H2 s2 => .of (s2 _ _ hZ1))
      (fun i y H H' s ⟨q, x, e1, e2, t⟩ => ⟨q, x, e1, e2, s _ _ t⟩) ?_ ?_
    · rintro i x H2 H3 hi s2 ⟨acc, hacc⟩ ⟨rfl, hx⟩ Rk kk
      rw [List.length_drop] at hi
      have hi2 : i + 1 < M.length := by omega
      rw [List.getElem?_drop, Nat.add_comm] at hx
      obtain ⟨q1, e1, e2, hq1⟩ := hL.get hi2
      rw [e1] at hx
      cases hx
      have s12 := sZ.trans s2
      refine ⟨rfl, _, rfl, _, rfl, false, a, us, 0, _, rfl, rfl, .of (s12 _ _ ha), atI_nat (j := 0) e0, false, false, q1, q0, _, _, rfl, .of (s12 _ _ hq1), .of (s12 _ _ hq0), fun D2 hD2 => lc_fun (fun t => V.int ((M[i + 1]).getD t 0 - (M[0]'(by omega)).getD t 0)) (walk_zipM rfl) hD2 ?_ (fun H4 s4 => ⟨.of (s4 _ _ (s12 _ _ hq1)), .of (s4 _ _ (s12 _ _ hq0))⟩) ?_ ?_⟩
      · rw [List.length_map, List.length_map]
        have := (hM _ (List.getElem_mem hi2)).1
        exact Nat.lt_of_le_of_lt (Nat.le_trans (Nat.min_le_left _ _) (Nat.le_trans (Nat.le_of_eq this) m6)) (by decide)
      · rintro t v H4 H5 ht s4 _ ⟨T', x', y', rfl, hT, rfl, e3, e4⟩ Rk2 kk3
        obtain ⟨n1, hn1, rfl⟩ := map_int_get e3
        obtain ⟨n2, hn2, rfl⟩ := map_int_get e4
        refine ⟨T', _, rfl, .of upd_same, rfl, _, _, rfl, _, _, rfl, rfl, rfl, _, rfl, _, rfl, n1, n2, rfl, rfl, ?_⟩
        have e := kk3 _ (same_upd (o := .tup [.int n1, .int n2]) hT)
        rw [List.getD_eq_getElem?_getD (l := M[i + 1]) (i := t), List.getD_eq_getElem?_getD (l := M[0]'(by omega)) (i := t), hn1, hn2] at e
        exact e
      · intro H4 hD4 s4
        rw [List.length_map, List.length_map, sub_list] at hD4
        refine kk _ _ s4 ⟨D2, subV M[i + 1] (M[0]'(by omega)), rfl, ?_, ?_⟩
        · unfold stepsL
          rw [List.getElem?_map, List.getElem?_drop, Nat.add_comm, e2, hh]
          rfl
        · rw [off_ne (fun e => by rw [e, hacc] at hD2; cases hD2)]
          exact hD4
    rintro H2 ⟨ss, lss, hD2, s2, hr2⟩
    have hLS : LLs H2 ss (stepsL M) := ⟨by rw [lss, List.length_drop]; omega, fun i u x y1 y2 => by
      obtain ⟨q, x', e1, e2, t⟩ := hr2 i u y1
      rw [y2] at e2
      cases e2
      exact ⟨q, e1, off_same _ _ _ _ t⟩⟩
    have s02 := sZ.trans s2
    have hss : ss.length = (stepsL M).length := hLS.1
    clear hr2 hZ1 hD
    -- the row
    refine ⟨_, rfl, false, a, us, rfl, .of (s02 _ _ ha), _, rfl, by omega, by omega, fun RD hRD => ?_⟩
    rw [Int.toNat_natCast]
    have cb := cof_bound hsl.2 (by omega) hsb
    refine lc_fun (fun i => V.int (sgn i * K3.D (M.length - 1) ((stepsL M).map (·.eraseIdx i)))) (walk_range (lo := 0) (n := us.length)) hRD (Nat.lt_of_le_of_lt (by omega : us.length ≤ 6) (by decide)) (fun _ _ => trivial) ?_ ?_
    · rintro i x H3 H4 hi s3 ⟨racc, hracc⟩ ⟨rfl, rfl⟩ Rk kk
      have hiM : i < M.length := by omega
      have hDs := s3 _ _ hD2
      refine ⟨rfl, _, rfl, .inl ⟨(0 + (i : Int)), rfl, _, 2, rfl, rfl, (by show (0 : Int) < 2; decide), 2, _, rfl, rfl, ?_, 1, _, rfl, rfl, ?_⟩⟩
      · exact wide_mul (a := 5) (b := 5) (by decide) (by omega) (by decide) (by decide) (by decide)
      refine ⟨_, rfl, false, DD, rfl, ⟨_, .of hDs⟩, fun E hE => lc_rel (R := fun j y H => ∃ (q : Addr) (x : Vec), y = .ref q ∧ (stepsL M)[j]? = some x ∧ H q = some (.lst ((x.eraseIdx i).map V.int))) (walk_seq (b := false) (xs := ss)) hE (Nat.lt_of_le_of_lt (by omega : ss.length ≤ 6) (by decide)) (fun H s => .of (s _ _ hDs))
        (fun j y H H' s ⟨q, x, e1, e2, t⟩ => ⟨q, x, e1, e2, s _ _ t⟩) ?_ ?_⟩
      · rintro j y H5 H6 hj s5 ⟨acc2, hacc2⟩ ⟨rfl, hy⟩ Rk2 kk2
        obtain ⟨q, e5, e6, hq⟩ := hLS.get (i := j) (by omega)
        rw [e5] at hy
        cases hy
        have hqv := s5 _ _ (s3 _ _ hq)
        have lj := hsl.1 _ (List.getElem_mem (by omega : j < (stepsL M).length))
        refine ⟨rfl, _, rfl, _, rfl, _, rfl, false, q, _, rfl, .of hqv, fun z => (by cases z), fun Y1 hY1 => ?_⟩
        have e7 : cutV (((stepsL M)[j]'(by omega)).map V.int) none (some (0 + (i : Int))) = (((stepsL M)[j]'(by omega)).map V.int).take i := by rw [Int.zero_add]; exact cut_to _ i
        rw [e7]
        have t1 := same_upd (o := if false = true then HO.tup ((((stepsL M)[j]'(by omega)).map V.int).take i) else HO.lst ((((stepsL M)[j]'(by omega)).map V.int).take i)) hY1
        have y1 : upd H6 Y1 (if false = true then HO.tup ((((stepsL M)[j]'(by omega)).map V.int).take i) else HO.lst ((((stepsL M)[j]'(by omega)).map V.int).take i)) Y1 = some (.lst ((((stepsL M)[j]'(by omega)).map V.int).take i)) := upd_same
        generalize upd H6 Y1 (if false = true then HO.tup ((((stepsL M)[j]'(by omega)).map V.int).take i) else HO.lst ((((stepsL M)[j]'(by omega)).map V.int).take i)) = H7 at t1 y1 ⊢
        refine ⟨_, rfl, _, rfl, _, 1, rfl, rfl, _, rfl, false, q, _, rfl, .of (t1 _ _ hqv), fun z => (by cases z), fun Y2 hY2 => ?_⟩
        have e8 : cutV (((stepsL M)[j]'(by omega)).map V.int) (some (0 + (i : Int) + 1)) none = (((stepsL M)[j]'(by omega)).map V.int).drop (i + 1) := by rw [Int.zero_add]; exact cut_from _ (i + 1)
        rw [e8]
        have t2 := same_upd (o := if false = true then HO.tup ((((stepsL M)[j]'(by omega)).map V.int).drop (i + 1)) else HO.lst ((((stepsL M)[j]'(by omega)).map V.int).drop (i + 1))) hY2
        refine ⟨Y1, Y2, _, _, rfl, rfl, t2 _ _ y1, upd_same, Nat.le_trans (m := 20) (by simp only [List.length_take, List.length_drop, List.length_map]; omega) (by decide), fun W hW => ?_⟩
        refine kk2 _ _ (t1.trans (t2.trans (same_upd hW))) ⟨W, _, rfl, e6, ?_⟩
        rw [off_ne (fun e => by
          have z := t2 _ _ (t1 _ _ hacc2)
          rw [e] at hW
          rw [hW] at z
          cases z), upd_same, List.eraseIdx_eq_take_drop_succ, List.map_append, List.map_take, List.map_drop]
      · rintro H5 ⟨es, les, hE5, s5, hr5⟩
        have s35 := s3.trans s5
        refine ⟨E, es, (stepsL M).map (·.eraseIdx i), rfl, hE5, ⟨by rw [les, List.length_map]; omega, fun j u x e5 e6 => ?_⟩, by rw [List.length_map]; omega, by rw [List.length_map]; omega, fun r hr => ?_, fun H6 s6 => ?_⟩
        · obtain ⟨q, x', e7, e8, t⟩ := hr5 j u e5
          rw [List.getElem?_map, e8] at e6
          cases e6
          exact ⟨q, e7, off_same _ _ _ _ t⟩
        · obtain ⟨x, hx, rfl⟩ := List.mem_map.mp hr
          refine ⟨?_, fun b hb => hsb x hx b (List.mem_of_mem_eraseIdx hb)⟩
          rw [List.length_eraseIdx, hsl.1 x hx, if_pos hiM, List.length_map]
          omega
        · have eN : ((stepsL M).map (·.eraseIdx i)).length = M.length - 1 := by rw [List.length_map]; omega
          rw [eN]
          have sgb : (1 - 2 * ((0 + (i : Int)) % 2)).natAbs < 2 ^ 5 := by
            have e : (0 + ((i : Nat) : Int)) % 2 = 0 ∨ (0 + ((i : Nat) : Int)) % 2 = 1 := by omega
            rcases e with e | e <;> rw [e] <;> decide
          have db : (K3.D (M.length - 1) ((stepsL M).map (·.eraseIdx i))).natAbs < 2 ^ 800 := by
            refine Nat.lt_of_le_of_lt (D_bound _ _ eN (by omega) fun r hr b hb => ?_) (Nat.pow_lt_pow_right (by decide) (by omega))
            obtain ⟨x, hx, rfl⟩ := List.mem_map.mp hr
            exact hsb x hx b (List.mem_of_mem_eraseIdx hb)
          refine ⟨_, _, rfl, rfl, wide_mul (a := 5) (b := 800) sgb db (by decide) (by decide) (by decide), ?_⟩
          have q := kk _ (s5.trans s6)
          rw [sgn_eq i] at q
          rw [Int.zero_add]
          exact q
    intro H3 hR3 s3
    have eR : (List.range us.length).map (fun i => V.int (sgn i * K3.D (M.length - 1) ((stepsL M).map (·.eraseIdx i)))) = (cof (stepsL M) M.length).map V.int := by
      unfold cof
      rw [List.map_map, hus]
      rfl
    rw [eR] at hR3
    have s03 := s02.trans s3
    have hcl := cof_len (stepsL M) M.length
    generalize hcv : cof (stepsL M) M.length = c at k1 k2 cb hR3 hcl
    clear eR hcv
    -- what isn't nought
    refine ⟨_, rfl, false, RD, rfl, ⟨_, .of hR3⟩, fun FD hFD => lc_funF (fun i => c.getD i 0 != 0) (fun i => V.int (c.getD i 0)) (walk_seq (b := false)) hFD (by rw [List.length_map]; exact Nat.lt_of_le_of_lt (by omega : c.length ≤ 6) (by decide)) (fun H s => .of (s _ _ hR3)) ?_ ?_⟩
    · rintro i x H4 H5 hi s4 _ ⟨rfl, hx⟩ Rt Rk g1 g2
      obtain ⟨n, hn, rfl⟩ := map_int_get hx
      have eg : c.getD i 0 = n := by rw [List.getD_eq_getElem?_getD, hn]; rfl
      refine ⟨rfl, _, rfl, rfl, _, rfl, ?_⟩
      by_cases hc : n = 0
      · have e : (!decide (V.int n = V.int 0)) = false := by rw [hc]; simp
        rw [e]
        exact iteF (g1 (by rw [eg, hc]; rfl) _ (Same.refl _))
      · have e : (!decide (V.int n = V.int 0)) = true := by rw [decide_eq_false (fun z => hc (V.int.inj z))]; rfl
        rw [e]
        refine iteT ⟨_, rfl, ?_⟩
        have q := g2 (by rw [eg]; simpa using hc) _ (Same.refl _)
        rw [eg] at q
        exact q
    intro H4 hF4 s4
    rw [List.length_map, filt_map c 0 (fun x => x != 0) V.int] at hF4
    have s04 := s03.trans s4
    have hR4 := s4 _ _ hR3
    refine ⟨_, rfl, (by show 0 ≤ sizeLine; decide), fun z hz => ⟨FD, z, _, rfl, rfl, .of ((same_upd hz) _ _ hF4), .of upd_same, _, rfl, ?_⟩⟩
    have sz := same_upd (o := .lst []) hz
    generalize upd H4 z (.lst []) = H5 at sz ⊢
    have s05 := s04.trans sz
    have hR5 := sz _ _ hR4
    have hF5 := sz _ _ hF4
    by_cases hzr : Zr c
    · have ef : c.filter (fun x => x != 0) = [] := by
        refine List.filter_eq_nil_iff.mpr fun x hx => ?_
        obtain ⟨i, hi⟩ := List.mem_iff_getElem?.mp hx
        have := hzr i
        rw [List.getD_eq_getElem?_getD, hi] at this
        have e : x = 0 := this
        rw [e]; decide
      rw [ef]
      exact iteT (k1 hzr H5 s05)
    · have fne := first_ne hzr
      have efn : c.filter (fun x => x != 0) ≠ [] := fun e => fne (by unfold firstL; rw [e]; rfl)
      have e1 : ((c.filter (fun x => x != 0)).map V.int).isEmpty = false := by
        cases e : c.filter (fun x => x != 0) with
        | nil => exact absurd e efn
        | cons _ _ => rfl
      have e2 : ((c.filter (fun x => x != 0)).map V.int)[0]? = some (.int (firstL c)) := by
        unfold firstL
        cases e : c.filter (fun x => x != 0) with
        | nil => exact absurd e efn
        | cons _ _ => rfl
      rw [e1]
      refine iteF ?_
      have gb : (gcdL c) < 2 ^ 730 := by
        obtain ⟨i, hi, hne⟩ := nz_at hzr
        have hm : c.getD i 0 ∈ c := by rw [List.getD_eq_getElem?_getD, List.getElem?_eq_getElem hi]; exact List.getElem_mem hi
        have hd := Int.natAbs_dvd_natAbs.mpr (gcdL_dvd hm)
        rw [Int.natAbs_natCast] at hd
        exact Nat.lt_of_le_of_lt (Nat.le_of_dvd (by omega) hd) (cb _ hm)
      refine ⟨_, rfl, RD, c, rfl, hR5, by omega, fun n hn => Nat.lt_trans (cb n hn) (Nat.pow_lt_pow_right (by decide) (by decide)), fun H6 s6 => ?_⟩
      refine ⟨_, rfl, false, FD, _, 0, _, rfl, rfl, .of (s6 _ _ hF5), atI_nat (j := 0) e2, _, _, rfl, rfl, .inr ⟨_, rfl, 2, _, rfl, rfl, ?_, 1, _, rfl, rfl, _, _, rfl, rfl, ?_, ?_⟩⟩
      · exact wide_mul (a := 5) (b := 5) (by decide) (by split <;> decide) (by decide) (by decide) (by decide)
      · exact wide_mul (a := 730) (b := 5) (by rw [Int.natAbs_natCast]; exact gb) (by split <;> decide) (by decide) (by decide) (by decide)
      have eby : ((gcdL c : Nat) : Int) * (1 - 2 * (if decide (firstL c < 0) = true then 1 else 0)) = byL c := by
        unfold byL
        by_cases h : firstL c < 0
        · rw [decide_eq_true h, if_pos rfl, if_pos h]
        · rw [decide_eq_false h, if_neg (by decide), if_neg h]
      dsimp only
      rw [eby]
      have bne := by_ne hzr
      have bb : (byL c).natAbs < 2 ^ 731 := by
        unfold byL
        have : (2 : Nat) ^ 731 = 2 * 2 ^ 730 := by rw [← Nat.pow_succ']
        split <;> omega
      have s06 := s05.trans s6
      have hR6 := s6 _ _ hR5
      -- divided
      refine ⟨_, rfl, false, RD, rfl, ⟨_, .of hR6⟩, fun GD hGD => lc_fun (fun i => V.int (c.getD i 0 / byL c)) (walk_seq (b := false)) hGD (by rw [List.length_map]; exact Nat.lt_of_le_of_lt (by omega : c.length ≤ 6) (by decide)) (fun H s => .of (s _ _ hR6)) ?_ ?_⟩
      · rintro i x H7 H8 hi s7 _ ⟨rfl, hx⟩ Rk kk
        obtain ⟨n, hn, rfl⟩ := map_int_get hx
        have eg : c.getD i 0 = n := by rw [List.getD_eq_getElem?_getD, hn]; rfl
        have q := kk _ (Same.refl _)
        rw [eg] at q
        refine ⟨rfl, _, rfl, _, rfl, n, byL c, rfl, rfl, ⟨bne, Nat.lt_of_lt_of_le (PySem.Flt.log2_lt_of (by decide : 0 < 731) bb) (by decide)⟩, ?_⟩
        dsimp only
        rw [Int.fdiv_eq_ediv_of_dvd (by_dvd (List.mem_of_getElem? hn))]
        exact q
      intro H7 hG7 s7
      have eG : (List.range (c.map V.int).length).map (fun i => V.int (c.getD i 0 / byL c)) = (c.map (· / byL c)).map V.int := by
        rw [List.length_map, range_map_getD c 0 (fun x => V.int (x / byL c)), List.map_map]
        rfl
      rw [eG] at hG7
      have s07 := s06.trans s7
      -- the two parts
      refine ⟨_, rfl, false, GD, _, rfl, .of hG7, fun _ q hq => ?_, fun z => (by cases z)⟩
      have sq := same_upd (o := .tup ((c.map (· / byL c)).map V.int)) hq
      have hq1 : upd H7 q (.tup ((c.map (· / byL c)).map V.int)) q = some (.tup ((c.map (· / byL c)).map V.int)) := upd_same
      generalize upd H7 q (.tup ((c.map (· / byL c)).map V.int)) = H8 at sq hq1 ⊢
      have s08 := s07.trans sq
      have hG8 := sq _ _ hG7
      refine ⟨_, rfl, _, rfl, false, a, us, 0, _, rfl, rfl, .of (s08 _ _ ha), atI_nat (j := 0) e0, false, false, GD, q0, _, _, rfl, .of hG8, .of (s08 _ _ hq0), fun SD hSD => lc_fun (fun t => V.int ((c.map (· / byL c)).getD t 0 * (M[0]'(by omega)).getD t 0)) (walk_zipM rfl) hSD ?_ (fun H9 s9 => ⟨.of (s9 _ _ hG8), .of (s9 _ _ (s08 _ _ hq0))⟩) ?_ ?_⟩
      · rw [List.length_map, List.length_map, List.length_map]
        exact Nat.lt_of_le_of_lt (Nat.le_trans (Nat.min_le_left _ _) (by omega : c.length ≤ 6)) (by decide)
      · rintro t v H9 H10 ht s9 _ ⟨T', x', y', rfl, hT, rfl, e3, e4⟩ Rk2 kk3
        obtain ⟨n1, hn1, rfl⟩ := map_int_get e3
        obtain ⟨n2, hn2, rfl⟩ := map_int_get e4
        have b1 : n1.natAbs < 2 ^ 730 := by
          obtain ⟨x, hx, rfl⟩ := List.mem_map.mp (List.mem_of_getElem? hn1)
          exact Nat.lt_of_le_of_lt (Int.natAbs_ediv_le_natAbs x _) (cb x hx)
        have b2 := (hM _ (List.getElem_mem (by omega : 0 < M.length))).2 n2 (List.mem_of_getElem? hn2)
        refine ⟨T', _, rfl, .of upd_same, rfl, _, _, rfl, _, _, rfl, rfl, rfl, _, rfl, _, rfl, n1, n2, rfl, rfl, wide_mul (a := 730) (b := 99) b1 b2 (by decide) (by decide) (by decide), ?_⟩
        have e := kk3 _ (same_upd (o := .tup [.int n1, .int n2]) hT)
        rw [List.getD_eq_getElem?_getD (l := c.map (· / byL c)) (i := t), List.getD_eq_getElem?_getD (l := M[0]'(by omega)) (i := t), hn1, hn2] at e
        exact e
      · intro H9 hS9 s9
        have eS : (List.range (min ((c.map (· / byL c)).map V.int).length ((M[0]'(by omega)).map V.int).length)).map (fun t => V.int ((c.map (· / byL c)).getD t 0 * (M[0]'(by omega)).getD t 0)) = (List.zipWith (fun a b => a * b) (c.map (· / byL c)) (M[0]'(by omega))).map V.int := by
          rw [List.length_map, List.length_map (f := V.int) (as := M[0]'(by omega))]
          refine List.ext_getElem (by simp) fun i h1 h2 => ?_
          simp only [List.length_map, List.length_zipWith] at h2
          have hx : i < (c.map (· / byL c)).length := by simp; omega
          have hy : i < (M[0]'(by omega)).length := by omega
          rw [List.getElem_map, List.getElem_range, List.getElem_map, List.getElem_zipWith, getD_of hx, getD_of hy]
        rw [eS] at hS9
        refine ⟨SD, _, rfl, .of hS9, (by show 2 ≤ sizeLine; decide), fun p hp => ?_⟩
        rw [dot_sum, ← hh]
        exact k2 hzr p q _ ((s08.trans s9).trans (same_upd hp)) upd_same ((same_upd hp) _ _ (s9 _ _ hq1))
end
end K0


set_option Elab.async false
set_option linter.all false
set_option maxRecDepth 100000
set_option maxHeartbeats 8000000
set_option exponentiation.threshold 100000
namespace K0
open PySem PySem.Spec PyProof.Rows L2 RZ K0z K3

theorem ok_pts {os : List (Option (List V))} : okP (some os) ↔ 2 ≤ os.length ∧ os.length ≤ 6 ∧ ∀ o ∈ os, ∃ ys, o = some ys ∧ ys.length = os.length ∧ ys.all isI = true := by
  have lm : ∀ M : List Vec, (mat M).length = M.length := fun M => by simp [mat]
  constructor
  · rintro ⟨M, e, l2, l6, hM⟩
    cases e
    rw [lm]
    refine ⟨l2, l6, fun o ho => ?_⟩
    obtain ⟨x, hx, rfl⟩ := List.mem_map.mp ho
    refine ⟨_, rfl, by rw [List.length_map]; exact hM x hx, ?_⟩
    rw [List.all_eq_true]
    intro y hy
    obtain ⟨b, _, rfl⟩ := List.mem_map.mp hy
    rfl
  · rintro ⟨l2, l6, h⟩
    refine ⟨os.map fun q => (q.getD []).map toI, ?_, by rw [List.length_map]; exact l2, by rw [List.length_map]; exact l6, fun x hx => ?_⟩
    · congr 1
      unfold mat
      rw [List.map_map]
      conv => lhs; rw [← List.map_id os]
      refine List.map_congr_left fun q hq => ?_
      obtain ⟨ys, rfl, _, e⟩ := h q hq
      show some ys = some ((ys.map toI).map V.int)
      rw [ints_of e]
    · obtain ⟨q, hq, rfl⟩ := List.mem_map.mp hx
      obtain ⟨ys, rfl, l, _⟩ := h q hq
      show (ys.map toI).length = _
      rw [List.length_map, List.length_map, l]
abbrev lt2 : List V := [.ty "list", .ty "tuple"]
theorem cls2 : Paired ClsV lt2 [.type "list", .type "tuple"] := .cons (.ty _) (.cons (.ty _) .nil)
section
variable {P : Program} {w : World} {K : PySem.W.Frag} {mg : Str → Option Value} {base : Heap} {f g g2 g3 g4 : Addr} {fd : FuncData}
def spLPts (K : PySem.W.Frag) : Sp := fun vs H Q _ => ∃ (v : V) (vo : Option (List (Option (List V)))), vs = [v] ∧ ValAt K H v vo ∧ ∀ H', Same H H' → (okP vo → Q (.bl true) H') ∧ (¬ okP vo → Q (.bl false) H')
theorem sc_lare_points : FnScope ["value", "point", "item"] ["value"] (defScope st__law_are_points) := ⟨rfl, rfl, rfl, by decide +kernel, rfl, by decide +kernel, by decide +kernel⟩
theorem ok_lare_points (F : Fun K "_law_are_points" "_law_are_points" st__law_are_points f fd) (T : Nm mg) (D__law_is_integer : Dn P w K mg base 1 "_law_is_integer" g ["value"] (spIsInt K)) : FnOk P w K mg base CX0 2 f fd ["value"] (spLPts K) := by
  refine F.ok sc_lare_points (fun vs H Q E h => ?_) (fun cdv A outer s H vs Q E hr h => ?_)
  · obtain ⟨v, vo, rfl, _⟩ := h
    rfl
  · obtain ⟨v, vo, rfl, hv, k⟩ := h
    refine ⟨_, (pss_cons (ps_if (PW.pt (pw_or (pt_not (pt_val (pe_callB (call_isTK K) (by rfl) T.n_isinstance (by decide +kernel) (pa_cons (pv 0) (pa_cons (pe_tup (pa_cons (pe_tyn "list" (by rfl) T.n_list (by decide +kernel)) (pa_cons (pe_tyn "tuple" (by rfl) T.n_tuple (by decide +kernel)) pa_nil))) pa_nil))))) (pw_or (pt_cmpR op_lt (pe_callB (call_lenK K) (by rfl) T.n_len (by decide +kernel) (pa_cons (pv 0) pa_nil)) pe_int (nomark _)) (pw_or1 (pt_cmpR op_gt (pe_callB (call_lenK K) (by rfl) T.n_len (by decide +kernel) (pa_cons (pv 0) pa_nil)) pe_int (nomark _)))))) (pss_one (ps_ret pe_bl)) pss_nil)
    (pss_cons (ps_for PassesOwn.never rfl (pi_seqK K (pv 0)) (pg_name (i := 1) sc_lare_points.nd rfl (Or.inl rfl))
      (pss_cons (ps_if (PW.pt (pw_or (pt_not (pt_val (pe_callB (call_isTK K) (by rfl) T.n_isinstance (by decide +kernel) (pa_cons (pv 1) (pa_cons (pe_tup (pa_cons (pe_tyn "list" (by rfl) T.n_list (by decide +kernel)) (pa_cons (pe_tyn "tuple" (by rfl) T.n_tuple (by decide +kernel)) pa_nil))) pa_nil))))) (pw_or1 (pt_cmpR op_ne (pe_callB (call_lenK K) (by rfl) T.n_len (by decide +kernel) (pa_cons (pv 1) pa_nil)) (pe_callB (call_lenK K) (by rfl) T.n_len (by decide +kernel) (pa_cons (pv 0) pa_nil)) (nomark _))))) (pss_one (ps_ret pe_bl)) pss_nil)
    (pss_one (ps_if (pt_cmpR (op_neNil K hr.units) (pe_lc (own := [("item", 2)]) (g := gName 2) rfl sc_lare_points.nd (pi_seqK K (pv 1)) (blkOk_by (N := ["value", "point", "item"]) (sc := defScope st__law_are_points) (by decide +kernel)) (fun _ _ _ _ _ => (pg_name (i := 2) sc_lare_points.nd rfl (Or.inl rfl))) (fun _ _ _ _ _ => (pts_one (pt_not (pt_val (pe_dn D__law_is_integer (hr.mono (by decide)) rfl (pa_cons (pv 2) pa_nil)))))) (fun _ _ _ _ _ => (pv 2))) (pe_lst pa_nil) (nomark _)) (pss_one (ps_ret pe_bl)) pss_nil))))
    (pss_one (ps_ret pe_bl)))), ?_⟩
    refine ⟨_, rfl, (by show 2 ≤ sizeLine; decide), fun p1 hp1 => ?_⟩
    have s1 := same_upd (o := .tup lt2) hp1
    have hp1' : upd H p1 (.tup lt2) p1 = some (.tup lt2) := upd_same
    cases vo with
    | none =>
      have hv' : Seqs K H v none := hv
      obtain ⟨t, i, b, ty, _, _, _, hq⟩ := hv'.asks.same s1
      refine ⟨v, p1, lt2, t, _, false, rfl, hp1', cls2, ty, hq, _, rfl, ?_⟩
      exact iteT (iteT ((k _ s1).2 fun ⟨M, e, _⟩ => by cases e))
    | some os =>
      obtain ⟨vs, hS, hl, hz⟩ := id hv
      obtain ⟨t, i, b, ty, _, _, _, hq⟩ := hS.asks.same s1
      refine ⟨v, p1, lt2, t, _, true, rfl, hp1', cls2, ty, hq, _, rfl, ?_⟩
      obtain ⟨bB, a, rfl, hB, hz2⟩ := hS.sqB
      refine iteF ⟨_, rfl, bB, a, vs, rfl, hB.same s1, _, _, rfl, rfl, _, rfl, ?_⟩
      by_cases c1 : ((vs.length : Nat) : Int) < 2
      · rw [decide_eq_true c1]
        refine iteT (iteT ((k _ s1).2 fun z => ?_))
        have := (ok_pts.mp z).1
        omega
      rw [decide_eq_false c1]
      refine iteF ⟨_, rfl, bB, a, vs, rfl, hB.same s1, _, _, rfl, rfl, _, rfl, ?_⟩
      by_cases c2 : (6 : Int) < (vs.length : Nat)
      · rw [decide_eq_true c2]
        refine iteT ((k _ s1).2 fun z => ?_)
        have := (ok_pts.mp z).2.1
        omega
      rw [decide_eq_false c2]
      refine iteF ?_
      generalize upd H p1 (.tup lt2) = H1 at s1 ⊢
      refine ⟨_, rfl, bB, a, rfl, ⟨_, hB.same s1⟩, for_it walk_seq (fun i σ H4 => Same H1 H4 ∧ (∃ x1 x2, σ = [some (.ref a), x1, x2]) ∧ ∀ j o, j < i → os[j]? = some o → ∃ ys, o = some ys ∧ ys.length = os.length ∧ ys.all isI = true) ⟨Same.refl _, ⟨_, _, rfl⟩, fun j o h => absurd h (Nat.not_lt_zero _)⟩ (fun i σ H4 _ p => (hB.same s1).same p.1) ?_ ?_⟩
      · rintro i x σ H4 H5 hi ⟨s14, ⟨x1, x2, rfl⟩, hg⟩ ⟨rfl, hx⟩
        have s4 := s1.trans s14
        have hi2 : i < os.length := by omega
        obtain ⟨u, e1, e2, hs, hit⟩ := ValAt.get hl hz hi2
        rw [e1] at hx
        cases hx
        have bad : ¬ (∃ ys, os[i] = some ys ∧ ys.length = os.length ∧ ys.all isI = true) → ¬ okP (some os) := fun n z => n ((ok_pts.mp z).2.2 _ (List.getElem_mem hi2))
        refine ⟨_, rfl, (by show 2 ≤ sizeLine; decide), fun p2 hp2 => ?_⟩
        have s5 := same_upd (o := .tup lt2) hp2
        obtain ⟨t, i', b', ty, _, _, _, hq⟩ := (hs.asks.same s4).same s5
        refine ⟨_, p2, lt2, t, _, _, rfl, upd_same, cls2, ty, hq, _, rfl, ?_⟩
        have s45 := s4.trans s5
        generalize upd H5 p2 (.tup lt2) = H6 at s5 s45 ⊢
        cases co : os[i] with
        | none => exact iteT (iteT ((k _ s45).2 (bad fun ⟨ys, e, _⟩ => by rw [co] at e; cases e)))
        | some ys =>
          rw [co] at hs hit e2 bad
          obtain ⟨b1, a1, rfl, hB1, hz3⟩ := hs.sqB
          refine iteF ⟨_, rfl, b1, a1, ys, rfl, hB1.same s45, _, rfl, bB, a, vs, rfl, hB.same s45, rfl, _, rfl, ?_⟩
          by_cases d1 : ys.length ≠ vs.length
          · have e : (!decide (V.int (ys.length : Nat) = V.int (vs.length : Nat))) = true := by
              rw [decide_eq_false (fun z => d1 (by have := V.int.inj z; omega))]
              rfl
            rw [e]
            refine iteT ((k _ s45).2 (bad fun ⟨zs, ez, l1, _⟩ => d1 (by cases ez; omega)))
          have d1 : ys.length = vs.length := Classical.not_not.mp d1
          have e : (!decide (V.int (ys.length : Nat) = V.int (vs.length : Nat))) = false := by
            rw [d1]
            simp
          rw [e]
          refine iteF ?_
          refine ⟨_, rfl, b1, a1, rfl, ⟨_, hB1.same s45⟩, fun D5 hD5 => lc_relF (R := fun _ _ _ => True) (fun j => !isI (ys.getD j .non)) walk_seq hD5 hz3 (fun H s => (hB1.same s45).same s) (fun _ _ _ _ _ _ => trivial) ?_ ?_⟩
          · rintro j x H7 H8 hj s7 _ ⟨rfl, hx⟩ Rt Rk h1 h2
            obtain ⟨qb, aq⟩ := hit ys rfl x (List.mem_of_getElem? hx)
            have eg : ys.getD j .non = x := by rw [List.getD_eq_getElem?_getD, hx]; rfl
            refine ⟨rfl, _, rfl, x, qb, rfl, (aq.same s45).same s7, fun H9 s9 => ⟨_, rfl, ?_⟩⟩
            cases ci : isI x with
            | true => exact iteF (h1 (by rw [eg, ci]; rfl) _ s9)
            | false => exact iteT ⟨_, rfl, h2 (by rw [eg, ci]; rfl) _ _ s9 trivial⟩
          rintro H7 ⟨acc2, la2, hD7, s7, _⟩
          refine ⟨(by show 0 ≤ sizeLine; decide), fun z2 hz8 => ⟨D5, z2, acc2, rfl, rfl, .of ((same_upd hz8) _ _ hD7), .of upd_same, _, rfl, ?_⟩⟩
          have s8 := (s45.trans s7).trans (same_upd (o := .lst []) hz8)
          have s58 := (s14.trans s5).trans (s7.trans (same_upd (o := .lst []) hz8))
          generalize upd H7 z2 (.lst []) = H8 at s8 s58 ⊢
          have hall : acc2 = [] ↔ ys.all isI = true := by
            rw [List.all_eq_true]
            constructor
            · intro e y hy
              obtain ⟨j, hj⟩ := List.mem_iff_getElem?.mp hy
              have hjl := (List.getElem?_eq_some_iff.mp hj).1
              cases ci : isI y with
              | true => rfl
              | false =>
                have hm : j ∈ (List.range ys.length).filter fun j => !isI (ys.getD j .non) := List.mem_filter.mpr ⟨List.mem_range.mpr hjl, by rw [List.getD_eq_getElem?_getD, hj]; show (!isI y) = true; rw [ci]; rfl⟩
                rw [e] at la2
                have := List.eq_nil_of_length_eq_zero la2.symm
                rw [this] at hm
                cases hm
            · intro h
              refine List.eq_nil_of_length_eq_zero ?_
              rw [la2]
              refine List.length_eq_zero_iff.mpr (List.filter_eq_nil_iff.mpr fun j hj => ?_)
              have hjl := List.mem_range.mp hj
              rw [getD_of hjl, h _ (List.getElem_mem hjl)]
              simp
          cases ce2 : acc2 with
          | cons y2 y3 =>
            refine iteT ((k _ s8).2 (bad fun ⟨zs, ez, _, l4⟩ => ?_))
            cases ez
            have := hall.mpr l4
            rw [ce2] at this
            cases this
          | nil =>
            refine iteF ⟨s58, ⟨_, _, rfl⟩, fun j o hj ho => ?_⟩
            by_cases hji : j < i
            · exact hg j o hji ho
            · have : j = i := by omega
              rw [this, e2] at ho
              cases ho
              exact ⟨ys, rfl, by omega, hall.mp ce2⟩
      · rintro σ H4 ⟨s14, ⟨x1, x2, rfl⟩, hg⟩
        refine (k _ (s1.trans s14)).1 (ok_pts.mpr ⟨by omega, by omega, fun o ho => ?_⟩)
        obtain ⟨j, hj⟩ := List.mem_iff_getElem?.mp ho
        exact hg j o (by have := (List.getElem?_eq_some_iff.mp hj).1; omega) hj
end
end K0


set_option Elab.async false
set_option linter.all false
set_option maxRecDepth 100000
set_option maxHeartbeats 8000000
set_option exponentiation.threshold 100000
namespace K0
open PySem PySem.Spec PyProof.Rows L2 RZ K0z K3

/-! ### a value as it is shown: simple ones, and a list or tuple of such -/
inductive ItsS (K : PySem.W.Frag) (H : Hp) : List V → List PyData → Prop
  | nil : ItsS K H [] []
  | cons {v : V} {d : PyData} {vs : List V} {ds : List PyData} (h : It K H v d) (sh : Short d) (r : ItsS K H vs ds) : ItsS K H (v :: vs) (d :: ds)
theorem Dp.same' {K : PySem.W.Frag} {H H' : Hp} (s : Same H H') : ∀ {d : PyData} {v : V}, Dp K H v d → Dp K H' v d := fun h => Dp.rec
  (motive_1 := fun v d _ => Dp K H' v d) (motive_2 := fun vs ds _ => DpAll K H' vs ds) .non (fun b => .bl b) (fun i => .int i) (fun x => .str x)
  (fun h _ ih => .lst (Same.seq s h) ih) (fun h _ ih => .tup (same_sqT s h) ih) .nil (fun _ _ ih1 ih2 => .cons ih1 ih2) h
theorem It.same {K : PySem.W.Frag} {H H' : Hp} {v : V} {d : PyData} (s : Same H H') (h : It K H v d) : It K H' v d := by
  cases h with
  | dp h n => exact .dp (Dp.same' s h) n
  | d0 h => exact .d0 (s _ _ h)
  | d1 h => exact .d1 (s _ _ h)
theorem ItsS.same {K : PySem.W.Frag} {H H' : Hp} (s : Same H H') : ∀ {vs : List V} {ds : List PyData}, ItsS K H vs ds → ItsS K H' vs ds
  | _, _, .nil => .nil
  | _, _, .cons h sh r => .cons (h.same s) sh (r.same s)
/-- v is shown as d -/
inductive Sw (K : PySem.W.Frag) (H : Hp) : V → PyData → Prop
  | it {v : V} {d : PyData} (h : It K H v d) (sh : Short d) : Sw K H v d
  | lst {a : Addr} {v : V} {vs : List V} {ds : List PyData} (h : SqL K H a (v :: vs)) (r : ItsS K H (v :: vs) ds) (sh : Short (.list ds)) : Sw K H (.ref a) (.list ds)
  | tup {a : Addr} {v : V} {vs : List V} {ds : List PyData} (h : SqT K H a (v :: vs)) (r : ItsS K H (v :: vs) ds) (sh : Short (.tuple ds)) : Sw K H (.ref a) (.tuple ds)
theorem Sw.same {K : PySem.W.Frag} {H H' : Hp} {v : V} {d : PyData} (s : Same H H') (h : Sw K H v d) : Sw K H' v d := by
  cases h with
  | it h sh => exact .it (h.same s) sh
  | lst h r sh => exact .lst (Same.seq s h) (r.same s) sh
  | tup h r sh => exact .tup (same_sqT s h) (r.same s) sh
def rRepr3 (K : PySem.W.Frag) : List V → Hp → VK → Prop := fun xs H Q => ∃ (v : V) (d : PyData), xs = [v] ∧ Sw K H v d ∧ Q (.str d.shown) H
section
variable {X : Cx}
theorem all_k {pins : List (Addr × Obj)} {σ : L2.St} {H : Hp} {s : Shared} (I : Inv X pins σ H s) : ∀ {vs : List V} {ds : List PyData} {us : List Value}, ItsS X.K H vs ds → Vals vs us →
    ∃ as bs, ReadsAll s.heap us ds as ∧ ReadAtMost s.heap (PyData.depthAll ds) bs ∧ ReprAllK X.prog X.w bs s.heap (PyData.depthAll ds) us (PyData.shownAll ds)
  | _, _, _, .nil, .nil => ⟨[], [], .nil, (fun _ h => nomatch h), by simp only [PyData.shownAll]; exact .nil⟩
  | _, _, _, .cons h ⟨a1, _, a3⟩ r, .cons r1 r2 => by
    obtain ⟨as1, rd1, n1⟩ := It.rd I h r1
    obtain ⟨b1, hb1, k1⟩ := ReprK.of_reads (prog := X.prog) (w := X.w) rd1 a1 n1 (Nat.le_trans a3 lineOk)
    obtain ⟨as2, b2, rd2, hb2, k2⟩ := all_k I r r2
    refine ⟨_, b1 ++ b2, .cons rd1 rd2, ?_, ?_⟩
    · intro b hm
      simp only [PyData.depthAll]
      rcases List.mem_append.mp hm with hm | hm
      · obtain ⟨d', as', r', hd'⟩ := hb1 b hm
        exact ⟨d', as', r', Nat.le_trans hd' (Nat.le_max_left _ _)⟩
      · obtain ⟨d', as', r', hd'⟩ := hb2 b hm
        exact ⟨d', as', r', Nat.le_trans hd' (Nat.le_max_right _ _)⟩
    · simp only [PyData.depthAll, PyData.shownAll]
      exact .cons ((k1.more fun b hb => List.mem_append_left _ hb).level_le (Nat.le_max_left _ _)) (k2.more_le (fun b hb => List.mem_append_right _ hb) (Nat.le_max_right _ _))
theorem call_repr3 (K : PySem.W.Frag) (hg : X.A.guards = some []) (hu : X.A.units + 64 < cLine) (eK : X.K = K := by rfl) : CallR X (.builtin "repr") (rRepr3 K) := by
  subst eK
  intro pins s σ H xs us Q I r h
  obtain ⟨v, d, rfl, hw, q⟩ := h
  cases hw with
  | it h sh => exact call_repr hg hu pins s σ H _ us Q I r ⟨v, d, rfl, h, sh, q⟩
  | @lst a v vs ds h r2 sh =>
    obtain ⟨u, rfl, ru⟩ := vals1 r
    cases ru
    obtain ⟨its, rv, ⟨o, n, ho, hc, _, hd⟩, _⟩ := I.list h
    obtain ⟨as, bs, rd, hb, hk⟩ := all_k I r2 rv
    have hdp : PyData.depthAll ds ≤ 20 := by have := sh.dp; simp only [PyData.depth] at this; omega
    have hsz : (listText (PyData.shownAll ds)).length ≤ sizeLine := by
      have := sh.ln
      simp only [PyData.shown] at this
      exact Nat.le_trans this lineOk
    have rl : Reads s.heap (.ref a) (.list ds) _ := Reads.list ho hc hd (by simpa using rd)
    have hna : a ∉ bs := not_mem_of_deeper rl (by simp only [PyData.depth]; omega) hb
    cases rv with
    | @cons _ u1 _ us1 q1 q2 =>
      refine call_repr_slot (by omega) ⟨o, ho, hc⟩ F.slot_list_repr.toG ?_
      refine call_list_reprK (A := X.A.in1) (as := bs) (d := PyData.depthAll ds) (ts := PyData.shownAll ds) ho hc hd hna (by simpa using hk.length_eq) (fun i y e => hk.item i y (by simpa using e)) hg
        (fun b _ => Clear.nil b) (by show X.A.units + 1 + _ < cLine; omega) (fun _ _ z => z) (fun h' t tk hk => ⟨_, _, rfl, ⟨.str _, H, I.kept (t' := tk) hk, ⟨t, by simp only [PyData.shown]⟩, q⟩⟩) hsz
  | @tup a v vs ds h r2 sh =>
    obtain ⟨u, rfl, ru⟩ := vals1 r
    cases ru
    obtain ⟨its, rv, p, _⟩ := I.tuple h
    obtain ⟨o, ho, hc, n, hd⟩ := (show s.heap.IsTuple a its.toArray from p)
    obtain ⟨as, bs, rd, hb, hk⟩ := all_k I r2 rv
    have hdp : PyData.depthAll ds ≤ 20 := by have := sh.dp; simp only [PyData.depth] at this; omega
    have hsz : (tupleText (PyData.shownAll ds)).length ≤ sizeLine := by
      have := sh.ln
      simp only [PyData.shown] at this
      exact Nat.le_trans this lineOk
    have rl : Reads s.heap (.ref a) (.tuple ds) _ := Reads.tuple ho hc hd (by simpa using rd)
    have hna : a ∉ bs := not_mem_of_deeper rl (by simp only [PyData.depth]; omega) hb
    refine call_repr_slot (by omega) ⟨o, ho, hc⟩ F.slot_tuple_repr ?_
    refine call_tuple_reprK (A := X.A.in1) (as := bs) (d := PyData.depthAll ds) (ts := PyData.shownAll ds) ho hc hd hna (by simpa using hk) hg
      (fun b _ => Clear.nil b) (by show X.A.units + 1 + _ < cLine; omega) (fun _ _ z => z) (fun h' t tk hk => ⟨_, _, rfl, ⟨.str _, H, I.kept (t' := tk) hk, ⟨t, by simp only [PyData.shown]⟩, q⟩⟩) hsz
/-- t * 1 is t -/
theorem tuple_mul1 (l : Addr) (items : Array Value) (n : Nat) (dd : Option Addr) (sl : Array (Option Value)) (u : Tok) :
    Meets (Builtin.«tuple.__mul__» ⟨[.ref l, .int 1 u], []⟩) (fun _ R s => s.heap.get? l = some { cls := .type "tuple", dict := dd, data := .seq items n, slots := sl } ∧
      R (.ok (.ret (Value.ref l))) s) :=
  .of_wp fun prog w A R s h => by
    obtain ⟨hp, g, d, tk, os⟩ := s
    obtain ⟨hl, h⟩ := h
    have f1 := AutoSeq1.idx_int
    wp_walk using wpAny_loadPart' hl
    repeat (first
      | (refine wpAny_ite_true (by simp) ?_; wp_walk using wpAny_loadPart' hl)
      | (refine wpAny_ite_false (by simp) ?_; wp_walk using wpAny_loadPart' hl))
    exact ⟨_, rfl, h⟩
def rRepB (K : PySem.W.Frag) : R2 := fun x y H Q => ∃ l k xs, x = .ref l ∧ y = .int k ∧ SqT K H l xs ∧ xs ≠ [] ∧ 1 ≤ k ∧ k ≤ 1000 ∧ xs.length ≤ 1000 ∧ (k = 1 → Q (.ref l) H) ∧ (k ≠ 1 → ∀ p, H p = none → Q (.ref p) (upd H p (.tup (List.replicate k.toNat xs).flatten)))
theorem op_repB (K : PySem.W.Frag) (eK : X.K = K := by rfl) : OpR X (binaryOp .Mult) (rRepB K) := by
  subst eK
  intro pins s σ H x y v u Q I rx ry h
  obtain ⟨l, k, xs, rfl, rfl, hT, hne, h1, h2, hz, q1, q2⟩ := h
  by_cases hk : k = 1
  · subst hk
    cases rx
    obtain ⟨t, rfl⟩ := ry
    obtain ⟨its, r, ⟨⟨cls, dd, data, sl⟩, ho, hc, n, hd⟩, hs⟩ := I.tuple hT
    simp only at hc hd
    subst hc hd
    refine wpAny_binaryOp_repeat_ref (T := "tuple") (U := "int") (by decide) ⟨_, ho, rfl⟩ (fun s' => typeIs_int s' 1 t) noFill_tuple_mul F.fills_int_mul F.slot_int_rmul repeat_tuple F.slot_int_index.lookup
      (call_meets F.slot_int_rmul (typeIs_int s 1 t) F.entry_int_rmul (F.args_int_rmul_2 _ _) (int_rmul_tuple 1 t l its.toArray n dd sl)
        ⟨ho, rfl, ⟨_, ho, rfl⟩, call_meets F.slot_tuple_mul ⟨_, ho, rfl⟩ F.entry_tuple_mul (F.args_tuple_mul_2 _ _) (tuple_mul1 l its.toArray n dd sl t) ⟨ho, ?_⟩⟩)
    exact ⟨.ref l, H, I, rfl, q1 rfl⟩
  · exact op_repT pins s σ H _ _ v u Q I rx ry ⟨l, k, xs, rfl, rfl, hT, hne, by omega, h2, hz, q2 hk⟩
end
end K0


set_option Elab.async false
set_option linter.all false
set_option maxRecDepth 100000
set_option maxHeartbeats 8000000
set_option exponentiation.threshold 100000
namespace K0
open PySem PySem.Spec PyProof.Rows L2 RZ K0z K3

structure ShN (B k : Nat) (d : PyData) : Prop where
  sh : d.showable = true
  dp : d.depth ≤ k
  ln : d.shown.length ≤ B
theorem ShN.short {B k : Nat} {d : PyData} (h : ShN B k d) (hB : B ≤ 1000000) (hk : k ≤ 20) : Short d := ⟨h.sh, Nat.le_trans h.dp hk, Nat.le_trans h.ln hB⟩
theorem ShN.more {B B' k k' : Nat} {d : PyData} (h : ShN B k d) (hB : B ≤ B') (hk : k ≤ k') : ShN B' k' d := ⟨h.sh, Nat.le_trans h.dp hk, Nat.le_trans h.ln hB⟩
theorem shN_none : ShN 100 0 .none := ⟨rfl, by decide, by simp only [PyData.shown]; decide⟩
theorem shN_bool (b : Bool) : ShN 100 0 (.bool b) := ⟨rfl, by simp [PyData.depth], by simp only [PyData.shown]; cases b <;> decide⟩
theorem shN_d0 : ShN 100 1 (.dict []) := ⟨rfl, by decide, by simp only [PyData.shown, PyData.shownKv]; decide⟩
theorem int_shown_len {n : Int} (h : n.natAbs < 10 ^ 60) : (PyData.int n).shown.length ≤ 61 := by
  have e := int_text_length_le10 (k := 60) (by decide) h
  simp only [PyData.shown]
  rw [PySem.ofString_length]
  omega
theorem lt60 {n : Int} (h : n.natAbs < 2 ^ 85) : n.natAbs < 10 ^ 60 := Nat.lt_trans h (by decide)
theorem shN_int {n : Int} (h : n.natAbs < 2 ^ 85) : ShN 100 0 (.int n) := by
  have h2 : n.natAbs.log2 < 1920 := by
    have e := PySem.Flt.log2_lt_of (by decide : 0 < 85) h
    omega
  exact ⟨by simpa [PyData.showable] using h2, by simp [PyData.depth], Nat.le_trans (int_shown_len (lt60 h)) (by decide)⟩
theorem shN_list {ds : List PyData} {B k n : Nat} (hn : ds.length ≤ n) (h : ∀ d ∈ ds, ShN B k d) : ShN (n * (B + 2) + 3) (k + 1) (.list ds) ∧ ShN (n * (B + 2) + 3) (k + 1) (.tuple ds) := by
  have a1 : PyData.showableAll ds = true := by
    clear hn
    induction ds with
    | nil => rfl
    | cons d ds ih =>
      simp only [PyData.showableAll, Bool.and_eq_true]
      exact ⟨(h d List.mem_cons_self).sh, ih fun d hd => h d (List.mem_cons_of_mem _ hd)⟩
  have a2 : PyData.depthAll ds ≤ k := by
    clear hn a1
    induction ds with
    | nil => exact Nat.zero_le _
    | cons d ds ih =>
      simp only [PyData.depthAll]
      exact Nat.max_le.mpr ⟨(h d List.mem_cons_self).dp, ih fun d hd => h d (List.mem_cons_of_mem _ hd)⟩
  have a3 : ((PyData.shownAll ds).map (·.length)).sum + 2 * (PyData.shownAll ds).length ≤ ds.length * (B + 2) := by
    clear hn a1 a2
    induction ds with
    | nil => simp [PyData.shownAll]
    | cons d ds ih =>
      have := ih fun d hd => h d (List.mem_cons_of_mem _ hd)
      have := (h d List.mem_cons_self).ln
      simp only [PyData.shownAll, List.map_cons, List.sum_cons, List.length_cons, Nat.succ_mul]
      omega
  have a4 : ds.length * (B + 2) ≤ n * (B + 2) := Nat.mul_le_mul_right _ hn
  have l1 := listText_len_le (PyData.shownAll ds)
  have l2 := tupleText_len_le (PyData.shownAll ds)
  exact ⟨⟨by simpa only [PyData.showable] using a1, by simp only [PyData.depth]; omega, by simp only [PyData.shown]; omega⟩, ⟨by simpa only [PyData.showable] using a1, by simp only [PyData.depth]; omega, by simp only [PyData.shown]; omega⟩⟩
section
variable {K : PySem.W.Frag} {H H' : Hp}
def Cell (K : PySem.W.Frag) (H : Hp) (y : V) : Prop := ∃ d q, Asks K H y q ∧ Dp K H y d ∧ d.hasDict = false ∧ ShN 100 1 d ∧ ∀ n, y = .int n → n.natAbs < 2 ^ 85
theorem Cell.same (s : Same H H') {y : V} (h : Cell K H y) : Cell K H' y := by
  obtain ⟨d, q, a, b, c⟩ := h
  exact ⟨d, q, a.same s, Dp.same' s b, c⟩
theorem Cell.int {n : Int} (h : n.natAbs < 2 ^ 85) : Cell K H (.int n) := ⟨.int n, false, .int n, .int n, rfl, (shN_int h).more (Nat.le_refl _) (by decide), fun m e => by cases e; exact h⟩
theorem Cell.bl (b : Bool) : Cell K H (.bl b) := ⟨.bool b, false, .bl b, .bl b, rfl, (shN_bool b).more (Nat.le_refl _) (by decide), fun m e => by cases e⟩
theorem Cell.non : Cell K H .non := ⟨.none, false, .non, .non, rfl, shN_none.more (Nat.le_refl _) (by decide), fun m e => by cases e⟩
def Row (K : PySem.W.Frag) (H : Hp) (u : V) (o : Option (List V)) : Prop := ∃ d, Seqs K H u o ∧ Items K H o ∧ It K H u d ∧ ShN 3000 2 d ∧ ∀ xs, o = some xs → ∀ n, V.int n ∈ xs → n.natAbs < 2 ^ 85
theorem Row.same (s : Same H H') {u : V} {o : Option (List V)} (h : Row K H u o) : Row K H' u o := by
  obtain ⟨d, a, b, c, e⟩ := h
  exact ⟨d, a.same s, b.same s, c.same s, e⟩
theorem cells_data : ∀ {ys : List V}, (∀ y ∈ ys, Cell K H y) → ∃ ds, DpAll K H ys ds ∧ PyData.hasDictAll ds = false ∧ ds.length = ys.length ∧ ∀ d ∈ ds, ShN 100 1 d
  | [], _ => ⟨[], .nil, rfl, rfl, fun _ h => absurd h List.not_mem_nil⟩
  | y :: ys, h => by
    obtain ⟨d, q, _, h1, h2, h3, _⟩ := h y List.mem_cons_self
    obtain ⟨ds, k1, k2, k3, k4⟩ := cells_data fun y hy => h y (List.mem_cons_of_mem _ hy)
    refine ⟨d :: ds, .cons h1 k1, by simp only [PyData.hasDictAll, h2, k2, Bool.or_false], by rw [List.length_cons, List.length_cons, k3], fun d' hd' => ?_⟩
    rcases List.mem_cons.mp hd' with e | m
    · rw [e]; exact h3
    · exact k4 d' m
theorem row_lst {q : Addr} {ys : List V} (hq : H q = some (.lst ys)) (hl : ys.length ≤ 25) (h : ∀ y ∈ ys, Cell K H y) : Row K H (.ref q) (some ys) := by
  obtain ⟨ds, k1, k2, k3, k4⟩ := cells_data h
  refine ⟨.list ds, ⟨.lst hq, Nat.lt_of_le_of_lt hl (by decide), q, rfl, .inl (.of hq)⟩, fun xs e x hx => ?_, .dp (.lst (.of hq) k1) (by simp only [PyData.hasDict, k2]), (shN_list (n := 25) (by omega) k4).1.more (by decide) (by decide), fun xs e n hn => ?_⟩
  · cases e
    obtain ⟨d, q, a, _⟩ := h x hx
    exact ⟨q, a⟩
  · cases e
    obtain ⟨_, _, _, _, _, _, z⟩ := h _ hn
    exact z n rfl
theorem row_tup {q : Addr} {ys : List V} (hq : H q = some (.tup ys)) (hl : ys.length ≤ 25) (h : ∀ y ∈ ys, Cell K H y) : Row K H (.ref q) (some ys) := by
  obtain ⟨ds, k1, k2, k3, k4⟩ := cells_data h
  refine ⟨.tuple ds, ⟨.tup hq, Nat.lt_of_le_of_lt hl (by decide), q, rfl, .inr (.of hq)⟩, fun xs e x hx => ?_, .dp (.tup (.of hq) k1) (by simp only [PyData.hasDict, k2]), (shN_list (n := 25) (by omega) k4).2.more (by decide) (by decide), fun xs e n hn => ?_⟩
  · cases e
    obtain ⟨d, q, a, _⟩ := h x hx
    exact ⟨q, a⟩
  · cases e
    obtain ⟨_, _, _, _, _, _, z⟩ := h _ hn
    exact z n rfl
theorem row_flat {u : V} {d : PyData} (a : Asks K H u false) (h : Dp K H u d) (hd : d.hasDict = false) (s : ShN 100 1 d) : Row K H u none :=
  ⟨d, a, fun xs e => (by cases e), .dp h hd, s.more (by decide) (by decide), fun xs e => (by cases e)⟩
theorem row_dict {p : Addr} (h : H p = some (.dK [])) : Row K H (.ref p) none :=
  ⟨_, Asks.dict h, fun xs e => (by cases e), .d0 h, shN_d0.more (by decide) (by decide), fun xs e => (by cases e)⟩
def Rows3 (K : PySem.W.Frag) (H : Hp) (us : List V) (os : List (Option (List V))) : Prop := us.length = os.length ∧ ∀ (i : Nat) (u : V) (o : Option (List V)), us[i]? = some u → os[i]? = some o → Row K H u o
theorem Rows3.same (s : Same H H') {us : List V} {os : List (Option (List V))} (h : Rows3 K H us os) : Rows3 K H' us os := ⟨h.1, fun i u o a b => (h.2 i u o a b).same s⟩
theorem rows_data : ∀ {us : List V} {os : List (Option (List V))}, Rows3 K H us os → ∃ ds, ItsS K H us ds ∧ ds.length = us.length ∧ ∀ d ∈ ds, ShN 3000 2 d
  | [], _, _ => ⟨[], .nil, rfl, fun _ h => absurd h List.not_mem_nil⟩
  | u :: us, [], h => absurd h.1 (by simp)
  | u :: us, o :: os, h => by
    obtain ⟨d, _, _, h3, h4, _⟩ := h.2 0 u o rfl rfl
    obtain ⟨ds, k1, k2, k3⟩ := rows_data (us := us) (os := os) ⟨by have := h.1; simpa using this, fun i u' o' a b => h.2 (i + 1) u' o' a b⟩
    refine ⟨d :: ds, .cons h3 (h4.short (by decide) (by decide)) k1, by rw [List.length_cons, List.length_cons, k2], fun d' hd' => ?_⟩
    rcases List.mem_cons.mp hd' with e | m
    · rw [e]; exact h4
    · exact k3 d' m
def Small9 (vo : Option (List (Option (List V)))) : Prop := ∀ M, vo = some (mat M) → ∀ r ∈ M, ∀ b ∈ r, b.natAbs < 2 ^ 85
theorem Small9.small {vo : Option (List (Option (List V)))} (h : Small9 vo) : Small vo := fun M e r hr b hb => Nat.lt_trans (h M e r hr b hb) (by decide)
theorem rows_small {us : List V} {os : List (Option (List V))} (h : Rows3 K H us os) : Small9 (some os) := by
  intro M e r hr b hb
  cases e
  obtain ⟨i, hi⟩ := List.mem_iff_getElem?.mp hr
  have h2 : (mat M)[i]? = some (some (r.map V.int)) := by
    unfold mat
    rw [List.getElem?_map, hi]
    rfl
  have hil : i < us.length := by rw [h.1]; exact (List.getElem?_eq_some_iff.mp h2).1
  obtain ⟨_, _, _, _, _, z⟩ := h.2 i _ _ (List.getElem?_eq_getElem hil) h2
  exact z _ rfl b (List.mem_map.mpr ⟨b, hb, rfl⟩)
/-- what the law bends: a value, how it reads, how it is shown -/
def Bnt (K : PySem.W.Frag) (H : Hp) (v : V) : Prop := ∃ vo d, ValAt K H v vo ∧ Small9 vo ∧ Sw K H v d
theorem bnt_lst {a : Addr} {us : List V} {os : List (Option (List V))} (ha : H a = some (.lst us)) (hne : us ≠ []) (hl : us.length ≤ 20) (h : Rows3 K H us os) : Bnt K H (.ref a) := by
  obtain ⟨ds, k1, k2, k3⟩ := rows_data h
  refine ⟨some os, .list ds, ⟨us, ⟨.lst ha, Nat.lt_of_le_of_lt hl (by decide), a, rfl, .inl (.of ha)⟩, h.1, fun i u o e1 e2 => ?_⟩, rows_small h, ?_⟩
  · obtain ⟨_, z1, z2, _⟩ := h.2 i u o e1 e2
    exact ⟨z1, z2⟩
  · cases us with
    | nil => exact absurd rfl hne
    | cons u us => exact .lst (.of ha) k1 ((shN_list (n := 20) (by omega) k3).1.short (by decide) (by decide))
theorem bnt_tup {a : Addr} {us : List V} {os : List (Option (List V))} (ha : H a = some (.tup us)) (hne : us ≠ []) (hl : us.length ≤ 20) (h : Rows3 K H us os) : Bnt K H (.ref a) := by
  obtain ⟨ds, k1, k2, k3⟩ := rows_data h
  refine ⟨some os, .tuple ds, ⟨us, ⟨.tup ha, Nat.lt_of_le_of_lt hl (by decide), a, rfl, .inr (.of ha)⟩, h.1, fun i u o e1 e2 => ?_⟩, rows_small h, ?_⟩
  · obtain ⟨_, z1, z2, _⟩ := h.2 i u o e1 e2
    exact ⟨z1, z2⟩
  · cases us with
    | nil => exact absurd rfl hne
    | cons u us => exact .tup (.of ha) k1 ((shN_list (n := 20) (by omega) k3).2.short (by decide) (by decide))
theorem bnt_flat {u : V} {d : PyData} (a : Asks K H u false) (h : Dp K H u d) (hd : d.hasDict = false) (s : ShN 100 1 d) : Bnt K H u :=
  ⟨none, d, a, fun M e => (by cases e), .it (.dp h hd) (s.short (by decide) (by decide))⟩
theorem bnt_dict {p : Addr} (h : H p = some (.dK [])) : Bnt K H (.ref p) := ⟨none, _, Asks.dict h, fun M e => (by cases e), .it (.d0 h) (shN_d0.short (by decide) (by decide))⟩
theorem bnt_nilL {p : Addr} (h : H p = some (.lst [])) : Bnt K H (.ref p) := ⟨some [], .list [], ⟨[], ⟨.lst h, by decide, p, rfl, .inl (.of h)⟩, rfl, fun i u o e => (by cases e)⟩, rows_small (K := K) (H := H) (us := []) ⟨rfl, fun i u o e => (by cases e)⟩,
  .it (.dp (.lst (.of h) .nil) rfl) ((shN_list (n := 0) (B := 0) (k := 0) (Nat.le_refl _) fun _ h => absurd h List.not_mem_nil).1.short (by decide) (by decide))⟩
theorem bnt_nilT {p : Addr} (h : H p = some (.tup [])) : Bnt K H (.ref p) := ⟨some [], .tuple [], ⟨[], ⟨.tup h, by decide, p, rfl, .inr (.of h)⟩, rfl, fun i u o e => (by cases e)⟩, rows_small (K := K) (H := H) (us := []) ⟨rfl, fun i u o e => (by cases e)⟩,
  .it (.dp (.tup (.of h) .nil) rfl) ((shN_list (n := 0) (B := 0) (k := 0) (Nat.le_refl _) fun _ h => absurd h List.not_mem_nil).2.short (by decide) (by decide))⟩
theorem shN_str {s : String} (h : (Str.ofString s).length ≤ 4) : ShN 100 1 (.str (Str.ofString s)) := by
  refine ⟨rfl, by simp [PyData.depth], ?_⟩
  have cl : ∀ c ∈ (Str.ofString s).cps.toList, c < 16 ^ 8 := by
    intro c hc
    rw [PyProof.Rows.signs_ofString] at hc
    obtain ⟨ch, _, rfl⟩ := List.mem_map.mp hc
    have h := ch.valid
    unfold UInt32.isValidChar Nat.isValidChar at h
    show ch.val.toNat < _
    omega
  have e := PySem.StrLaws.reprText_len (Str.ofString s) cl
  simp only [PyData.shown]
  omega
theorem Cell.str {s : String} (h : (Str.ofString s).length ≤ 4) : Cell K H (.str (Str.ofString s)) := ⟨_, false, .str _, .str _, rfl, shN_str h, fun m e => by cases e⟩
theorem Cell.lst {p : Addr} {ys : List V} (hp : H p = some (.lst ys)) (hl : ys.length ≤ 1) (h : ∀ y ∈ ys, ∃ n : Int, y = .int n ∧ n.natAbs < 10) : Cell K H (.ref p) := by
  have : ∃ ds, DpAll K H ys ds ∧ PyData.hasDictAll ds = false ∧ ds.length = ys.length ∧ ∀ d ∈ ds, ShN 61 0 d := by
    clear hp
    induction ys with
    | nil => exact ⟨[], .nil, rfl, rfl, fun _ h => absurd h List.not_mem_nil⟩
    | cons y ys ih =>
      obtain ⟨n, rfl, hn⟩ := h y List.mem_cons_self
      obtain ⟨ds, k1, k2, k3, k4⟩ := ih (by have : ys.length + 1 ≤ 1 := hl; omega) fun y hy => h y (List.mem_cons_of_mem _ hy)
      refine ⟨.int n :: ds, .cons (.int n) k1, by simp only [PyData.hasDictAll, PyData.hasDict, k2, Bool.or_false], by rw [List.length_cons, List.length_cons, k3], fun d' hd' => ?_⟩
      rcases List.mem_cons.mp hd' with e | m
      · rw [e]
        have hn' : n.natAbs < 2 ^ 85 := Nat.lt_trans hn (by decide)
        exact ⟨(shN_int hn').sh, (shN_int hn').dp, int_shown_len (lt60 hn')⟩
      · exact k4 d' m
  obtain ⟨ds, k1, k2, k3, k4⟩ := this
  exact ⟨.list ds, true, .lst hp, .lst (.of hp) k1, by simp only [PyData.hasDict, k2], (shN_list (n := 1) (by omega) k4).1.more (by decide) (by decide), fun m e => by cases e⟩
theorem Cell.nilT {p : Addr} (hp : H p = some (.tup [])) : Cell K H (.ref p) := ⟨.tuple [], true, .tup hp, .tup (.of hp) .nil, rfl, (shN_list (n := 0) (B := 0) (k := 0) (Nat.le_refl _) fun _ h => absurd h List.not_mem_nil).2.more (by decide) (by decide), fun m e => by cases e⟩
end
end K0


set_option Elab.async false
set_option linter.all false
set_option maxRecDepth 100000
set_option maxHeartbeats 8000000
set_option exponentiation.threshold 100000
namespace K0
open PySem PySem.Spec PyProof.Rows L2 RZ K0z K3

def isTbl : HO → Bool
  | .tbl _ => true
  | _ => false
/-- without what is at c, without tables of code -/
def OffT (c : Addr) (H : Hp) : Hp := fun b => if b = c then none else (H b).filter fun o => !isTbl o
theorem offT_iff {c b : Addr} {H : Hp} {o : HO} : OffT c H b = some o ↔ b ≠ c ∧ H b = some o ∧ isTbl o = false := by
  unfold OffT
  by_cases h : b = c
  · simp [h]
  · rw [if_neg h, Option.filter_eq_some_iff]
    simp [h]
theorem offT1 {c b : Addr} {H : Hp} {o : HO} (h : H b = some o) (n : b ≠ c) (t : isTbl o = false := by rfl) : OffT c H b = some o := offT_iff.mpr ⟨n, h, t⟩
theorem sameT {c : Addr} {H H' : Hp} (s : SameBut c H H') : Same (OffT c H) (OffT c H') := fun b o e => by
  obtain ⟨n, h, t⟩ := offT_iff.mp e
  exact offT1 (s b o n h) n t
theorem upT {c : Addr} {H H' : Hp} (s : ∀ b o, b ≠ c → H b = some o → isTbl o = false → H' b = some o) : Same (OffT c H) H' := fun b o e => by
  obtain ⟨n, h, t⟩ := offT_iff.mp e
  exact s b o n h t
section
variable {P : Program} {w : World} {K : PySem.W.Frag} {mg : Str → Option Value} {base : Heap} {f g g2 g3 g4 : Addr} {fd : FuncData}
/-- a row of any kind -/
def RwX (K : PySem.W.Frag) (H : Hp) (u : V) : Prop := ∃ o, Row K H u o
theorem RwX.same {H H' : Hp} (s : Same H H') {u : V} (h : RwX K H u) : RwX K H' u := let ⟨o, z⟩ := h; ⟨o, z.same s⟩
theorem rows3_of {H : Hp} {us : List V} (h : ∀ u ∈ us, RwX K H u) : ∃ os, Rows3 K H us os := by
  induction us with
  | nil => exact ⟨[], rfl, fun i u o e => by cases e⟩
  | cons u us ih =>
    obtain ⟨o, ho⟩ := h u List.mem_cons_self
    obtain ⟨os, hl, hz⟩ := ih fun u hu => h u (List.mem_cons_of_mem _ hu)
    refine ⟨o :: os, by rw [List.length_cons, List.length_cons, hl], fun i u' o' e1 e2 => ?_⟩
    cases i with
    | zero => cases e1; cases e2; exact ho
    | succ i => exact hz i u' o' e1 e2
theorem bnt_l {H : Hp} {a : Addr} {us : List V} (ha : H a = some (.lst us)) (hne : us ≠ []) (hl : us.length ≤ 20) (h : ∀ u ∈ us, RwX K H u) : Bnt K H (.ref a) := let ⟨_, z⟩ := rows3_of h; bnt_lst ha hne hl z
theorem bnt_t {H : Hp} {a : Addr} {us : List V} (ha : H a = some (.tup us)) (hne : us ≠ []) (hl : us.length ≤ 20) (h : ∀ u ∈ us, RwX K H u) : Bnt K H (.ref a) := let ⟨_, z⟩ := rows3_of h; bnt_tup ha hne hl z
theorem rx_ints {H : Hp} {q : Addr} {x : Vec} (hq : H q = some (.lst (x.map V.int))) (hl : x.length ≤ 25) (hb : ∀ b ∈ x, b.natAbs < 2 ^ 85) : RwX K H (.ref q) := by
  refine ⟨_, row_lst hq (by rw [List.length_map]; exact hl) fun y hy => ?_⟩
  obtain ⟨b, hm, rfl⟩ := List.mem_map.mp hy
  exact .int (hb b hm)
theorem Bnt.same {H H' : Hp} {v : V} (s : Same H H') (h : Bnt K H v) : Bnt K H' v := by
  obtain ⟨vo, d, a, b, e⟩ := h
  exact ⟨vo, d, a.same s, b, e.same s⟩
/-- the copied rows -/
def Fnd (H0 H : Hp) (c D : Addr) (us : List V) (M : List Vec) : Prop := H0 D = none ∧ D ≠ c ∧ H D = some (.lst us) ∧ us.length = M.length ∧ ∀ (i : Nat) (u : V), us[i]? = some u → ∃ q x, u = .ref q ∧ M[i]? = some x ∧ q ≠ D ∧ q ≠ c ∧ H0 q = none ∧ H q = some (.lst (x.map V.int))
theorem Fnd.mono {H0 H H' : Hp} {c D : Addr} {us : List V} {M : List Vec} (h : Fnd H0 H c D us M) (s : SameBut c H H') : Fnd H0 H' c D us M := by
  obtain ⟨a1, a2, a3, a4, a5⟩ := h
  exact ⟨a1, a2, s _ _ a2 a3, a4, fun i u e => let ⟨q, x, b1, b2, b3, b4, b5, b6⟩ := a5 i u e; ⟨q, x, b1, b2, b3, b4, b5, s _ _ b4 b6⟩⟩
theorem Fnd.rx {H0 H : Hp} {c D : Addr} {us : List V} {M : List Vec} (h : Fnd H0 H c D us M) (hw : ∀ x ∈ M, 1 ≤ x.length ∧ x.length ≤ 8) (hb : ∀ x ∈ M, ∀ b ∈ x, b.natAbs ≤ 2 ^ 75) : ∀ u ∈ us, RwX K (OffT c H) u := fun u hu => by
  obtain ⟨i, hi⟩ := List.mem_iff_getElem?.mp hu
  obtain ⟨q, x, rfl, b2, _, b4, _, b6⟩ := h.2.2.2.2 i u hi
  have hm := List.mem_of_getElem? b2
  exact rx_ints (offT1 b6 b4) (by have := (hw x hm).2; omega) fun b hb' => Nat.lt_of_le_of_lt (hb x hm b hb') (by decide)
theorem Fnd.get {H0 H : Hp} {c D : Addr} {us : List V} {M : List Vec} (h : Fnd H0 H c D us M) {i : Nat} (hi : i < M.length) : ∃ q, us[i]? = some (.ref q) ∧ q ≠ D ∧ q ≠ c ∧ H0 q = none ∧ H q = some (.lst ((M[i]'hi).map V.int)) := by
  have hl : i < us.length := by rw [h.2.2.2.1]; exact hi
  obtain ⟨q, x, e, b2, b3, b4, b5, b6⟩ := h.2.2.2.2 i _ (List.getElem?_eq_getElem hl)
  rw [List.getElem?_eq_getElem hi] at b2
  cases b2
  exact ⟨q, by rw [List.getElem?_eq_getElem hl, e], b3, b4, b5, b6⟩
theorem off2_put {c q : Addr} {Hb H7 : Hp} {o : HO} (s : SameBut c Hb H7) : Same (Off q (OffT c Hb)) (OffT c (upd H7 q o)) := fun b o' e => by
  by_cases bq : b = q
  · rw [bq, off_self] at e; cases e
  rw [off_ne bq] at e
  obtain ⟨n, h, t⟩ := offT_iff.mp e
  exact offT1 (by rw [upd_ne bq]; exact s _ _ n h) n t
theorem off2 {q c p : Addr} {H : Hp} {o : HO} (h : H p = some o) (n1 : p ≠ q) (n2 : p ≠ c) (t : isTbl o = false := by rfl) : Off q (OffT c H) p = some o := by rw [off_ne n1]; exact offT1 h n2 t
theorem off1 {c p : Addr} {H : Hp} {o : HO} (h : H p = some o) (n2 : p ≠ c) : Off c H p = some o := by rw [off_ne n2]; exact h
theorem SameBut.put {c q : Addr} {H H6 : Hp} {o : HO} (s : SameBut c H H6) (hq : H q = none) : SameBut c H (upd H6 q o) := fun b o' n e => by
  rw [upd_ne (ne_of_none e hq)]
  exact s b o' n e
theorem none_back {c q : Addr} {H H6 : Hp} (s : SameBut c H H6) (n : q ≠ c) (h : H6 q = none) : H q = none := by
  cases e : H q with
  | none => rfl
  | some o => rw [s _ _ n e] at h; cases h
theorem cutV_mem {xs : List V} {lo hi : Option Int} {y : V} (h : y ∈ cutV xs lo hi) : y ∈ xs := List.mem_of_mem_drop (List.mem_of_mem_take h)
theorem rx_cells {H : Hp} {q : Addr} {ys : List V} (hq : H q = some (.lst ys)) (hl : ys.length ≤ 25) (h : ∀ y ∈ ys, Cell K H y) : RwX K H (.ref q) := ⟨_, row_lst hq hl h⟩
theorem rx_tup {H : Hp} {q : Addr} {ys : List V} (hq : H q = some (.tup ys)) (hl : ys.length ≤ 25) (h : ∀ y ∈ ys, Cell K H y) : RwX K H (.ref q) := ⟨_, row_tup hq hl h⟩
theorem rx_flat {H : Hp} {u : V} {d : PyData} (a : Asks K H u false) (h : Dp K H u d) (hd : d.hasDict = false) (s : ShN 100 1 d) : RwX K H u := ⟨_, row_flat a h hd s⟩
theorem rx_non {H : Hp} : RwX K H .non := rx_flat (.non) .non rfl (shN_none.more (Nat.le_refl _) (by decide))
theorem rx_int {H : Hp} {n : Int} (h : n.natAbs < 2 ^ 85) : RwX K H (.int n) := rx_flat (.int n) (.int n) rfl ((shN_int h).more (Nat.le_refl _) (by decide))
theorem rx_str {H : Hp} {s : String} (h : (Str.ofString s).length ≤ 4) : RwX K H (.str (Str.ofString s)) := rx_flat (.str _) (.str _) rfl (shN_str h)
theorem rx_dict {H : Hp} {p : Addr} (h : H p = some (.dK [])) : RwX K H (.ref p) := ⟨_, row_dict h⟩
theorem int_cells {H : Hp} {x : Vec} (hb : ∀ b ∈ x, b.natAbs ≤ 2 ^ 75) : ∀ y ∈ x.map V.int, Cell K H y := fun y hy => by
  obtain ⟨b, hm, rfl⟩ := List.mem_map.mp hy
  exact .int (Nat.lt_of_le_of_lt (hb b hm) (by decide))
theorem no_cells {H : Hp} : ∀ y ∈ ([] : List V), Cell K H y := fun _ h => absurd h List.not_mem_nil
theorem one_cell {H : Hp} {v : V} (h : Cell K H v) : ∀ y ∈ [v], Cell K H y := fun y hy => by rw [List.mem_singleton.mp hy]; exact h
theorem rep_mem {v y : V} {n : Nat} (h : y ∈ (List.replicate n [v]).flatten) : y = v := by
  obtain ⟨l, hl, hy⟩ := List.mem_flatten.mp h
  rw [List.eq_of_mem_replicate hl] at hy
  exact List.mem_singleton.mp hy
theorem rep_len (v : V) (n : Nat) : (List.replicate n [v]).flatten.length = n := by
  induction n with
  | zero => rfl
  | succ n ih => rw [List.replicate_succ, List.flatten_cons, List.length_append, ih]; simp; omega
theorem fresh1 {H G : Hp} {c d p : Addr} {ns : List Int} {m : Nat} (hC : Coil H c d ns m) (t : Same H G) (hp : G p = none) : p ≠ c := ((hC.but t).ne hp).1
def rRepC (K : PySem.W.Frag) : R2 := fun x y H Q => ∃ l k xs, x = .ref l ∧ y = .int k ∧ H l = some (.tup xs) ∧ xs ≠ [] ∧ 1 ≤ k ∧ k ≤ 1000 ∧ xs.length ≤ 1000 ∧ ∀ p H', Same H H' → p ≠ 0 ∨ True → H' p = some (.tup (List.replicate k.toNat xs).flatten) → (H p = none ∨ p = l) → Q (.ref p) H'
theorem op_repC {X : Cx} (K : PySem.W.Frag) (eK : X.K = K := by rfl) : OpR X (binaryOp .Mult) (rRepC K) := by
  intro pins s σ H x y v u Q I rx ry h
  obtain ⟨l, k, xs, rfl, rfl, hT, hne, h1, h2, hz, q⟩ := h
  refine op_repB K eK pins s σ H _ _ v u Q I rx ry ⟨l, k, xs, rfl, rfl, .of hT, hne, h1, h2, hz, fun e => ?_, fun _ p hp => q p _ (same_upd hp) (.inr trivial) upd_same (.inl hp)⟩
  subst e
  refine q l H (Same.refl H) (.inr trivial) ?_ (.inr rfl)
  rw [hT]
  simp
/-- a row of ints -/
def IRow (c : Addr) (H : Hp) (u : V) : Prop := ∃ q ys, u = .ref q ∧ q ≠ c ∧ H q = some (.lst ys) ∧ ys.length ≤ 25 ∧ ∀ y ∈ ys, ∃ n : Int, y = .int n ∧ n.natAbs < 2 ^ 85
theorem IRow.same {c : Addr} {H H' : Hp} {u : V} (s : Same H H') (h : IRow c H u) : IRow c H' u := by
  obtain ⟨q, ys, a, b, e, f⟩ := h
  exact ⟨q, ys, a, b, s _ _ e, f⟩
theorem IRow.rx {c : Addr} {H : Hp} {u : V} (h : IRow c H u) : RwX K (OffT c H) u := by
  obtain ⟨q, ys, rfl, b, e, l, z⟩ := h
  refine rx_cells (offT1 e b) l fun y hy => ?_
  obtain ⟨n, rfl, hn⟩ := z y hy
  exact .int hn
theorem irow_of {c q : Addr} {H : Hp} {x : Vec} (hq : H q = some (.lst (x.map V.int))) (n : q ≠ c) (hl : x.length ≤ 25) (hb : ∀ b ∈ x, b.natAbs < 2 ^ 85) : IRow c H (.ref q) := by
  refine ⟨q, _, rfl, n, hq, by rw [List.length_map]; exact hl, fun y hy => ?_⟩
  obtain ⟨b, hm, rfl⟩ := List.mem_map.mp hy
  exact ⟨b, rfl, hb b hm⟩
theorem bound100 {a b : Int} (ha : a.natAbs ≤ 2 ^ 75) (hb : b.natAbs ≤ 100) : (a * b).natAbs < 2 ^ 85 := by
  rw [Int.natAbs_mul]
  exact Nat.lt_of_le_of_lt (Nat.mul_le_mul ha hb) (by decide)
/-- one drawn of some, each of which holds p -/
theorem all_get {p : V → Prop} {xs : List V} (h : ∀ y ∈ xs, p y) {i : Nat} {y : V} (e : xs[i]? = some y) : p y := h y (List.mem_of_getElem? e)
end
end K0


set_option Elab.async false
set_option linter.all false
set_option maxRecDepth 100000
set_option maxHeartbeats 8000000
set_option exponentiation.threshold 100000
namespace K0
open PySem PySem.Spec PyProof.Rows L2 RZ K0z K3

abbrev scB5 : Scope := { kind := ScopeKind.function, names := [((".0" : Str), NameKind.local), (("turn" : Str), NameKind.cell), (("range" : Str), NameKind.globalImplicit), (("more" : Str), NameKind.cell)], isGenerator := false, isCoroutine := false }
theorem ixN_nat {n j : Nat} (hj : j < n) : ixN n (j : Int) = some j := by
  unfold ixN
  rw [if_pos (by omega), if_pos (by omega)]
  simp
/-- these refs stand for these vectors, each a list at an address that is neither c nor a -/
def Rws (H : Hp) (c a : Addr) (vs : List V) (M : List Vec) : Prop := vs.length = M.length ∧ ∀ (i : Nat) (u : V) (x : Vec), vs[i]? = some u → M[i]? = some x → ∃ q, u = .ref q ∧ q ≠ c ∧ q ≠ a ∧ H q = some (.lst (x.map V.int))
theorem Rws.mono {H H' : Hp} {c a : Addr} {vs : List V} {M : List Vec} (h : Rws H c a vs M) (s : ∀ b o, b ≠ c → b ≠ a → H b = some o → H' b = some o) : Rws H' c a vs M :=
  ⟨h.1, fun i u x h1 h2 => let ⟨q, e, n1, n2, z⟩ := h.2 i u x h1 h2; ⟨q, e, n1, n2, s q _ n1 n2 z⟩⟩
section
variable {P : Program} {w : World} {K : PySem.W.Frag} {mg : Str → Option Value} {base : Heap} {f g g2 g3 g4 : Addr} {fd : FuncData}
theorem cell_tup {H : Hp} {p : Addr} {n : Int} (hp : H p = some (.tup [.int n])) (hn : n.natAbs < 10 := by decide) : Cell K H (.ref p) := by
  have e : (int_shown_len (n := n) (Nat.lt_trans hn (by decide))) = (int_shown_len (n := n) (Nat.lt_trans hn (by decide))) := rfl
  have hn' : n.natAbs < 2 ^ 85 := Nat.lt_trans hn (by decide)
  exact ⟨.tuple [.int n], true, .tup hp, .tup (.of hp) (.cons (.int n) .nil), rfl, (shN_list (n := 1) (B := 61) (k := 0) (ds := [.int n]) (by simp) fun d hd => by
    rw [List.mem_singleton.mp hd]
    exact ⟨(shN_int hn').sh, (shN_int hn').dp, int_shown_len (lt60 hn')⟩).2.more (by decide) (by decide), fun m e => by cases e⟩
theorem shN_str6 {s : String} (h : (Str.ofString s).length ≤ 6) : ShN 100 1 (.str (Str.ofString s)) := by
  refine ⟨rfl, by simp [PyData.depth], ?_⟩
  have cl : ∀ c ∈ (Str.ofString s).cps.toList, c < 16 ^ 8 := by
    intro c hc
    rw [PyProof.Rows.signs_ofString] at hc
    obtain ⟨ch, _, rfl⟩ := List.mem_map.mp hc
    have h := ch.valid
    unfold UInt32.isValidChar Nat.isValidChar at h
    show ch.val.toNat < _
    omega
  have e := PySem.StrLaws.reprText_len (Str.ofString s) cl
  simp only [PyData.shown]
  omega
def spBent (K : PySem.W.Frag) : Sp := fun vs H Q _ => ∃ (c d : Addr) (ns : List Int) (m : Nat) (a : Addr) (us : List V) (M : List Vec), vs = [.ref c, .ref a] ∧ Coil H c d ns m ∧ m ≤ 90000 ∧ a ≠ c ∧ H a = some (.lst us) ∧ Rws H c a us M ∧
  2 ≤ M.length ∧ M.length ≤ 6 ∧ (∀ x ∈ M, x.length = M.length) ∧ (∀ x ∈ M, ∀ b ∈ x, b.natAbs ≤ 2 ^ 75) ∧
  ∀ (v : V) (H' : Hp), Bnt K (OffT c H') v → Coil H' c d ns (m + 10) → SameBut c H H' → Q v H'
theorem sc_bent : FnScope ["loom", "points", "way", "at", "found", "point", "spot", "more", "place", "turn"] ["loom", "points"] (defScope st__law_bent) := ⟨rfl, rfl, rfl, by decide +kernel, rfl, by decide +kernel, by decide +kernel⟩
theorem ok_bent (F : Fun K "_law_bent" "_law_bent" st__law_bent f fd) (T : Nm mg) (D__law_thread : Dn P w K mg base 1 "_law_thread" g ["loom", "many"] spTurn) (D__law_one_of : Dn P w K mg base 2 "_law_one_of" g2 ["loom", "some"] (spOne K)) : FnOk P w K mg base CX0 3 f fd ["loom", "points"] (spBent K) := by
  refine F.ok sc_bent (fun vs H Q E h => ?_) (fun cdv A outer s H vs Q E hr h => ?_)
  · obtain ⟨c, d, ns, m, a, us, M, rfl, _⟩ := h
    rfl
  · obtain ⟨c, d, ns, m, a, us0, M, rfl, hC, hm, nac, ha, hRw, h1, h16, hwd, hb, k⟩ := h
    have hw : ∀ x ∈ M, 1 ≤ x.length ∧ x.length ≤ 6 := fun x hx => by rw [hwd x hx]; omega
    have hw6 : ∀ x ∈ M, 1 ≤ x.length ∧ x.length ≤ 8 := fun x hx => by rw [hwd x hx]; omega
    obtain ⟨t4, h4, fin⟩ : ∃ t4, PSs (cxOf CX0 P w K mg base ["loom", "points", "way", "at", "found", "point", "spot", "more", "place", "turn"] "_law_bent" (defScope st__law_bent) f cdv A outer s H E).nox ((defBody st__law_bent).drop 3) t4 ∧ ∀ (x7 : Option V) (H2 : Hp) (D : Addr) (zs : List V) (way at' spot : Int), D ≠ c → H2 D = some (.lst zs) → zs ≠ [] → zs.length ≤ 20 → (∀ u ∈ zs, RwX K (OffT c H2) u) → Coil H2 c d ns (m + 9) → SameBut c H H2 →
        t4 { nx := fun _ H' => Q .non H', rt := Q } [some (.ref c), some (.ref a), some (.int way), some (.int at'), some (.ref D), none, some (.int spot), x7, none, none] H2 := by
      refine ⟨_, (pss_one (ps_ret (pe_ifExp (pt_cmpR op_eq (pe_dn D__law_thread (hr.mono (by decide)) rfl (pa_cons (pv 0) (pa_cons pe_int pa_nil))) pe_int (nomark _)) (pe_callTy (call_tupK K) (by rfl) T.n_tuple (by decide +kernel) (pa_cons (pv 4) pa_nil)) (pv 4)))), ?_⟩
      intro x7 H2 D zs way at' spot nDc hD hne hl hr2 hC2 sb2
      refine ⟨_, rfl, c, d, ns, m + 9, 3, rfl, hC2, by omega, by decide, small9000 (by decide), fun r H3 r0 r1 hC3 sb3 => ⟨rfl, _, rfl, ?_⟩⟩
      have hD3 := sb3 _ _ nDc hD
      have hr3 : ∀ u ∈ zs, RwX K (OffT c H3) u := fun u hu => (hr2 u hu).same (sameT sb3)
      have sb03 := sb2.trans sb3
      by_cases hc : V.int r = V.int 0
      · rw [decide_eq_true hc]
        refine iteT ⟨_, rfl, false, D, zs, rfl, .of hD3, fun _ l hl2 => ?_, fun z => (by cases z)⟩
        exact k _ _ (bnt_t (offT1 upd_same (hC3.ne hl2).1) hne hl fun u hu => (hr3 u hu).same (sameT (new_but hl2))) (hC3.but (same_upd hl2)) (sb03.trans (new_but hl2))
      · rw [decide_eq_false hc]
        exact iteF ⟨_, rfl, k _ _ (bnt_l (offT1 hD3 nDc) hne hl hr3) hC3 sb03⟩
    refine ⟨_, (pss_cons (ps_par3 (i := 2) (j := 3) (l := 4) (by rfl) sc_bent.nd rfl rfl rfl (by decide) (by decide) (by decide) rfl rfl rfl (pa_cons (pe_dn D__law_thread (hr.mono (by decide)) rfl (pa_cons (pv 0) (pa_cons pe_int pa_nil))) (pa_cons (pe_dn D__law_thread (hr.mono (by decide)) rfl (pa_cons (pv 0) (pa_cons (pe_callB (call_lenK K) (by rfl) T.n_len (by decide +kernel) (pa_cons (pv 1) pa_nil)) pa_nil))) (pa_cons (pe_lc (own := [("point", 5)]) (g := gName 5) (tt := tYes) rfl sc_bent.nd (pi_seqK K (pv 1)) (blkOk_by (N := ["loom", "points", "way", "at", "found", "point", "spot", "more", "place", "turn"]) (sc := defScope st__law_bent) (by decide +kernel)) (fun _ _ _ _ _ => (pg_name (i := 5) sc_bent.nd rfl (Or.inl rfl))) (fun _ _ _ _ _ => pts_nil) (fun _ _ _ _ _ => (pe_callTy (call_listK K) (by rfl) T.n_list (by decide +kernel) (pa_cons (pv 5) pa_nil)))) pa_nil))) (by rfl))
    (pss_cons (ps_set (i := 6) sc_bent.nd rfl (Or.inl rfl) (pe_dn D__law_thread (hr.mono (by decide)) rfl (pa_cons (pv 0) (pa_cons (pe_callB (call_lenK K) (by rfl) T.n_len (by decide +kernel) (pa_cons (pv 1) pa_nil)) pa_nil))))
    (pss_cons (ps_if (pt_cmpR op_lt (pv 2) pe_int (nomark _)) (pss_one (ps_asg (pe_dn D__law_one_of (hr.mono (by decide)) rfl (pa_cons (pv 0) (pa_cons (pe_lst (pa_cons pe_bl (pa_cons pe_bl (pa_cons pe_non (pa_cons pe_str (pa_cons (pe_lst pa_nil) (pa_cons (pe_tup (pa_cons pe_int pa_nil)) (pa_cons pe_int (pa_cons (pe_un un_neg pe_int) pa_nil))))))))) pa_nil))) (pg_sub (pe_ix (ix_K K) (pv 4) (pv 3) (fun _ _ => rfl)) (pv 6) set_list))) (pss_one (ps_if (pt_cmpR op_eq (pv 2) pe_int (nomark _)) (pss_one (ps_asg (pe_dn D__law_one_of (hr.mono (by decide)) rfl (pa_cons (pv 0) (pa_cons (pe_lst (pa_cons pe_non (pa_cons pe_int (pa_cons pe_str (pa_cons (pe_tup pa_nil) (pa_cons pe_dnewK (pa_cons (pe_op op_rep (pe_lst (pa_cons pe_int pa_nil)) (pe_callB (call_lenK K) (by rfl) T.n_len (by decide +kernel) (pa_cons (pv 1) pa_nil))) (pa_cons (pe_op op_cat (pe_ix (ix_K K) (pv 4) (pv 3) (fun _ _ => rfl)) (pe_lst (pa_cons pe_int pa_nil))) (pa_cons (pe_slice sl_list (pe_ix (ix_K K) (pv 4) (pv 3) (fun _ _ => rfl)) po_none (po_some (pe_un un_neg pe_int))) pa_nil))))))))) pa_nil))) (pg_sub (pv 4) (pv 3) set_list))) (pss_one (ps_if (pt_cmpR op_eq (pv 2) pe_int (nomark _)) (pss_one (ps_set (i := 4) sc_bent.nd rfl (Or.inl rfl) (pe_op op_cat (pe_slice sl_list (pv 4) po_none (po_some (pv 3))) (pe_slice sl_list (pv 4) (po_some (pe_op op_add (pv 3) pe_int)) po_none)))) (pss_one (ps_if (pt_cmpR op_eq (pv 2) pe_int (nomark _)) (pss_one (ps_set (i := 4) sc_bent.nd rfl (Or.inl rfl) (pe_op op_cat (pe_op op_cat (pe_slice sl_list (pv 4) po_none (po_some (pv 3))) (pe_lst (pa_cons (pe_callTy (call_listK K) (by rfl) T.n_list (by decide +kernel) (pa_cons (pe_ix (ix_K K) (pv 4) (pv 6) (fun _ _ => rfl)) pa_nil)) pa_nil))) (pe_slice sl_list (pv 4) (po_some (pv 3)) po_none)))) (pss_one (ps_if (pt_cmpR op_eq (pv 2) pe_int (nomark _)) (pss_cons (ps_set (i := 7) sc_bent.nd rfl (Or.inr rfl) (pe_dn D__law_one_of (hr.mono (by decide)) rfl (pa_cons (pv 0) (pa_cons (pe_lst (pa_cons pe_int (pa_cons pe_int (pa_cons pe_int (pa_cons pe_int pa_nil))))) pa_nil))))
    (pss_one (ps_setLc (i := 4) (own := [("turn", 9)]) (g := gName 9) (tt := tYes) rfl sc_bent.nd rfl rfl (sw_true rfl rfl rfl (by decide +kernel)) (pi_range1 (by rfl) T.n_range (pa_cons (pv 7) pa_nil)) (blkOk_by (N := ["loom", "points", "way", "at", "found", "point", "spot", "more", "place", "turn"]) (sc := defScope st__law_bent) (by decide +kernel)) (fun _ _ _ _ _ => (pg_name (i := 9) sc_bent.nd rfl (Or.inr rfl))) (fun _ _ _ _ _ => pts_nil) (fun _ _ _ _ _ => (pe_lc (own := [("place", 8)]) (g := gName 8) (tt := tYes) rfl sc_bent.nd (pi_range1 (by rfl) T.n_range (pa_cons (pv 7) pa_nil)) (blkOk_by (N := ["loom", "points", "way", "at", "found", "point", "spot", "more", "place", "turn"]) (sc := scB5) (by decide +kernel)) (fun _ _ _ _ _ => (pg_name (i := 8) sc_bent.nd rfl (Or.inl rfl))) (fun _ _ _ _ _ => pts_nil) (fun _ _ _ _ _ => (pe_callTy call_int1 (by rfl) T.n_int (by decide +kernel) (pa_cons (pe_cmpR op_eq (pv 8) (pv 9) (nomark _)) pa_nil)))))))) (pss_one (ps_ret (pe_dn D__law_one_of (hr.mono (by decide)) rfl (pa_cons (pv 0) (pa_cons (pe_lst (pa_cons pe_non (pa_cons pe_int (pa_cons pe_str (pa_cons pe_dnewK (pa_cons (pe_lst pa_nil) (pa_cons (pe_tup pa_nil) (pa_cons (pe_lst (pa_cons (pe_lst pa_nil) pa_nil)) (pa_cons (pe_lst (pa_cons (pe_lst (pa_cons pe_int pa_nil)) pa_nil)) (pa_cons pe_bl (pa_cons (pe_tup (pa_cons (pe_tup (pa_cons pe_int (pa_cons pe_int pa_nil))) (pa_cons (pe_lst (pa_cons pe_int (pa_cons pe_int pa_nil))) pa_nil))) (pa_cons (pe_lst (pa_cons (pe_lst (pa_cons pe_int (pa_cons pe_int pa_nil))) (pa_cons (pe_lst (pa_cons pe_int (pa_cons pe_int pa_nil))) pa_nil))) pa_nil)))))))))))) pa_nil))))))))))))))
    h4))), ?_⟩
    refine ⟨_, rfl, c, d, ns, m, 7, rfl, hC, by omega, by decide, small9000 (by decide), fun way H1 w0 w8 hC1 sb1 => ?_⟩
    have hul : us0.length = M.length := hRw.1
    have ha1 := sb1 _ _ nac ha
    refine ⟨_, rfl, _, rfl, false, a, us0, rfl, .of ha1, c, d, ns, m + 1, (us0.length : Nat), rfl, hC1, by omega, by omega, natAbs_small (k := 0) (by omega), fun at' H2 a0 a1 hC2 sb2 => ?_⟩
    obtain ⟨at', rfl⟩ : ∃ n : Nat, at' = (n : Int) := ⟨at'.toNat, by omega⟩
    have hat : at' < M.length := by omega
    have ha2 := sb2 _ _ nac ha1
    have sb02 := sb1.trans sb2
    have hRw2 : Rws H2 c a us0 M := hRw.mono fun b o n _ e => sb02 b o n e
    refine ⟨_, rfl, false, a, rfl, ⟨_, .of ha2⟩, fun D hD => lc_rel (R := fun i y H => ∃ (q : Addr) (x : Vec), y = .ref q ∧ M[i]? = some x ∧ H2 q = none ∧ H q = some (.lst (x.map V.int))) (walk_seq (b := false)) hD (Nat.lt_of_le_of_lt (by omega : us0.length ≤ 16) (by decide)) (fun H3 s3 => .of (s3 _ _ ha2))
      (fun i y H H' s ⟨q, x, e1, e2, e3, t⟩ => ⟨q, x, e1, e2, e3, s _ _ t⟩) ?_ ?_⟩
    · rintro i x H3 H4 hi s3 ⟨acc, hacc⟩ ⟨rfl, hx⟩ Rk kk
      obtain ⟨q, rfl, _, _, hq⟩ := hRw2.2 i x _ hx (List.getElem?_eq_getElem (by omega : i < M.length))
      refine ⟨rfl, _, rfl, false, q, _, rfl, .of (s3 _ _ hq), fun l hl => kk _ _ (same_upd hl) ⟨l, _, rfl, List.getElem?_eq_getElem (by omega : i < M.length), ?_, ?_⟩⟩
      · cases e : H2 l with
        | none => rfl
        | some o => rw [s3 _ _ e] at hl; cases hl
      · rw [off_ne (fun e => by rw [e, hacc] at hl; cases hl)]
        exact upd_same
    rintro H3 ⟨us, lus, hD3, s3, hr3⟩
    have hF3 : Fnd H2 H3 c D us M := by
      obtain ⟨nDc, _⟩ := hC2.ne hD
      refine ⟨hD, nDc, hD3, by rw [lus, hul], fun i u e => ?_⟩
      obtain ⟨q, x, e1, e2, e3, t⟩ := hr3 i u e
      refine ⟨q, x, e1, e2, fun z => ?_, (hC2.ne e3).1, e3, off_same _ _ _ _ t⟩
      rw [z, off_self] at t
      cases t
    refine ⟨_, _, _, rfl, ?_⟩
    have hF4 := hF3
    have hC4 := hC2.but s3
    have sb4 := sb02.trans (SameBut.of s3)
    have ha4 := s3 _ _ ha2
    generalize H3 = H4 at hF4 hC4 sb4 ha4 ⊢
    -- spot
    refine ⟨_, rfl, _, rfl, false, a, us0, rfl, .of ha4, c, d, ns, m + 2, (us0.length : Nat), rfl, hC4, by omega, by omega, natAbs_small (k := 0) (by omega), fun spot H5 p0 p1 hC5 sb5 => ?_⟩
    obtain ⟨spot, rfl⟩ : ∃ n : Nat, spot = (n : Int) := ⟨spot.toNat, by omega⟩
    have hsp : spot < M.length := by omega
    have hF5 := hF4.mono sb5
    have sb05 := sb4.trans sb5
    have ha5 := sb5 _ _ nac ha4
    have hatu : at' < us.length := by rw [hF5.2.2.2.1]; exact hat
    have husne : us ≠ [] := by rw [← List.length_pos_iff]; omega
    have hus20 : us.length ≤ 20 := by rw [hF5.2.2.2.1]; omega
    have hlus : us.length = M.length := hF5.2.2.2.1
    have hDH : H D = none := none_back sb02 hF5.2.1 hF5.1
    have hrows : ∀ {Hb H7 : Hp} {v : V}, SameBut c H5 Hb → SameBut c Hb H7 → RwX K (Off D (OffT c Hb)) v → ∀ u ∈ us.set at' v, RwX K (OffT c (upd H7 D (.lst (us.set at' v)))) u := by
      intro Hb H7 v sa sb hv u hu
      rcases List.mem_or_eq_of_mem_set hu with z | z
      · obtain ⟨i, hi⟩ := List.mem_iff_getElem?.mp z
        obtain ⟨q2, x, rfl, b2, b3, b4, _, b6⟩ := ((hF5.mono sa).mono sb).2.2.2.2 i u hi
        have hm := List.mem_of_getElem? b2
        exact rx_ints (offT1 (by rw [upd_ne b3]; exact b6) b4) (by have := (hw x hm).2; omega) fun b hb' => Nat.lt_of_le_of_lt (hb x hm b hb') (by decide)
      · rw [z]; exact hv.same (off2_put sb)
    -- ways
    refine ⟨_, rfl, _, _, rfl, rfl, _, rfl, ?_⟩
    by_cases c0 : way < 2
    · rw [decide_eq_true c0]
      refine iteT ?_
      refine ⟨_, rfl, (by show 0 ≤ sizeLine; decide), fun p1 hp1 => ?_⟩
      have n1 : p1 ≠ c := fresh1 hC5 (Same.refl H5) hp1
      have s1 := same_upd (o := .lst []) hp1
      have z1 : upd H5 p1 (.lst []) p1 = some (.lst []) := upd_same
      have t1 := s1
      generalize upd H5 p1 (.lst []) = G1 at s1 t1 z1 ⊢
      refine ⟨(by show 1 ≤ sizeLine; decide), fun p2 hp2 => ?_⟩
      have n2 : p2 ≠ c := fresh1 hC5 t1 hp2
      have s2 := same_upd (o := .tup [.int 2]) hp2
      have z2 : upd G1 p2 (.tup [.int 2]) p2 = some (.tup [.int 2]) := upd_same
      have t2 := t1.trans s2
      replace z1 := s2 _ _ z1
      generalize upd G1 p2 (.tup [.int 2]) = G2 at s2 t2 z2 z1 ⊢
      refine ⟨2, rfl, (by show 8 ≤ sizeLine; decide), fun L hL => ?_⟩
      have nL := fresh1 hC5 t2 hL
      have sL := same_upd (o := .lst [.bl true, .bl false, .non, .str (Str.ofString "0"), .ref p1, .ref p2, .int 5, .int (-2)]) hL
      have tL := t2.trans sL
      refine ⟨c, d, ns, m + 3, false, L, [.bl true, .bl false, .non, .str (Str.ofString "0"), .ref p1, .ref p2, .int 5, .int (-2)], rfl, hC5.but tL, by omega, .of (off1 upd_same nL), Nat.le_of_ble_eq_true rfl, Nat.le_of_ble_eq_true rfl, fun iz y H7 hy hC7 sb7 => ?_⟩
      have hF7 := (hF5.mono (SameBut.of tL)).mono sb7
      obtain ⟨q, hqi, nqD, nqc, hq2, hqx⟩ := hF7.get hat
      obtain ⟨q', hqi', _, _, _, hqx'⟩ := hF5.get hat
      obtain rfl : q' = q := by rw [hqi] at hqi'; cases hqi'; rfl
      have nq1 : p1 ≠ q' := fun e => by rw [e, hqx'] at hp1; cases hp1
      have nq2 : p2 ≠ q' := fun e => by have := s1 _ _ hqx'; rw [← e, hp2] at this; cases this
      have hqH : H q' = none := none_back sb02 nqc hq2
      have hlw : spot < ((M[at'].map V.int).length) := by rw [List.length_map, hwd _ (List.getElem_mem hat)]; omega
      refine ⟨_, rfl, _, rfl, false, D, us, (at' : Nat), .ref q', rfl, rfl, .of hF7.2.2.1, atI_nat hqi, _, rfl, q', _, (spot : Nat), spot, rfl, rfl, hqx, ixN_nat hlw, ?_⟩
      have hcell : Cell K (OffT c (upd H7 q' (.lst ((M[at'].map V.int).set spot y)))) y := by
        refine Cell.same (off2_put sb7) (all_get (p := fun y => Cell K (Off q' (OffT c (upd G2 L _))) y) ?_ hy)
        have o1 := off2 (sL _ _ z1) nq1 n1
        have o2 := off2 (sL _ _ z2) nq2 n2
        intro y' hy'
        simp only [List.mem_cons, List.not_mem_nil, or_false] at hy'
        rcases hy' with rfl | rfl | rfl | rfl | rfl | rfl | rfl | rfl
        · exact .bl _
        · exact .bl _
        · exact .non
        · exact .str (by decide +kernel)
        · exact .lst o1 (by decide) fun y hy => absurd hy List.not_mem_nil
        · exact cell_tup o2
        · exact .int (by decide)
        · exact .int (by decide)
      refine fin none _ D us way (at' : Nat) (spot : Nat) hF7.2.1 ?_ husne hus20 ?_ (((hC7.upd nqc (hC.ne hqH).2)).more (by omega)) (((sb05.trans (SameBut.of tL)).trans sb7).put hqH)
      · rw [upd_ne (Ne.symm nqD)]; exact hF7.2.2.1
      · intro u hu
        obtain ⟨i, hi⟩ := List.mem_iff_getElem?.mp hu
        obtain ⟨q2, x, rfl, b2, _, b4, _, b6⟩ := hF7.2.2.2.2 i u hi
        by_cases e : q2 = q'
        · subst e
          refine rx_cells (offT1 upd_same nqc) (by rw [List.length_set, List.length_map]; have := (hw _ (List.getElem_mem hat)).2; omega) fun y' hy' => ?_
          rcases List.mem_or_eq_of_mem_set hy' with z | z
          · exact int_cells (hb _ (List.getElem_mem hat)) y' z
          · rw [z]; exact hcell
        · have hm := List.mem_of_getElem? b2
          exact rx_ints (offT1 (by rw [upd_ne e]; exact b6) b4) (by have := (hw x hm).2; omega) fun b hb' => Nat.lt_of_le_of_lt (hb x hm b hb') (by decide)
    rw [decide_eq_false c0]
    refine iteF ⟨_, rfl, rfl, _, rfl, ?_⟩
    by_cases c2 : V.int way = V.int 2
    · rw [decide_eq_true c2]
      refine iteT ?_
      obtain ⟨q, hqi, nqD, nqc, hq2, hqx⟩ := hF5.get hat
      refine ⟨_, rfl, (by show 0 ≤ sizeLine; decide), fun p1 hp1 => ?_⟩
      have n1 : p1 ≠ c := fresh1 hC5 (Same.refl H5) hp1
      have s1 := same_upd (o := .tup []) hp1
      have z1 : upd H5 p1 (.tup []) p1 = some (.tup []) := upd_same
      have t1 := s1
      generalize upd H5 p1 (.tup []) = G1 at s1 t1 z1 ⊢
      intro p2 hp2
      have n2 : p2 ≠ c := fresh1 hC5 t1 hp2
      have s2 := same_upd (o := .dK []) hp2
      have z2 : upd G1 p2 (.dK []) p2 = some (.dK []) := upd_same
      have t2 := t1.trans s2
      replace z1 := s2 _ _ z1
      generalize upd G1 p2 (.dK []) = G2 at s2 t2 z2 z1 ⊢
      refine ⟨(by show 1 ≤ sizeLine; decide), fun p3 hp3 => ?_⟩
      have n3 : p3 ≠ c := fresh1 hC5 t2 hp3
      have s3 := same_upd (o := .lst [.int 0]) hp3
      have z3 : upd G2 p3 (.lst [.int 0]) p3 = some (.lst [.int 0]) := upd_same
      have t3 := t2.trans s3
      replace z1 := s3 _ _ z1
      replace z2 := s3 _ _ z2
      generalize upd G2 p3 (.lst [.int 0]) = G3 at s3 t3 z3 z1 z2 ⊢
      have kz : ((us0.length : Nat) : Int).toNat ≤ 8 := by omega
      refine ⟨_, rfl, false, a, us0, rfl, .of (t3 _ _ ha5), p3, _, [.int 0], rfl, rfl, z3, by omega, by omega, Nat.le_trans (by show 1 * ((us0.length : Nat) : Int).toNat ≤ 8; omega) (by decide), fun p4 hp4 => ?_⟩
      have n4 : p4 ≠ c := fresh1 hC5 t3 hp4
      have s4 := same_upd (o := .lst (List.replicate ((us0.length : Nat) : Int).toNat [V.int 0]).flatten) hp4
      have z4 : upd G3 p4 (.lst (List.replicate ((us0.length : Nat) : Int).toNat [V.int 0]).flatten) p4 = _ := upd_same
      have t4' := t3.trans s4
      replace z1 := s4 _ _ z1
      replace z2 := s4 _ _ z2
      generalize upd G3 p4 (.lst (List.replicate ((us0.length : Nat) : Int).toNat [V.int 0]).flatten) = G4 at s4 z4 t4' z1 z2 ⊢
      refine ⟨_, rfl, _, rfl, false, D, us, (at' : Nat), .ref q, rfl, rfl, .of (t4' _ _ hF5.2.2.1), atI_nat hqi, (by show 1 ≤ sizeLine; decide), fun p5 hp5 => ?_⟩
      have s5 := same_upd (o := .lst [.int 0]) hp5
      have z5 : upd G4 p5 (.lst [.int 0]) p5 = some (.lst [.int 0]) := upd_same
      have t5 := t4'.trans s5
      replace z1 := s5 _ _ z1
      replace z2 := s5 _ _ z2
      replace z4 := s5 _ _ z4
      generalize upd G4 p5 (.lst [.int 0]) = G5 at s5 z5 t5 z1 z2 z4 ⊢
      have hlq : ((M[at'].map V.int)).length ≤ 6 := by rw [List.length_map]; exact (hw _ (List.getElem_mem hat)).2
      refine ⟨q, p5, _, _, rfl, rfl, t5 _ _ hqx, z5, Nat.le_trans (by simp only [List.length_cons, List.length_nil]; omega : (M[at'].map V.int).length + [V.int 0].length ≤ 9) (by decide), fun p6 hp6 => ?_⟩
      have n6 : p6 ≠ c := fresh1 hC5 t5 hp6
      have m6' : p6 ≠ D := fun e => by have := t5 _ _ hF5.2.2.1; rw [← e, hp6] at this; cases this
      have s6 := same_upd (o := .lst (M[at'].map V.int ++ [V.int 0])) hp6
      have z6 : upd G5 p6 (.lst (M[at'].map V.int ++ [V.int 0])) p6 = _ := upd_same
      have t6 := t5.trans s6
      replace z1 := s6 _ _ z1
      replace z2 := s6 _ _ z2
      replace z4 := s6 _ _ z4
      generalize upd G5 p6 (.lst (M[at'].map V.int ++ [V.int 0])) = G6 at s6 z6 t6 z1 z2 z4 ⊢
      refine ⟨_, rfl, _, rfl, false, D, us, (at' : Nat), .ref q, rfl, rfl, .of (t6 _ _ hF5.2.2.1), atI_nat hqi, 1, rfl, _, rfl, q, _, rfl, .of (t6 _ _ hqx), fun p7 hp7 => ?_⟩
      have n7 : p7 ≠ c := fresh1 hC5 t6 hp7
      have m7 : p7 ≠ D := fun e => by have := t6 _ _ hF5.2.2.1; rw [← e, hp7] at this; cases this
      have s7 := same_upd (o := .lst (cutV (M[at'].map V.int) none (some (-1)))) hp7
      have z7 : upd G6 p7 (.lst (cutV (M[at'].map V.int) none (some (-1)))) p7 = _ := upd_same
      have t7 := t6.trans s7
      replace z1 := s7 _ _ z1
      replace z2 := s7 _ _ z2
      replace z4 := s7 _ _ z4
      replace z6 := s7 _ _ z6
      generalize upd G6 p7 (.lst (cutV (M[at'].map V.int) none (some (-1)))) = G7 at s7 z7 t7 z1 z2 z4 z6 ⊢
      refine ⟨(by show 8 ≤ sizeLine; decide), fun L hL => ?_⟩
      have nL := fresh1 hC5 t7 hL
      have sL := same_upd (o := .lst [.non, .int 1, .str (Str.ofString "abc"), .ref p1, .ref p2, .ref p4, .ref p6, .ref p7]) hL
      have tL := t7.trans sL
      refine ⟨c, d, ns, m + 3, false, L, [.non, .int 1, .str (Str.ofString "abc"), .ref p1, .ref p2, .ref p4, .ref p6, .ref p7], rfl, hC5.but tL, by omega, .of (off1 upd_same nL), Nat.le_of_ble_eq_true rfl, Nat.le_of_ble_eq_true rfl, fun iz y H7 hy hC7 sb7 => ?_⟩
      have hF7 := (hF5.mono (SameBut.of tL)).mono sb7
      have hDt : ∀ {G : Hp} {p : Addr}, Same H5 G → G p = none → p ≠ D := fun s e z => by have := s _ _ hF5.2.2.1; rw [← z, e] at this; cases this
      have m1 := hDt (Same.refl H5) hp1
      have m2 := hDt t1 hp2
      have m4 := hDt t3 hp4
      refine ⟨_, rfl, _, rfl, D, us, (at' : Nat), at', rfl, rfl, hF7.2.2.1, ixN_nat hatu, ?_⟩
      refine fin none _ D (us.set at' y) way (at' : Nat) (spot : Nat) hF7.2.1 upd_same (by rw [← List.length_pos_iff, List.length_set]; omega) (by rw [List.length_set]; exact hus20) (hrows (SameBut.of tL) sb7 ?_) ((hC7.upd hF7.2.1 (hC.ne hDH).2).more (by omega)) (((sb05.trans (SameBut.of tL)).trans sb7).put hDH)
      refine all_get (p := fun y => RwX K (Off D (OffT c (upd G7 L _))) y) ?_ hy
      have o1 := off2 (sL _ _ z1) m1 n1
      have o2 := off2 (sL _ _ z2) m2 n2
      have o4 := off2 (sL _ _ z4) m4 n4
      have o6 := off2 (sL _ _ z6) m6' n6
      have o7 := off2 (sL _ _ z7) m7 n7
      intro y' hy'
      simp only [List.mem_cons, List.not_mem_nil, or_false] at hy'
      rcases hy' with rfl | rfl | rfl | rfl | rfl | rfl | rfl | rfl
      · exact rx_non
      · exact rx_int (by decide)
      · exact rx_str (by decide +kernel)
      · exact rx_tup o1 (by decide) no_cells
      · exact rx_dict o2
      · exact rx_cells o4 (by rw [rep_len]; omega) fun y hy => by rw [rep_mem hy]; exact .int (by decide)
      · refine rx_cells o6 (by rw [List.length_append]; simp only [List.length_cons, List.length_nil]; omega) fun y hy => ?_
        rcases List.mem_append.mp hy with z | z
        · exact int_cells (hb _ (List.getElem_mem hat)) y z
        · rw [List.mem_singleton.mp z]; exact .int (by decide)
      · exact rx_cells o7 (Nat.le_trans (cutV_length ..) (by omega)) fun y hy => int_cells (hb _ (List.getElem_mem hat)) y (cutV_mem hy)
    rw [decide_eq_false c2]
    refine iteF ⟨_, rfl, rfl, _, rfl, ?_⟩
    by_cases c3 : V.int way = V.int 3
    · rw [decide_eq_true c3]
      refine iteT ?_
      refine ⟨_, rfl, _, rfl, (at' : Nat), rfl, D, us, rfl, .of hF5.2.2.1, fun p1 hp1 => ?_⟩
      rw [cut_to]
      have t1 := same_upd (o := .lst (us.take at')) hp1
      have y1 : upd H5 p1 (.lst (us.take at')) p1 = some (.lst (us.take at')) := upd_same
      generalize upd H5 p1 (.lst (us.take at')) = G1 at t1 y1 ⊢
      refine ⟨_, rfl, _, rfl, _, 1, rfl, rfl, _, rfl, D, us, rfl, .of (t1 _ _ hF5.2.2.1), fun p2 hp2 => ?_⟩
      have ec : cutV us (some (((at' : Nat) : Int) + 1)) none = us.drop (at' + 1) := cut_from us (at' + 1)
      rw [ec]
      have t2 := same_upd (o := .lst (us.drop (at' + 1))) hp2
      refine ⟨p1, p2, _, _, rfl, rfl, t2 _ _ y1, upd_same, Nat.le_trans (by rw [List.length_take, List.length_drop]; omega : (us.take at').length + (us.drop (at' + 1)).length ≤ 20) (by decide), fun Z hZ => ?_⟩
      have t12 := t1.trans t2
      have sZ := same_upd (o := .lst (us.take at' ++ us.drop (at' + 1))) hZ
      have tZ := t12.trans sZ
      refine fin none _ Z (us.take at' ++ us.drop (at' + 1)) way (at' : Nat) (spot : Nat) (fresh1 hC5 t12 hZ) upd_same (by rw [← List.length_pos_iff, List.length_append, List.length_take, List.length_drop]; omega) (by rw [List.length_append, List.length_take, List.length_drop]; omega) ?_ ((hC5.but tZ).more (by omega)) (sb05.trans (SameBut.of tZ))
      intro u hu
      refine (hF5.mono (SameBut.of tZ)).rx hw6 hb u ?_
      rcases List.mem_append.mp hu with z | z
      · exact List.mem_of_mem_take z
      · exact List.mem_of_mem_drop z
    rw [decide_eq_false c3]
    refine iteF ⟨_, rfl, rfl, _, rfl, ?_⟩
    by_cases c4 : V.int way = V.int 4
    · rw [decide_eq_true c4]
      refine iteT ?_
      obtain ⟨q, hqi, nqD, nqc, hq2, hqx⟩ := hF5.get (i := spot) hsp
      refine ⟨_, rfl, _, rfl, (at' : Nat), rfl, D, us, rfl, .of hF5.2.2.1, fun p1 hp1 => ?_⟩
      rw [cut_to]
      have t1 := same_upd (o := .lst (us.take at')) hp1
      have y1 : upd H5 p1 (.lst (us.take at')) p1 = some (.lst (us.take at')) := upd_same
      generalize upd H5 p1 (.lst (us.take at')) = G1 at t1 y1 ⊢
      refine ⟨_, rfl, _, rfl, false, D, us, (spot : Nat), .ref q, rfl, rfl, .of (t1 _ _ hF5.2.2.1), atI_nat hqi, false, q, _, rfl, .of (t1 _ _ hqx), fun p2 hp2 => ⟨(by show 1 ≤ sizeLine; decide), fun p3 hp3 => ?_⟩⟩
      have n2 := fresh1 hC5 t1 hp2
      have s2 := same_upd (o := .lst (((M[spot]'hsp)).map V.int)) hp2
      have s3 := same_upd (o := .lst [.ref p2]) hp3
      have y2 : upd (upd G1 p2 (.lst (((M[spot]'hsp)).map V.int))) p3 (.lst [.ref p2]) p2 = some (.lst (((M[spot]'hsp)).map V.int)) := s3 _ _ upd_same
      have t3 := t1.trans (s2.trans s3)
      have y1' := (s2.trans s3) _ _ y1
      have y3 : upd (upd G1 p2 (.lst (((M[spot]'hsp)).map V.int))) p3 (.lst [.ref p2]) p3 = some (.lst [.ref p2]) := upd_same
      generalize upd (upd G1 p2 (.lst (((M[spot]'hsp)).map V.int))) p3 (.lst [.ref p2]) = G3 at t3 y1' y2 y3 ⊢
      refine ⟨p1, p3, _, _, rfl, rfl, y1', y3, Nat.le_trans (by rw [List.length_take]; simp only [List.length_cons, List.length_nil]; omega : (us.take at').length + [V.ref p2].length ≤ 20) (by decide), fun p4 hp4 => ?_⟩
      have s4 := same_upd (o := .lst (us.take at' ++ [V.ref p2])) hp4
      have y4 : upd G3 p4 (.lst (us.take at' ++ [V.ref p2])) p4 = some (.lst (us.take at' ++ [V.ref p2])) := upd_same
      have t4' := t3.trans s4
      replace y2 := s4 _ _ y2
      generalize upd G3 p4 (.lst (us.take at' ++ [V.ref p2])) = G4 at s4 y4 t4' y2 ⊢
      refine ⟨_, rfl, _, rfl, (at' : Nat), rfl, D, us, rfl, .of (t4' _ _ hF5.2.2.1), fun p5 hp5 => ?_⟩
      rw [cut_from]
      have s5 := same_upd (o := .lst (us.drop at')) hp5
      refine ⟨p4, p5, _, _, rfl, rfl, s5 _ _ y4, upd_same, Nat.le_trans (by rw [List.length_append, List.length_take, List.length_drop]; simp only [List.length_cons, List.length_nil]; omega : (us.take at' ++ [V.ref p2]).length + (us.drop at').length ≤ 20) (by decide), fun Z hZ => ?_⟩
      have t5 := t4'.trans s5
      have sZ := same_upd (o := .lst ((us.take at' ++ [V.ref p2]) ++ us.drop at')) hZ
      have tZ := t5.trans sZ
      refine fin none _ Z ((us.take at' ++ [V.ref p2]) ++ us.drop at') way (at' : Nat) (spot : Nat) (fresh1 hC5 t5 hZ) upd_same (by simp) (by rw [List.length_append, List.length_append, List.length_take, List.length_drop]; simp only [List.length_cons, List.length_nil]; omega) ?_ ((hC5.but tZ).more (by omega)) (sb05.trans (SameBut.of tZ))
      intro u hu
      have old := (hF5.mono (SameBut.of tZ)).rx (K := K) hw6 hb
      rcases List.mem_append.mp hu with z | z
      · rcases List.mem_append.mp z with z | z
        · exact old u (List.mem_of_mem_take z)
        · rw [List.mem_singleton.mp z]
          have hm := List.getElem_mem hsp
          exact rx_ints (offT1 (sZ _ _ (s5 _ _ y2)) n2) (by have := (hw _ hm).2; omega) fun b hb' => Nat.lt_of_le_of_lt (hb _ hm b hb') (by decide)
      · exact old u (List.mem_of_mem_drop z)
    rw [decide_eq_false c4]
    refine iteF ⟨_, rfl, rfl, _, rfl, ?_⟩
    by_cases c5 : V.int way = V.int 5
    · rw [decide_eq_true c5]
      refine iteT ?_
      refine ⟨_, rfl, (by show 4 ≤ sizeLine; decide), fun L hL => ?_⟩
      have nL := (hC5.ne hL).1
      have tL := same_upd (o := .lst [.int 1, .int 7, .int 6, .int 2]) hL
      refine ⟨c, d, ns, m + 3, false, L, _, rfl, hC5.but tL, by omega, .of (off1 upd_same nL), by decide, by decide, fun iz y H6 hy hC6 sb6 => ?_⟩
      obtain ⟨mr, rfl, l1, l2⟩ : ∃ k : Nat, y = .int (k : Nat) ∧ 1 ≤ k ∧ k ≤ 7 := by
        refine all_get (p := fun y => ∃ k : Nat, y = .int (k : Nat) ∧ 1 ≤ k ∧ k ≤ 7) ?_ hy
        intro y' hy'
        simp only [List.mem_cons, List.not_mem_nil, or_false] at hy'
        rcases hy' with rfl | rfl | rfl | rfl
        · exact ⟨1, rfl, by decide, by decide⟩
        · exact ⟨7, rfl, by decide, by decide⟩
        · exact ⟨6, rfl, by decide, by decide⟩
        · exact ⟨2, rfl, by decide, by decide⟩
      have sb06 := sb05.trans ((SameBut.of tL).trans sb6)
      refine ⟨_, rfl, _, rfl, by omega, by omega, fun E hE => lc_rel (R := fun _ y H => IRow c H y) walk_range hE (Nat.lt_of_le_of_lt (by omega : _ ≤ 7) (by decide)) (fun _ _ => trivial) (fun i y H H' s h => h.same s) ?_ ?_⟩
      · rintro i x H7 H8 hi s7 ⟨acc, hacc⟩ ⟨rfl, rfl⟩ Rk kk
        refine ⟨rfl, _, rfl, _, rfl, by omega, by omega, fun D9 hD9 => lc_fun (fun t => V.int (if (t : Int) = (i : Int) then 1 else 0)) walk_range hD9 (Nat.lt_of_le_of_lt (by omega : _ ≤ 7) (by decide)) (fun _ _ => trivial) ?_ ?_⟩
        · rintro t v H9 H10 ht s9 _ ⟨rfl, rfl⟩ Rk2 kk2
          refine ⟨rfl, _, rfl, _, rfl, rfl, .inr ⟨_, rfl, ?_⟩⟩
          have e := kk2 _ (Same.refl _)
          by_cases hti : (t : Int) = (i : Int)
          · rw [if_pos hti] at e
            have e2 : decide (V.int (0 + (t : Int)) = V.int (0 + (i : Int))) = true := by rw [hti]; exact decide_eq_true rfl
            rw [e2]
            exact e
          · rw [if_neg hti] at e
            have e2 : decide (V.int (0 + (t : Int)) = V.int (0 + (i : Int))) = false := decide_eq_false fun z => hti (by have := V.int.inj z; omega)
            rw [e2]
            exact e
        · intro H9 hD9' s9
          refine kk _ _ s9 ⟨D9, (List.range ((mr : Nat) : Int).toNat).map fun t : Nat => V.int (if (t : Int) = (i : Int) then 1 else 0), rfl, fresh1 hC6 s7 hD9, ?_, by rw [List.length_map, List.length_range]; omega, fun y hy => ?_⟩
          · rw [off_ne (fun e => by rw [e, hacc] at hD9; cases hD9)]
            exact hD9'
          · obtain ⟨t, _, rfl⟩ := List.mem_map.mp hy
            exact ⟨_, rfl, by split <;> decide⟩
      rintro H7 ⟨acc, la, hE7, s7, hr7⟩
      refine fin (some (.int (mr : Nat))) _ E acc way (at' : Nat) (spot : Nat) (hC6.ne hE).1 hE7 (by rw [← List.length_pos_iff]; omega) (by omega) ?_ ((hC6.but s7).more (by omega)) (sb06.trans (SameBut.of s7))
      intro u hu
      obtain ⟨i, hi⟩ := List.mem_iff_getElem?.mp hu
      exact ((hr7 i u hi).same (off_same _ _)).rx
    rw [decide_eq_false c5]
    refine iteF ?_
    refine ⟨_, rfl, fun p1 hp1 => ?_⟩
    have n1 : p1 ≠ c := fresh1 hC5 (Same.refl H5) hp1
    have s1 := same_upd (o := .dK []) hp1
    have z1 : upd H5 p1 (.dK []) p1 = some (.dK []) := upd_same
    have t1 := s1
    generalize upd H5 p1 (.dK []) = G1 at s1 t1 z1 ⊢
    refine ⟨(by show 0 ≤ sizeLine; decide), fun p2 hp2 => ?_⟩
    have n2 : p2 ≠ c := fresh1 hC5 t1 hp2
    have s2 := same_upd (o := .lst []) hp2
    have z2 : upd G1 p2 (.lst []) p2 = some (.lst []) := upd_same
    have t2 := t1.trans s2
    replace z1 := s2 _ _ z1
    generalize upd G1 p2 (.lst []) = G2 at s2 t2 z2 z1 ⊢
    refine ⟨(by show 0 ≤ sizeLine; decide), fun p3 hp3 => ?_⟩
    have n3 : p3 ≠ c := fresh1 hC5 t2 hp3
    have s3 := same_upd (o := .tup []) hp3
    have z3 : upd G2 p3 (.tup []) p3 = some (.tup []) := upd_same
    have t3 := t2.trans s3
    replace z1 := s3 _ _ z1
    replace z2 := s3 _ _ z2
    generalize upd G2 p3 (.tup []) = G3 at s3 t3 z3 z1 z2 ⊢
    refine ⟨(by show 0 ≤ sizeLine; decide), fun p4 hp4 => ?_⟩
    have n4 : p4 ≠ c := fresh1 hC5 t3 hp4
    have s4 := same_upd (o := .lst []) hp4
    have z4 : upd G3 p4 (.lst []) p4 = some (.lst []) := upd_same
    have t4 := t3.trans s4
    replace z1 := s4 _ _ z1
    replace z2 := s4 _ _ z2
    replace z3 := s4 _ _ z3
    generalize upd G3 p4 (.lst []) = G4 at s4 t4 z4 z1 z2 z3 ⊢
    refine ⟨(by show 1 ≤ sizeLine; decide), fun p5 hp5 => ?_⟩
    have n5 : p5 ≠ c := fresh1 hC5 t4 hp5
    have s5 := same_upd (o := .lst [.ref p4]) hp5
    have z5 : upd G4 p5 (.lst [.ref p4]) p5 = some (.lst [.ref p4]) := upd_same
    have t5 := t4.trans s5
    replace z1 := s5 _ _ z1
    replace z2 := s5 _ _ z2
    replace z3 := s5 _ _ z3
    replace z4 := s5 _ _ z4
    generalize upd G4 p5 (.lst [.ref p4]) = G5 at s5 t5 z5 z1 z2 z3 z4 ⊢
    refine ⟨(by show 1 ≤ sizeLine; decide), fun p6 hp6 => ?_⟩
    have n6 : p6 ≠ c := fresh1 hC5 t5 hp6
    have s6 := same_upd (o := .lst [.int 4]) hp6
    have z6 : upd G5 p6 (.lst [.int 4]) p6 = some (.lst [.int 4]) := upd_same
    have t6 := t5.trans s6
    replace z1 := s6 _ _ z1
    replace z2 := s6 _ _ z2
    replace z3 := s6 _ _ z3
    replace z4 := s6 _ _ z4
    replace z5 := s6 _ _ z5
    generalize upd G5 p6 (.lst [.int 4]) = G6 at s6 t6 z6 z1 z2 z3 z4 z5 ⊢
    refine ⟨(by show 1 ≤ sizeLine; decide), fun p7 hp7 => ?_⟩
    have n7 : p7 ≠ c := fresh1 hC5 t6 hp7
    have s7 := same_upd (o := .lst [.ref p6]) hp7
    have z7 : upd G6 p7 (.lst [.ref p6]) p7 = some (.lst [.ref p6]) := upd_same
    have t7 := t6.trans s7
    replace z1 := s7 _ _ z1
    replace z2 := s7 _ _ z2
    replace z3 := s7 _ _ z3
    replace z4 := s7 _ _ z4
    replace z5 := s7 _ _ z5
    replace z6 := s7 _ _ z6
    generalize upd G6 p7 (.lst [.ref p6]) = G7 at s7 t7 z7 z1 z2 z3 z4 z5 z6 ⊢
    refine ⟨(by show 2 ≤ sizeLine; decide), fun p8 hp8 => ?_⟩
    have n8 : p8 ≠ c := fresh1 hC5 t7 hp8
    have s8 := same_upd (o := .tup [.int 1, .int 2]) hp8
    have z8 : upd G7 p8 (.tup [.int 1, .int 2]) p8 = some (.tup [.int 1, .int 2]) := upd_same
    have t8 := t7.trans s8
    replace z1 := s8 _ _ z1
    replace z2 := s8 _ _ z2
    replace z3 := s8 _ _ z3
    replace z4 := s8 _ _ z4
    replace z5 := s8 _ _ z5
    replace z6 := s8 _ _ z6
    replace z7 := s8 _ _ z7
    generalize upd G7 p8 (.tup [.int 1, .int 2]) = G8 at s8 t8 z8 z1 z2 z3 z4 z5 z6 z7 ⊢
    refine ⟨(by show 2 ≤ sizeLine; decide), fun p9 hp9 => ?_⟩
    have n9 : p9 ≠ c := fresh1 hC5 t8 hp9
    have s9 := same_upd (o := .lst [.int 3, .int 5]) hp9
    have z9 : upd G8 p9 (.lst [.int 3, .int 5]) p9 = some (.lst [.int 3, .int 5]) := upd_same
    have t9 := t8.trans s9
    replace z1 := s9 _ _ z1
    replace z2 := s9 _ _ z2
    replace z3 := s9 _ _ z3
    replace z4 := s9 _ _ z4
    replace z5 := s9 _ _ z5
    replace z6 := s9 _ _ z6
    replace z7 := s9 _ _ z7
    replace z8 := s9 _ _ z8
    generalize upd G8 p9 (.lst [.int 3, .int 5]) = G9 at s9 t9 z9 z1 z2 z3 z4 z5 z6 z7 z8 ⊢
    refine ⟨(by show 2 ≤ sizeLine; decide), fun p10 hp10 => ?_⟩
    have n10 : p10 ≠ c := fresh1 hC5 t9 hp10
    have s10 := same_upd (o := .tup [.ref p8, .ref p9]) hp10
    have z10 : upd G9 p10 (.tup [.ref p8, .ref p9]) p10 = some (.tup [.ref p8, .ref p9]) := upd_same
    have t10 := t9.trans s10
    replace z1 := s10 _ _ z1
    replace z2 := s10 _ _ z2
    replace z3 := s10 _ _ z3
    replace z4 := s10 _ _ z4
    replace z5 := s10 _ _ z5
    replace z6 := s10 _ _ z6
    replace z7 := s10 _ _ z7
    replace z8 := s10 _ _ z8
    replace z9 := s10 _ _ z9
    generalize upd G9 p10 (.tup [.ref p8, .ref p9]) = G10 at s10 t10 z10 z1 z2 z3 z4 z5 z6 z7 z8 z9 ⊢
    refine ⟨(by show 2 ≤ sizeLine; decide), fun p11 hp11 => ?_⟩
    have n11 : p11 ≠ c := fresh1 hC5 t10 hp11
    have s11 := same_upd (o := .lst [.int 0, .int 0]) hp11
    have z11 : upd G10 p11 (.lst [.int 0, .int 0]) p11 = some (.lst [.int 0, .int 0]) := upd_same
    have t11 := t10.trans s11
    replace z1 := s11 _ _ z1
    replace z2 := s11 _ _ z2
    replace z3 := s11 _ _ z3
    replace z4 := s11 _ _ z4
    replace z5 := s11 _ _ z5
    replace z6 := s11 _ _ z6
    replace z7 := s11 _ _ z7
    replace z8 := s11 _ _ z8
    replace z9 := s11 _ _ z9
    replace z10 := s11 _ _ z10
    generalize upd G10 p11 (.lst [.int 0, .int 0]) = G11 at s11 t11 z11 z1 z2 z3 z4 z5 z6 z7 z8 z9 z10 ⊢
    refine ⟨(by show 2 ≤ sizeLine; decide), fun p12 hp12 => ?_⟩
    have n12 : p12 ≠ c := fresh1 hC5 t11 hp12
    have s12 := same_upd (o := .lst [.int 0, .int 0]) hp12
    have z12 : upd G11 p12 (.lst [.int 0, .int 0]) p12 = some (.lst [.int 0, .int 0]) := upd_same
    have t12 := t11.trans s12
    replace z1 := s12 _ _ z1
    replace z2 := s12 _ _ z2
    replace z3 := s12 _ _ z3
    replace z4 := s12 _ _ z4
    replace z5 := s12 _ _ z5
    replace z6 := s12 _ _ z6
    replace z7 := s12 _ _ z7
    replace z8 := s12 _ _ z8
    replace z9 := s12 _ _ z9
    replace z10 := s12 _ _ z10
    replace z11 := s12 _ _ z11
    generalize upd G11 p12 (.lst [.int 0, .int 0]) = G12 at s12 t12 z12 z1 z2 z3 z4 z5 z6 z7 z8 z9 z10 z11 ⊢
    refine ⟨(by show 2 ≤ sizeLine; decide), fun p13 hp13 => ?_⟩
    have n13 : p13 ≠ c := fresh1 hC5 t12 hp13
    have s13 := same_upd (o := .lst [.ref p11, .ref p12]) hp13
    have z13 : upd G12 p13 (.lst [.ref p11, .ref p12]) p13 = some (.lst [.ref p11, .ref p12]) := upd_same
    have t13 := t12.trans s13
    replace z1 := s13 _ _ z1
    replace z2 := s13 _ _ z2
    replace z3 := s13 _ _ z3
    replace z4 := s13 _ _ z4
    replace z5 := s13 _ _ z5
    replace z6 := s13 _ _ z6
    replace z7 := s13 _ _ z7
    replace z8 := s13 _ _ z8
    replace z9 := s13 _ _ z9
    replace z10 := s13 _ _ z10
    replace z11 := s13 _ _ z11
    replace z12 := s13 _ _ z12
    generalize upd G12 p13 (.lst [.ref p11, .ref p12]) = G13 at s13 t13 z13 z1 z2 z3 z4 z5 z6 z7 z8 z9 z10 z11 z12 ⊢
    refine ⟨(by show 11 ≤ sizeLine; decide), fun L hL => ?_⟩
    have nL := fresh1 hC5 t13 hL
    have sL := same_upd (o := .lst [.non, .int 3, .str (Str.ofString "points"), .ref p1, .ref p2, .ref p3, .ref p5, .ref p7, .bl true, .ref p10, .ref p13]) hL
    have tL := t13.trans sL
    refine ⟨c, d, ns, m + 3, false, L, [.non, .int 3, .str (Str.ofString "points"), .ref p1, .ref p2, .ref p3, .ref p5, .ref p7, .bl true, .ref p10, .ref p13], rfl, hC5.but tL, by omega, .of (off1 upd_same nL), Nat.le_of_ble_eq_true rfl, Nat.le_of_ble_eq_true rfl, fun iz y H7 hy hC7 sb7 => ?_⟩
    refine k _ _ ?_ (hC7.more (by omega)) ((sb05.trans (SameBut.of tL)).trans sb7)
    refine Bnt.same (sameT sb7) (all_get (p := fun y => Bnt K (OffT c (upd G13 L _)) y) ?_ hy)
    have o1 := offT1 (sL _ _ z1) n1
    have o2 := offT1 (sL _ _ z2) n2
    have o3 := offT1 (sL _ _ z3) n3
    have o4 := offT1 (sL _ _ z4) n4
    have o5 := offT1 (sL _ _ z5) n5
    have o6 := offT1 (sL _ _ z6) n6
    have o7 := offT1 (sL _ _ z7) n7
    have o8 := offT1 (sL _ _ z8) n8
    have o9 := offT1 (sL _ _ z9) n9
    have o10 := offT1 (sL _ _ z10) n10
    have o11 := offT1 (sL _ _ z11) n11
    have o12 := offT1 (sL _ _ z12) n12
    have o13 := offT1 (sL _ _ z13) n13
    intro y' hy'
    simp only [List.mem_cons, List.not_mem_nil, or_false] at hy'
    rcases hy' with rfl | rfl | rfl | rfl | rfl | rfl | rfl | rfl | rfl | rfl | rfl
    · exact bnt_flat .non .non rfl (shN_none.more (Nat.le_refl _) (by decide))
    · exact bnt_flat (.int 3) (.int 3) rfl ((shN_int (by decide)).more (Nat.le_refl _) (by decide))
    · exact bnt_flat (.str _) (.str _) rfl (shN_str6 (by decide +kernel))
    · exact bnt_dict o1
    · exact bnt_nilL o2
    · exact bnt_nilT o3
    · exact bnt_l o5 (by simp) (Nat.le_of_ble_eq_true rfl) (by intro u hu; rw [List.mem_singleton.mp hu]; exact rx_cells o4 (by decide) no_cells)
    · exact bnt_l o7 (by simp) (Nat.le_of_ble_eq_true rfl) (by intro u hu; rw [List.mem_singleton.mp hu]; exact rx_cells o6 (by decide) (one_cell (.int (by decide))))
    · exact bnt_flat (.bl true) (.bl true) rfl ((shN_bool true).more (Nat.le_refl _) (by decide))
    · refine bnt_t o10 (by simp) (Nat.le_of_ble_eq_true rfl) fun u hu => ?_
      simp only [List.mem_cons, List.not_mem_nil, or_false] at hu
      rcases hu with rfl | rfl
      · exact rx_tup o8 (by decide) fun y hy => by
          simp only [List.mem_cons, List.not_mem_nil, or_false, or_self] at hy
          rcases hy with rfl | rfl <;> exact .int (by decide)
      · exact rx_cells o9 (by decide) fun y hy => by
          simp only [List.mem_cons, List.not_mem_nil, or_false, or_self] at hy
          rcases hy with rfl | rfl <;> exact .int (by decide)
    · refine bnt_l o13 (by simp) (Nat.le_of_ble_eq_true rfl) fun u hu => ?_
      simp only [List.mem_cons, List.not_mem_nil, or_false] at hu
      rcases hu with rfl | rfl
      · exact rx_cells o11 (by decide) fun y hy => by
          simp only [List.mem_cons, List.not_mem_nil, or_false, or_self] at hy
          rw [hy]; exact .int (by decide)
      · exact rx_cells o12 (by decide) fun y hy => by
          simp only [List.mem_cons, List.not_mem_nil, or_false, or_self] at hy
          rw [hy]; exact .int (by decide)
end
end K0


set_option Elab.async false
set_option linter.all false
set_option maxRecDepth 100000
set_option maxHeartbeats 4000000
namespace K0
open PySem PySem.Spec PyProof.Rows L2 RZ K0z
/-! ### zip of three lists -/
def Itz3 (K : PySem.W.Frag) (a b c : Addr) : L2.It :=
  ⟨fun i H => ∃ (xs ys zs : List V) (x y v : V), SqL K H a xs ∧ SqL K H b ys ∧ SqL K H c zs ∧ xs[i]? = some x ∧ ys[i]? = some y ∧ zs[i]? = some v,
    fun i H u H' => ∃ T x y v, u = .ref T ∧ H T = none ∧ H' = upd H T (.tup [x, y, v]) ∧ (∀ xs, SqL K H a xs → xs[i]? = some x) ∧ (∀ ys, SqL K H b ys → ys[i]? = some y) ∧ ∀ zs, SqL K H c zs → zs[i]? = some v,
    fun i H => ∃ xs ys zs : List V, SqL K H a xs ∧ SqL K H b ys ∧ SqL K H c zs ∧ i ≤ xs.length ∧ i ≤ ys.length ∧ i ≤ zs.length ∧ (i = xs.length ∨ i = ys.length ∨ i = zs.length)⟩
theorem turn_zip3 {P : Program} {w : World} {K : PySem.W.Frag} {elts : List Expr} {kk : Nat} {tpos : Pos} {a b c z TI TO i1 i2 i3 : Addr} (S : ZipSep3 z TI TO i1 i2 i3 [i1, a] [i2, b] [i3, c]) :
    Turn P w K (.Tuple elts kk tpos) (Itz3 K a b c) [z, TI, TO, i1, i2, i3] z (fun i h => IsZip h z TI TO .none ∧ IsTupOf3 h TI (.ref i1) (.ref i2) (.ref i3) ∧ (∃ x y v, IsTupOf3 h TO x y v) ∧ h.IsListIter i1 a i ∧ h.IsListIter i2 b i ∧ h.IsListIter i3 c i) where
  mem := by simp
  obj := fun i h st e he => by
    obtain ⟨hz, hTI, ⟨x, y, v, hTO⟩, h1, h2, h3⟩ := st
    obtain ⟨o1, e1, _, d1⟩ := h1
    obtain ⟨o2, e2, _, d2⟩ := h2
    obtain ⟨o3, e3, _, d3⟩ := h3
    have e' : e = z ∨ e = TI ∨ e = TO ∨ e = i1 ∨ e = i2 ∨ e = i3 := by simpa using he
    rcases e' with q | q | q | q | q | q
    · rw [q]; exact ⟨_, hz, fun v q => nomatch q⟩
    · rw [q]; exact ⟨_, hTI, fun v q => nomatch q⟩
    · rw [q]; exact ⟨_, hTO, fun v q => nomatch q⟩
    · rw [q]; exact ⟨o1, e1, fun v q => by rw [d1] at q; cases q⟩
    · rw [q]; exact ⟨o2, e2, fun v q => by rw [d2] at q; cases q⟩
    · rw [q]; exact ⟨o3, e3, fun v q => by rw [d3] at q; cases q⟩
  keep := fun i h h' st k => by
    obtain ⟨hz, hTI, ⟨x, y, v, hTO⟩, h1, h2, h3⟩ := st
    exact ⟨k z (by simp) _ hz, k TI (by simp) _ hTI, ⟨x, y, v, k TO (by simp) _ hTO⟩, h1.at fun o q => k i1 (by simp) o q, h2.at fun o q => k i2 (by simp) o q, h3.at fun o q => k i3 (by simp) o q⟩
  item := by
    intro X hP hw hK hc i pins s σ H E I hf st hg
    subst hP hw hK
    obtain ⟨hz, hTI, ⟨x0, y0, v0, hTO⟩, h1, h2, h3⟩ := st
    obtain ⟨xs, ys, zs, x, y, v, hqx, hqy, hqz, hx, hy, hv⟩ := hg
    obtain ⟨its, rv, p, _⟩ := I.list hqx
    obtain ⟨its2, rv2, p2, _⟩ := I.list hqy
    obtain ⟨its3, rv3, p3, _⟩ := I.list hqz
    obtain ⟨u, hu, ru⟩ := rv.get hx
    obtain ⟨u2, hu2, ru2⟩ := rv2.get hy
    obtain ⟨u3, hu3, ru3⟩ := rv3.get hv
    have hzl : z < s.heap.objs.size := Heap.lt_size hz
    have hh := I.ok.hd hc
    have ne1 : a ≠ i1 := fun e => by
      obtain ⟨o, ho, _, d⟩ := h1
      obtain ⟨o', n', ho', _, _, d'⟩ := p
      rw [e, ho] at ho'
      cases ho'
      rw [d] at d'
      cases d'
    have ne2 : b ≠ i2 := fun e => by
      obtain ⟨o, ho, _, d⟩ := h2
      obtain ⟨o', n', ho', _, _, d'⟩ := p2
      rw [e, ho] at ho'
      cases ho'
      rw [d] at d'
      cases d'
    have ne3 : c ≠ i3 := fun e => by
      obtain ⟨o, ho, _, d⟩ := h3
      obtain ⟨o', n', ho', _, _, d'⟩ := p3
      rw [e, ho] at ho'
      cases ho'
      rw [d] at d'
      cases d'
    refine wpAny_pyNext_zipD3_item S (Draws.list (by exact hh) i1 a ne1 its.toArray) (Draws.list (by exact hh) i2 b ne2 its2.toArray) (Draws.list (by exact hh) i3 c ne3 its3.toArray) hz hTI hTO ⟨h1, p.isList⟩ ⟨h2, p2.isList⟩ ⟨h3, p3.isList⟩
      (by have := (List.getElem?_eq_some_iff.mp hu).1; simpa using this) (by have := (List.getElem?_eq_some_iff.mp hu2).1; simpa using this) (by have := (List.getElem?_eq_some_iff.mp hu3).1; simpa using this) fun w1 w2 w3 h' tk q1 q2 q3 z' TO' st1 st2 st3 hT hsz hk => ?_
    have g1 : w1 = u := by
      have e : its.toArray[i]? = some u := by simpa using hu
      rw [e] at q1
      exact (Option.some.inj q1).symm
    have g2 : w2 = u2 := by
      have e : its2.toArray[i]? = some u2 := by simpa using hu2
      rw [e] at q2
      exact (Option.some.inj q2).symm
    have g3 : w3 = u3 := by
      have e : its3.toArray[i]? = some u3 := by simpa using hu3
      rw [e] at q3
      exact (Option.some.inj q3).symm
    subst g1 g2 g3
    refine ⟨_, rfl, wpAny_letOwnedTupleGo_zip (s := { s with heap := h', toks := tk }) z' fun h'' z'' sb => ?_⟩
    have hT2 : h''.get? s.heap.objs.size = some { cls := .type "tuple", data := .seq #[w1, w2, w3] } := (sb.2 _ (Nat.ne_of_gt hzl)).trans hT
    have new : ObjOk X.prog X.w (upd H s.heap.objs.size (.tup [x, y, v])) h'' s.heap.objs.size (.tup [x, y, v]) :=
      ⟨by show 3 ≤ sizeLine; decide, [w1, w2, w3], .cons ru (.cons ru2 (.cons ru3 .nil)), ⟨_, hT2, rfl, _, rfl⟩⟩
    have I1 : Inv X pins σ (upd H s.heap.objs.size (.tup [x, y, v])) { s with heap := h'', toks := tk } :=
      I.turnedNew (t' := tk) (ch := [z, TI, TO, i1, i2, i3]) (fun e o hb q => (sb.2 e (fun q' => hb (by simp [q']))).trans (hk e o (fun q' => hb (by simp [q'])) (fun q' => hb (by simp [q'])) (fun q' => hb (by simp [q'])) (fun q' => hb (by simp [q'])) (fun q' => hb (by simp [q'])) q)) hf (Nat.le_refl _) new
    have z1 : i1 ≠ z := Ne.symm S.zi1
    have z2 : i2 ≠ z := Ne.symm S.zi2
    have z3 : i3 ≠ z := Ne.symm S.zi3
    refine ⟨.ref s.heap.objs.size, _, I1, rfl, ⟨_, x, y, v, rfl, I.hok.fresh (Nat.le_refl _), rfl, fun l hl => ?_, fun l hl => ?_, fun l hl => ?_⟩, ⟨z'', ?_, ⟨w1, w2, w3, ?_⟩, ?_, ?_, ?_⟩, fun e hem => ?_⟩
    · rw [SqB.inj (b := false) I hl hqx]; exact hx
    · rw [SqB.inj (b := false) I hl hqy]; exact hy
    · rw [SqB.inj (b := false) I hl hqz]; exact hv
    · exact (sb.2 _ S.TIz).trans (hk _ _ S.TIz S.TITO S.TIi1 S.TIi2 S.TIi3 hTI)
    · exact (sb.2 _ S.TOz).trans TO'
    · exact st1.1.at fun o q => (sb.2 _ z1).trans q
    · exact st2.1.at fun o q => (sb.2 _ z2).trans q
    · exact st3.1.at fun o q => (sb.2 _ z3).trans q
    · have hlt : e < s.heap.objs.size := by
        have e' : e = z ∨ e = TI ∨ e = TO ∨ e = i1 ∨ e = i2 ∨ e = i3 := by simpa using hem
        obtain ⟨o1, k1, _⟩ := h1
        obtain ⟨o2, k2, _⟩ := h2
        obtain ⟨o3, k3, _⟩ := h3
        rcases e' with q | q | q | q | q | q
        · rw [q]; exact hzl
        · rw [q]; exact Heap.lt_size hTI
        · rw [q]; exact Heap.lt_size hTO
        · rw [q]; exact Heap.lt_size k1
        · rw [q]; exact Heap.lt_size k2
        · rw [q]; exact Heap.lt_size k3
      rw [upd_ne (Nat.ne_of_lt hlt)]
      exact (hf e hem).1
  done := by
    intro X hP hw hK hc i pins s σ H E I hf st hg
    subst hP hw hK
    obtain ⟨hz, hTI, ⟨x0, y0, v0, hTO⟩, h1, h2, h3⟩ := st
    obtain ⟨xs, ys, zs, hqx, hqy, hqz, l1, l2, l3, hend⟩ := hg
    obtain ⟨its, rv, p, _⟩ := I.list hqx
    obtain ⟨its2, rv2, p2, _⟩ := I.list hqy
    obtain ⟨its3, rv3, p3, _⟩ := I.list hqz
    have e1 := rv.length
    have e2 := rv2.length
    have e3 := rv3.length
    have hh := I.ok.hd hc
    have ne1 : a ≠ i1 := fun e => by
      obtain ⟨o, ho, _, d⟩ := h1
      obtain ⟨o', n', ho', _, _, d'⟩ := p
      rw [e, ho] at ho'
      cases ho'
      rw [d] at d'
      cases d'
    have ne2 : b ≠ i2 := fun e => by
      obtain ⟨o, ho, _, d⟩ := h2
      obtain ⟨o', n', ho', _, _, d'⟩ := p2
      rw [e, ho] at ho'
      cases ho'
      rw [d] at d'
      cases d'
    have ne3 : c ≠ i3 := fun e => by
      obtain ⟨o, ho, _, d⟩ := h3
      obtain ⟨o', n', ho', _, _, d'⟩ := p3
      rw [e, ho] at ho'
      cases ho'
      rw [d] at d'
      cases d'
    exact wpAny_pyNext_zipD3_end S (Draws.list (by exact hh) i1 a ne1 its.toArray) (Draws.list (by exact hh) i2 b ne2 its2.toArray) (Draws.list (by exact hh) i3 c ne3 its3.toArray) hz hTI hTO ⟨h1, p.isList⟩ ⟨h2, p2.isList⟩ ⟨h3, p3.isList⟩
      (by simp; omega) (by simp; omega) (by simp; omega) (by simp; omega) fun h' tk hk => ⟨rfl, I.turnedL (t' := tk) (ch := [z, TI, TO, i1, i2, i3]) (fun e o hb q =>
      hk e o (fun q' => hb (by simp [q'])) (fun q' => hb (by simp [q'])) (fun q' => hb (by simp [q'])) (fun q' => hb (by simp [q'])) (fun q' => hb (by simp [q'])) q) hf⟩
  self := fun A i s Q E st h => wpAny_pyIter_zip st.1 h
end K0


set_option Elab.async false
set_option linter.all false
set_option maxRecDepth 100000
set_option maxHeartbeats 4000000
namespace K0
open PySem PySem.Spec PyProof.Rows L2 RZ K0z
def iZip3 (K : PySem.W.Frag) (ta : TA) : TI := fun σ H R => ta σ H fun vs H1 => ∃ a b c xs ys zs, vs = [.ref a, .ref b, .ref c] ∧ SqL K H1 a xs ∧ SqL K H1 b ys ∧ SqL K H1 c zs ∧ R (Itz3 K a b c) H1
theorem vals3 {x y z : V} {us : List Value} (r : Vals [x, y, z] us) : ∃ u v w, us = [u, v, w] ∧ RelV x u ∧ RelV y v ∧ RelV z w := by
  cases r with
  | cons a r =>
    cases r with
    | cons b r =>
      cases r with
      | cons c r =>
        cases r
        exact ⟨_, _, _, rfl, a, b, c⟩
theorem sep3 {n a b c : Nat} (la : a < n) (lb : b < n) (lc : c < n) : ZipSep3 (n + 5) (n + 3) (n + 4) n (n + 1) (n + 2) [n, a] [n + 1, b] [n + 2, c] where
  TIz := by show ¬ (n + 3 = n + 5); omega
  TOz := by show ¬ (n + 4 = n + 5); omega
  TITO := by show ¬ (n + 3 = n + 4); omega
  TIi1 := by show ¬ (n + 3 = n); omega
  mem1 := List.mem_cons_self
  zf1 := fun h => by rcases List.mem_cons.mp h with e | h; exact absurd (show n + 5 = n from e) (by omega); exact absurd (show n + 5 = a from List.mem_singleton.mp h) (by omega)
  Tf1 := fun h => by rcases List.mem_cons.mp h with e | h; exact absurd (show n + 4 = n from e) (by omega); exact absurd (show n + 4 = a from List.mem_singleton.mp h) (by omega)
  TIi2 := by show ¬ (n + 3 = n + 1); omega
  mem2 := List.mem_cons_self
  zf2 := fun h => by rcases List.mem_cons.mp h with e | h; exact absurd (show n + 5 = n + 1 from e) (by omega); exact absurd (show n + 5 = b from List.mem_singleton.mp h) (by omega)
  Tf2 := fun h => by rcases List.mem_cons.mp h with e | h; exact absurd (show n + 4 = n + 1 from e) (by omega); exact absurd (show n + 4 = b from List.mem_singleton.mp h) (by omega)
  TIi3 := by show ¬ (n + 3 = n + 2); omega
  mem3 := List.mem_cons_self
  zf3 := fun h => by rcases List.mem_cons.mp h with e | h; exact absurd (show n + 5 = n + 2 from e) (by omega); exact absurd (show n + 5 = c from List.mem_singleton.mp h) (by omega)
  Tf3 := fun h => by rcases List.mem_cons.mp h with e | h; exact absurd (show n + 4 = n + 2 from e) (by omega); exact absurd (show n + 4 = c from List.mem_singleton.mp h) (by omega)
  sep1_2 := fun h => by rcases List.mem_cons.mp h with e | h; exact absurd (show n = n + 1 from e) (by omega); exact absurd (show n = b from List.mem_singleton.mp h) (by omega)
  sep1_3 := fun h => by rcases List.mem_cons.mp h with e | h; exact absurd (show n = n + 2 from e) (by omega); exact absurd (show n = c from List.mem_singleton.mp h) (by omega)
  sep2_1 := fun h => by rcases List.mem_cons.mp h with e | h; exact absurd (show n + 1 = n from e) (by omega); exact absurd (show n + 1 = a from List.mem_singleton.mp h) (by omega)
  sep2_3 := fun h => by rcases List.mem_cons.mp h with e | h; exact absurd (show n + 1 = n + 2 from e) (by omega); exact absurd (show n + 1 = c from List.mem_singleton.mp h) (by omega)
  sep3_1 := fun h => by rcases List.mem_cons.mp h with e | h; exact absurd (show n + 2 = n from e) (by omega); exact absurd (show n + 2 = a from List.mem_singleton.mp h) (by omega)
  sep3_2 := fun h => by rcases List.mem_cons.mp h with e | h; exact absurd (show n + 2 = n + 1 from e) (by omega); exact absurd (show n + 2 = b from List.mem_singleton.mp h) (by omega)
theorem pi_zip3 {X : Cx} (K : PySem.W.Frag) {e e2 e3 : Expr} {ta : TA} {p pos tpos : Pos} {elts : List Expr} {kk : Nat} (hg : Gl X "zip") (hm : X.mg "zip" = none) (ha : PA X [e, e2, e3] ta) (eK : X.K = K := by rfl)
    (hs : starEach [e, e2, e3] X.env = (false, eval e X.env) :: starEach [e2, e3] X.env := by rfl) (hpl : (backTo pos (starEach [e2, e3] X.env)).any (·.1) = false := by rfl) :
    PI X (.Tuple elts kk tpos) (.Call (.Name "zip" p) [e, e2, e3] [] pos) (iZip3 K ta) := by
  subst eK
  refine ⟨fun pins s σ H R I h => ?_⟩
  refine Call_ (ld_blt I hg hm PyProof.Rows.boot_zip (PyProof.Rows.callWith_type1 (thn (ha.run pos pins s σ H _ I h) fun us s1 ⟨vs, H1, I1, r1, q1⟩ => ?_) hs hpl))
  obtain ⟨a, b, c, xs, ys, zs, ex, hqx, hqy, hqz, q⟩ := q1
  subst ex
  obtain ⟨u1, u2, u3, rfl, r, r', r''⟩ := vals3 r1
  cases r
  cases r'
  cases r''
  have fresh6 : ∀ e, e ∈ [s1.heap.objs.size + 5, s1.heap.objs.size + 3, s1.heap.objs.size + 4, s1.heap.objs.size, s1.heap.objs.size + 1, s1.heap.objs.size + 2] → FpOk X pins H1 e := fun e hem => by
    have e' : e = s1.heap.objs.size + 5 ∨ e = s1.heap.objs.size + 3 ∨ e = s1.heap.objs.size + 4 ∨ e = s1.heap.objs.size ∨ e = s1.heap.objs.size + 1 ∨ e = s1.heap.objs.size + 2 := by simpa using hem
    have hle : s1.heap.objs.size ≤ e := by
      rcases e' with z | z | z | z | z | z <;> rw [z] <;> first | exact Nat.le_add_right _ _ | exact Nat.le_refl _
    exact I1.fpOk hle (I1.hok.fresh hle)
  obtain ⟨its, rv, p1, l1⟩ := I1.list hqx
  obtain ⟨its2, rv2, p2, l2⟩ := I1.list hqy
  obtain ⟨its3, rv3, p3, l3⟩ := I1.list hqz
  have la : a < s1.heap.objs.size := by
    obtain ⟨o, n, ho, _⟩ := p1
    exact Heap.lt_size ho
  have lb : b < s1.heap.objs.size := by
    obtain ⟨o, n, ho, _⟩ := p2
    exact Heap.lt_size ho
  have lc : c < s1.heap.objs.size := by
    obtain ⟨o, n, ho, _⟩ := p3
    exact Heap.lt_size ho
  refine zip_begins3 (begins_list a its.toArray) (begins_list b its2.toArray) (begins_list c its3.toArray) p1.isList p2.isList p3.isList fun h' hz hTI hTO g1 g2 g3 hsz hk => wpAny_pyIter_zip hz ?_
  have I2 : Inv X pins σ H1 { s1 with heap := h' } := I1.kept (t' := s1.toks) hk
  have S := sep3 la lb lc
  exact ⟨s1.heap.objs.size + 5, [s1.heap.objs.size + 5, s1.heap.objs.size + 3, s1.heap.objs.size + 4, s1.heap.objs.size, s1.heap.objs.size + 1, s1.heap.objs.size + 2], _, _, H1, rfl, I2, turn_zip3 S, ⟨hz, hTI, ⟨_, _, _, hTO⟩, ⟨_, g1, rfl, rfl⟩, ⟨_, g2, rfl, rfl⟩, ⟨_, g3, rfl, rfl⟩⟩, fresh6, q⟩
/-- what a turn hands out -/
def YTri (fx fy fz : Nat → Option V) : Nat → Hp → V → Hp → Prop := fun i H u H' => ∃ T x y v, u = .ref T ∧ H T = none ∧ H' = upd H T (.tup [x, y, v]) ∧ fx i = some x ∧ fy i = some y ∧ fz i = some v
theorem walk_zip3 {K : PySem.W.Frag} {a b c : Addr} {xs ys zs : List V} {n : Nat} (hx : xs.length = n) (hy : ys.length = n) (hz : zs.length = n) : Walk (Itz3 K a b c) n (fun H => SqL K H a xs ∧ SqL K H b ys ∧ SqL K H c zs) (YTri (fun i => xs[i]?) (fun i => ys[i]?) (fun i => zs[i]?)) := by
  refine ⟨fun i _ hi q => ?_, fun H q => ⟨xs, ys, zs, q.1, q.2.1, q.2.2, by omega, by omega, by omega, by omega⟩, fun i H u H' _ q y => ?_⟩
  · have h1 : i < xs.length := by omega
    have h2 : i < ys.length := by omega
    have h3 : i < zs.length := by omega
    exact ⟨xs, ys, zs, xs[i], ys[i], zs[i], q.1, q.2.1, q.2.2, by simp [h1], by simp [h2], by simp [h3]⟩
  · obtain ⟨T, x, w, v, h1, h2, h3, h4, h5, h6⟩ := y
    exact ⟨T, x, w, v, h1, h2, h3, h4 xs q.1, h5 ys q.2.1, h6 zs q.2.2⟩
end K0


set_option Elab.async false
set_option linter.all false
set_option maxRecDepth 100000
set_option maxHeartbeats 8000000
set_option exponentiation.threshold 100000
namespace K0
open PySem PySem.Spec PyProof.Rows L2 RZ K0z K3

theorem lc_draw {te : TE} {vs : List Nat} {σ : L2.St} {H1 : Hp} {D : Addr} {Qd : Hp → Prop} {i0 n : Nat} {lo : Int} {c d : Addr} {ns : List Int} {m : Nat} (hn : n ≤ 1000) (hD : H1 D = none) (hC : Coil H1 c d ns m) (hw : ∀ x, wipe ((wipe σ vs).set i0 (some x)) vs = wipe σ vs)
    (he : ∀ x H m', m' ≤ m + 2 * n → Coil H c d ns m' → ∀ R : VK, (∀ (r : Int) H', r.natAbs < 2 ^ 68 → Coil H' c d ns (m' + 2) → SameBut c H H' → R (.int r) H') → te ((wipe σ vs).set i0 (some x)) H R)
    (hd : ∀ H (xs : Vec), xs.length = n → (∀ b ∈ xs, b.natAbs < 2 ^ 68) → H D = some (.lst (xs.map V.int)) → Coil H c d ns (m + 2 * n) → SameBut c H1 H → Qd H) :
    ∃ W : Nat → Nat → Hp → Prop, (∃ m, W 0 m (upd H1 D (.lst []))) ∧ ∀ i m H, W i m H →
      ((Itr lo n).stop i H ∧ Qd H) ∨ ((Itr lo n).go i H ∧ ∃ Nx : Hp → Prop, (∀ H', Nx H' → ∃ m', m' < m ∧ W (i + 1) m' H') ∧ ∀ x H', (Itr lo n).yld i H x H' → gName i0 x (wipe σ vs) H' fun σ2 H2 => wipe σ2 vs = wipe σ vs ∧ tYes σ2 H2 fun b H3 =>
        if b = true then te σ2 H3 fun y H4 => ∃ acc, H4 D = some (.lst acc) ∧ acc.length < sizeLine ∧ Nx (upd H4 D (.lst (acc ++ [y]))) else Nx H3) := by
  obtain ⟨nDc, nDd⟩ := hC.ne hD
  refine lc_it walk_range (fun i H => ∃ xs : Vec, xs.length = i ∧ (∀ b ∈ xs, b.natAbs < 2 ^ 68) ∧ H D = some (.lst (xs.map V.int)) ∧ Coil H c d ns (m + 2 * i) ∧ SameBut c H1 H)
    ⟨[], rfl, fun _ h => absurd h List.not_mem_nil, upd_same, hC.upd nDc nDd, new_but hD⟩ (fun _ _ _ _ => trivial) ?_ ?_
  · rintro i x H H' hi ⟨xs, l, hb, hx, hC2, sb⟩ ⟨rfl, rfl⟩
    refine ⟨hw _, ?_⟩
    refine he _ _ _ (by omega) hC2 _ fun r H2 hr hC3 sb2 => ⟨_, sb2 _ _ nDc hx, ?_, xs ++ [r], by rw [List.length_append, l]; rfl, fun b hb' => ?_, ?_, hC3.upd nDc nDd, fun b o n e => ?_⟩
    · rw [List.length_map, l]
      exact Nat.lt_of_lt_of_le hi (Nat.le_trans hn (by decide))
    · rcases List.mem_append.mp hb' with z | z
      · exact hb b z
      · rw [List.mem_singleton.mp z]; exact hr
    · rw [upd_same, List.map_append]
      rfl
    · rw [upd_ne (ne_of_none e hD)]
      exact sb2 _ _ n (sb _ _ n e)
  · rintro H ⟨xs, l, hb, hx, hC2, sb⟩
    exact hd H xs l hb hx hC2 sb
theorem Rws.snoc {H : Hp} {c a q : Addr} {vs : List V} {M : List Vec} {x : Vec} (h : Rws H c a vs M) (n1 : q ≠ c) (n2 : q ≠ a) (hq : H q = some (.lst (x.map V.int))) : Rws H c a (vs ++ [.ref q]) (M ++ [x]) := by
  refine ⟨by rw [List.length_append, List.length_append, h.1]; rfl, fun i u y h1 h2 => ?_⟩
  by_cases hi : i < vs.length
  · rw [List.getElem?_append_left hi] at h1
    rw [List.getElem?_append_left (by rw [← h.1]; exact hi)] at h2
    exact h.2 i u y h1 h2
  · rw [List.getElem?_append_right (by omega)] at h1
    rw [List.getElem?_append_right (by rw [← h.1]; omega), ← h.1] at h2
    have e : i - vs.length = 0 := by
      refine Nat.eq_zero_of_not_pos fun z => ?_
      rw [List.getElem?_eq_none (by show 1 ≤ i - vs.length; omega)] at h1
      cases h1
    rw [e] at h1 h2
    cases h1
    cases h2
    exact ⟨q, rfl, n1, n2, hq⟩
theorem Rws.nil (H : Hp) (c a : Addr) : Rws H c a [] [] := ⟨rfl, fun i u x h => by cases h⟩
/-- what such a ref stands for -/
def cont (H : Hp) : V → Vec
  | .ref q => match H q with
    | some (.lst l) => l.map toI
    | _ => []
  | _ => []
theorem toI_map (x : Vec) : (x.map V.int).map toI = x := by
  rw [List.map_map]
  exact List.map_id' x
theorem cont_ref {H : Hp} {q : Addr} {x : Vec} (z : H q = some (.lst (x.map V.int))) : cont H (.ref q) = x := by
  show (match H q with
    | some (HO.lst l) => l.map toI
    | _ => []) = x
  rw [z]
  exact toI_map x
theorem Rws.cont {H : Hp} {c a : Addr} {vs : List V} {M : List Vec} (h : Rws H c a vs M) : M = vs.map (cont H) := by
  refine List.ext_getElem (by rw [List.length_map, h.1]) fun i h1 h2 => ?_
  rw [List.length_map] at h2
  obtain ⟨q, e, _, _, z⟩ := h.2 i _ _ (List.getElem?_eq_getElem h2) (List.getElem?_eq_getElem h1)
  rw [List.getElem_map, e]
  exact (cont_ref z).symm
theorem Rws.perm {H : Hp} {c a : Addr} {vs ys : List V} {M : List Vec} (h : Rws H c a vs M) (p : ys.Perm vs) : ∃ N, N.Perm M ∧ Rws H c a ys N := by
  refine ⟨ys.map (K0.cont H), ?_, by rw [List.length_map], fun i u x h1 h2 => ?_⟩
  · have := p.map (K0.cont H)
    rw [← h.cont] at this
    exact this
  · have hm : u ∈ vs := p.mem_iff.mp (List.mem_of_getElem? h1)
    obtain ⟨j, hj⟩ := List.mem_iff_getElem?.mp hm
    have hjl : j < M.length := by rw [← h.1]; exact (List.getElem?_eq_some_iff.mp hj).1
    obtain ⟨q, e, n1, n2, z⟩ := h.2 j u _ hj (List.getElem?_eq_getElem hjl)
    rw [List.getElem?_map, h1] at h2
    have e2 : K0.cont H u = x := Option.some.inj h2
    have e3 : K0.cont H u = M[j] := by
      rw [e]
      exact cont_ref z
    exact ⟨q, e, n1, n2, by rw [← e2, e3]; exact z⟩
theorem zip_list (b : Int) (x y : Vec) : (List.range (min x.length y.length)).map (fun t => V.int (x.getD t 0 + b * y.getD t 0)) = (List.zipWith (fun mine its => mine + b * its) x y).map V.int := by
  refine List.ext_getElem (by simp) fun i h1 h2 => ?_
  simp only [List.length_map, List.length_zipWith] at h2
  have hx : i < x.length := by omega
  have hy : i < y.length := by omega
  simp [List.getD_eq_getElem?_getD, List.getElem?_eq_getElem hx, List.getElem?_eq_getElem hy]
theorem Rws.to {H H' : Hp} {c a a' : Addr} {vs : List V} {M : List Vec} (h : Rws H c a vs M) (s : SameBut c H H') (ha : H a' = none) : Rws H' c a' vs M :=
  ⟨h.1, fun i u x h1 h2 => let ⟨q, e, n1, _, z⟩ := h.2 i u x h1 h2; ⟨q, e, n1, ne_of_none z ha, s q _ n1 z⟩⟩
theorem map_set_int (x : Vec) (p : Nat) (v : Int) : (x.map V.int).set p (.int v) = (x.set p v).map V.int := by rw [List.map_set]

theorem lc_rowsD {te : TE} {vs : List Nat} {σ : L2.St} {H1 : Hp} {DD : Addr} {Qd : Hp → Prop} {i0 n s wd B : Nat} {lo : Int} {c d : Addr} {ns : List Int} {m : Nat} (hn : n ≤ 1000) (hD : H1 DD = none) (hC : Coil H1 c d ns m) (hw : ∀ x, wipe ((wipe σ vs).set i0 (some x)) vs = wipe σ vs)
    (he : ∀ (i : Nat) H m', i < n → m' ≤ m + s * n → Coil H c d ns m' → SameBut c H1 H → ∀ R : VK, (∀ (q : Addr) (xs : Vec) H', H q = none → q ≠ c → H' q = some (.lst (xs.map V.int)) → xs.length = wd → (∀ b ∈ xs, b.natAbs < B) → Coil H' c d ns (m' + s) → SameBut c H H' → R (.ref q) H') → te ((wipe σ vs).set i0 (some (.int (lo + i)))) H R)
    (hd : ∀ H (us : List V) (M : List Vec), M.length = n → H DD = some (.lst us) → Rws H c DD us M → (∀ x ∈ M, x.length = wd ∧ ∀ b ∈ x, b.natAbs < B) → Coil H c d ns (m + s * n) → SameBut c H1 H → Qd H) :
    ∃ W : Nat → Nat → Hp → Prop, (∃ m, W 0 m (upd H1 DD (.lst []))) ∧ ∀ i m H, W i m H →
      ((Itr lo n).stop i H ∧ Qd H) ∨ ((Itr lo n).go i H ∧ ∃ Nx : Hp → Prop, (∀ H', Nx H' → ∃ m', m' < m ∧ W (i + 1) m' H') ∧ ∀ x H', (Itr lo n).yld i H x H' → gName i0 x (wipe σ vs) H' fun σ2 H2 => wipe σ2 vs = wipe σ vs ∧ tYes σ2 H2 fun b H3 =>
        if b = true then te σ2 H3 fun y H4 => ∃ acc, H4 DD = some (.lst acc) ∧ acc.length < sizeLine ∧ Nx (upd H4 DD (.lst (acc ++ [y]))) else Nx H3) := by
  obtain ⟨nDc, nDd⟩ := hC.ne hD
  refine lc_it walk_range (fun i H => ∃ (us : List V) (M : List Vec), M.length = i ∧ H DD = some (.lst us) ∧ Rws H c DD us M ∧ (∀ x ∈ M, x.length = wd ∧ ∀ b ∈ x, b.natAbs < B) ∧ Coil H c d ns (m + s * i) ∧ SameBut c H1 H)
    ⟨[], [], rfl, upd_same, Rws.nil _ _ _, fun _ h => absurd h List.not_mem_nil, hC.upd nDc nDd, new_but hD⟩ (fun _ _ _ _ => trivial) ?_ ?_
  · rintro i x H H' hi ⟨us, M, l, hx, hR, hM, hC2, sb⟩ ⟨rfl, rfl⟩
    refine ⟨hw _, ?_⟩
    have hsi : s * i ≤ s * n := Nat.mul_le_mul_left s (Nat.le_of_lt hi)
    refine he i _ _ hi (by omega) hC2 sb _ fun q xs H2 hq nqc hq2 lx hb hC3 sb2 => ⟨us, sb2 _ _ nDc hx, ?_, us ++ [.ref q], M ++ [xs], by rw [List.length_append, l]; rfl, upd_same, ?_, fun y hy => ?_, ?_, fun b o n e => ?_⟩
    · rw [hR.1, l]
      exact Nat.lt_of_lt_of_le hi (Nat.le_trans hn (by decide))
    · have nqD : q ≠ DD := fun e => by rw [e, hx] at hq; cases hq
      refine Rws.snoc ((hR.mono fun b o n1 _ e => sb2 b o n1 e).mono fun b o _ n2 e => ?_) nqc nqD ?_
      · rw [upd_ne n2]; exact e
      · rw [upd_ne nqD]; exact hq2
    · rcases List.mem_append.mp hy with z | z
      · exact hM y z
      · rw [List.mem_singleton.mp z]; exact ⟨lx, hb⟩
    · have e : m + s * (i + 1) = m + s * i + s := by rw [Nat.mul_succ]; omega
      rw [e]
      exact hC3.upd nDc nDd
    · rw [upd_ne (ne_of_none e hD)]
      exact sb2 _ _ n (sb _ _ n e)
  · rintro H ⟨us, M, l, hx, hR, hM, hC2, sb⟩
    exact hd H us M l hx hR hM hC2 sb
end K0


set_option Elab.async false
set_option linter.all false
set_option maxRecDepth 100000
set_option maxHeartbeats 8000000
set_option exponentiation.threshold 100000
namespace K0
open PySem PySem.Spec PyProof.Rows L2 RZ K0z K3

abbrev scQ1 : Scope := { kind := ScopeKind.function, names := [((".0" : Str), NameKind.local), (("turn" : Str), NameKind.local), (("range" : Str), NameKind.globalImplicit), (("loom" : Str), NameKind.cell), (("size" : Str), NameKind.cell), (("wide" : Str), NameKind.cell)], isGenerator := false, isCoroutine := false }
abbrev scQ2 : Scope := { kind := ScopeKind.function, names := [((".0" : Str), NameKind.local), (("turn" : Str), NameKind.cell), (("zip" : Str), NameKind.globalImplicit), (("points" : Str), NameKind.cell), (("step" : Str), NameKind.cell)], isGenerator := false, isCoroutine := false }
theorem Rws.put {H : Hp} {c a q : Addr} {us : List V} {M : List Vec} {k : Nat} {x : Vec} (h : Rws H c a us M) (n1 : q ≠ c) (n2 : q ≠ a) (hq : H q = some (.lst (x.map V.int))) : Rws (upd H a (.lst (us.set k (.ref q)))) c a (us.set k (.ref q)) (M.set k x) := by
  refine ⟨by rw [List.length_set, List.length_set, h.1], fun i u y h1 h2 => ?_⟩
  rw [List.getElem?_set] at h1 h2
  by_cases e : k = i
  · rw [if_pos e] at h1 h2
    by_cases hk : k < us.length
    · have hk2 : k < M.length := by rw [← h.1]; exact hk
      rw [if_pos hk] at h1
      rw [if_pos hk2] at h2
      cases h1
      cases h2
      exact ⟨q, rfl, n1, n2, by rw [upd_ne n2]; exact hq⟩
    · rw [if_neg hk] at h1
      cases h1
  · rw [if_neg e] at h1 h2
    obtain ⟨q2, e2, m1, m2, z⟩ := h.2 i u y h1 h2
    exact ⟨q2, e2, m1, m2, by rw [upd_ne m2]; exact z⟩
section
variable {P : Program} {w : World} {K : PySem.W.Frag} {mg : Str → Option Value} {base : Heap} {f g g2 g3 g4 : Addr} {fd : FuncData}
def spPoints (K : PySem.W.Frag) : Sp := fun vs H Q _ => ∃ (c d : Addr) (ns : List Int) (m w : Nat), vs = [.ref c, .int (w : Nat)] ∧ Coil H c d ns m ∧ m + 500 ≤ 80000 ∧ 2 ≤ w ∧ w ≤ 6 ∧
  ∀ (p : Addr) (us : List V) (M : List Vec) (H' : Hp), p ≠ c → H' p = some (.lst us) → Rws H' c p us M → M.length = w → (∀ x ∈ M, x.length = w) → (∀ x ∈ M, ∀ b ∈ x, b.natAbs ≤ 2 ^ 75) → Coil H' c d ns (m + 500) → SameBut c H H' → Q (.ref p) H'
theorem sc_points : FnScope ["loom", "wide", "size", "points", "place", "turn", "way", "at", "others", "row", "other", "by", "mine", "its", "first", "step", "same", "point"] ["loom", "wide"] (defScope st__law_points) := ⟨rfl, rfl, rfl, by decide +kernel, rfl, by decide +kernel, by decide +kernel⟩
theorem ok_points (F : Fun K "_law_points" "_law_points" st__law_points f fd) (T : Nm mg) (D__law_thread : Dn P w K mg base 1 "_law_thread" g ["loom", "many"] spTurn) (D__law_one_of : Dn P w K mg base 2 "_law_one_of" g2 ["loom", "some"] (spOne K)) (D__law_number : Dn P w K mg base 2 "_law_number" g3 ["loom", "size"] spNum) : FnOk P w K mg base CX0 3 f fd ["loom", "wide"] (spPoints K) := by
  refine F.ok sc_points (fun vs H Q E h => ?_) (fun cdv A outer s H vs Q E hr h => ?_)
  · obtain ⟨c, d, ns, m, w, rfl, _⟩ := h
    rfl
  · obtain ⟨c, d, ns, m, w, rfl, hC, hm, w2, w6, k⟩ := h
    refine ⟨_, (pss_cons (ps_set (i := 2) sc_points.nd rfl (Or.inr rfl) (pe_dn D__law_one_of (hr.mono (by decide)) rfl (pa_cons (pv 0) (pa_cons (pe_lst (pa_cons pe_int (pa_cons pe_int (pa_cons pe_int (pa_cons pe_int (pa_cons (pe_op op_pow pe_int pe_int) (pa_cons (pe_op op_pow pe_int pe_int) pa_nil))))))) pa_nil))))
    (pss_cons (ps_set (i := 3) sc_points.nd rfl (Or.inr rfl) (pe_lc (own := [("turn", 5)]) (g := gName 5) (tt := tYes) rfl sc_points.nd (pi_range1 (by rfl) T.n_range (pa_cons (pv 1) pa_nil)) (blkOk_by (N := ["loom", "wide", "size", "points", "place", "turn", "way", "at", "others", "row", "other", "by", "mine", "its", "first", "step", "same", "point"]) (sc := defScope st__law_points) (by decide +kernel)) (fun _ _ _ _ _ => (pg_name (i := 5) sc_points.nd rfl (Or.inl rfl))) (fun _ _ _ _ _ => pts_nil) (fun _ _ _ _ _ => (pe_lc (own := [("place", 4)]) (g := gName 4) (tt := tYes) rfl sc_points.nd (pi_range1 (by rfl) T.n_range (pa_cons (pv 1) pa_nil)) (blkOk_by (N := ["loom", "wide", "size", "points", "place", "turn", "way", "at", "others", "row", "other", "by", "mine", "its", "first", "step", "same", "point"]) (sc := scQ1) (by decide +kernel)) (fun _ _ _ _ _ => (pg_name (i := 4) sc_points.nd rfl (Or.inl rfl))) (fun _ _ _ _ _ => pts_nil) (fun _ _ _ _ _ => (pe_dn D__law_number (hr.mono (by decide)) rfl (pa_cons (pv 0) (pa_cons (pv 2) pa_nil))))))))
    (pss_cons (ps_asg (pe_tup (pa_cons (pe_dn D__law_thread (hr.mono (by decide)) rfl (pa_cons (pv 0) (pa_cons pe_int pa_nil))) (pa_cons (pe_dn D__law_thread (hr.mono (by decide)) rfl (pa_cons (pv 0) (pa_cons (pv 1) pa_nil))) pa_nil))) (pg_tup (by rfl) (pgs_cons (pg_name (i := 6) sc_points.nd rfl (Or.inl rfl)) (pgs_cons (pg_name (i := 7) sc_points.nd rfl (Or.inr rfl)) pgs_nil))))
    (pss_cons (ps_if (pt_cmpR op_eq (pv 6) pe_int (nomark _)) (pss_one (ps_asg (pe_callTy (call_listK K) (by rfl) T.n_list (by decide +kernel) (pa_cons (pe_ix (ix_K K) (pv 3) (pe_op op_mod (pe_callTy call_int1 (by rfl) T.n_int (by decide +kernel) (pa_cons (pe_op op_add (pv 7) pe_int) pa_nil)) (pv 1)) (fun _ _ => rfl)) pa_nil)) (pg_sub (pv 3) (pv 7) set_list))) (pss_one (ps_if (pt_cmpR op_eq (pv 6) pe_int (nomark _)) (pss_cons (ps_set (i := 8) sc_points.nd rfl (Or.inl rfl) (pe_op op_cat (pe_slice sl_list (pv 3) po_none (po_some (pv 7))) (pe_slice sl_list (pv 3) (po_some (pe_op op_add (pv 7) pe_int)) po_none)))
    (pss_cons (ps_set (i := 9) sc_points.nd rfl (Or.inl rfl) (pe_callTy (call_listK K) (by rfl) T.n_list (by decide +kernel) (pa_cons (pe_ix (ix_K K) (pv 8) pe_int (fun _ _ => rfl)) pa_nil)))
    (pss_cons (ps_for PassesOwn.never rfl (pi_seqK K (pe_slice sl_list (pv 8) (po_some pe_int) po_none)) (pg_name (i := 10) sc_points.nd rfl (Or.inl rfl))
      (pss_cons (ps_set (i := 11) sc_points.nd rfl (Or.inr rfl) (pe_op op_sub (pe_dn D__law_thread (hr.mono (by decide)) rfl (pa_cons (pv 0) (pa_cons pe_int pa_nil))) pe_int))
    (pss_one (ps_setLc (i := 9) (own := [("mine", 12), ("its", 13), ("first", 14)]) (g := gTup K 3 (gCons (gName 12) (gCons (gName 13) (gCons (gName 14) gNil)))) (tt := tYes) rfl sc_points.nd rfl rfl (sw_true rfl rfl rfl (by decide +kernel)) (pi_zip3 K (by rfl) T.n_zip (pa_cons (pv 9) (pa_cons (pv 10) (pa_cons (pe_ix (ix_K K) (pv 8) pe_int (fun _ _ => rfl)) pa_nil)))) (blkOk_by (N := ["loom", "wide", "size", "points", "place", "turn", "way", "at", "others", "row", "other", "by", "mine", "its", "first", "step", "same", "point"]) (sc := defScope st__law_points) (by decide +kernel)) (fun _ _ _ _ _ => (pg_tup (by rfl) (pgs_cons (pg_name (i := 12) sc_points.nd rfl (Or.inl rfl)) (pgs_cons (pg_name (i := 13) sc_points.nd rfl (Or.inl rfl)) (pgs_cons (pg_name (i := 14) sc_points.nd rfl (Or.inl rfl)) pgs_nil))))) (fun _ _ _ _ _ => pts_nil) (fun _ _ _ _ _ => (pe_op op_add (pv 12) (pe_op op_mulW (pv 11) (pe_op op_sub (pv 13) (pv 14)))))))))
    (pss_one (ps_asg (pv 9) (pg_sub (pv 3) (pv 7) set_list)))))) (pss_one (ps_if (pt_cmpR op_eq (pv 6) pe_int (nomark _)) (pss_cons (ps_set (i := 15) sc_points.nd rfl (Or.inr rfl) (pe_lc (own := [("place", 4)]) (g := gName 4) (tt := tYes) rfl sc_points.nd (pi_range1 (by rfl) T.n_range (pa_cons (pv 1) pa_nil)) (blkOk_by (N := ["loom", "wide", "size", "points", "place", "turn", "way", "at", "others", "row", "other", "by", "mine", "its", "first", "step", "same", "point"]) (sc := defScope st__law_points) (by decide +kernel)) (fun _ _ _ _ _ => (pg_name (i := 4) sc_points.nd rfl (Or.inl rfl))) (fun _ _ _ _ _ => pts_nil) (fun _ _ _ _ _ => (pe_dn D__law_number (hr.mono (by decide)) rfl (pa_cons (pv 0) (pa_cons pe_int pa_nil))))))
    (pss_one (ps_set (i := 3) sc_points.nd rfl (Or.inr rfl) (pe_lc (own := [("turn", 5)]) (g := gName 5) (tt := tYes) rfl sc_points.nd (pi_range1 (by rfl) T.n_range (pa_cons (pv 1) pa_nil)) (blkOk_by (N := ["loom", "wide", "size", "points", "place", "turn", "way", "at", "others", "row", "other", "by", "mine", "its", "first", "step", "same", "point"]) (sc := defScope st__law_points) (by decide +kernel)) (fun _ _ _ _ _ => (pg_name (i := 5) sc_points.nd rfl (Or.inr rfl))) (fun _ _ _ _ _ => pts_nil) (fun _ _ _ _ _ => (pe_lc (own := [("mine", 12), ("its", 13)]) (g := gTup K 2 (gCons (gName 12) (gCons (gName 13) gNil))) (tt := tYes) rfl sc_points.nd (pi_zipMK K (by rfl) T.n_zip (pa_cons (pe_ix (ix_K K) (pv 3) pe_int (fun _ _ => rfl)) (pa_cons (pv 15) pa_nil))) (blkOk_by (N := ["loom", "wide", "size", "points", "place", "turn", "way", "at", "others", "row", "other", "by", "mine", "its", "first", "step", "same", "point"]) (sc := scQ2) (by decide +kernel)) (fun _ _ _ _ _ => (pg_tup (by rfl) (pgs_cons (pg_name (i := 12) sc_points.nd rfl (Or.inl rfl)) (pgs_cons (pg_name (i := 13) sc_points.nd rfl (Or.inl rfl)) pgs_nil)))) (fun _ _ _ _ _ => pts_nil) (fun _ _ _ _ _ => (pe_op op_add (pv 12) (pe_op op_mulW (pv 5) (pv 13)))))))))) (pss_one (ps_if (pt_cmpR op_eq (pv 6) pe_int (nomark _)) (pss_cons (ps_set (i := 16) sc_points.nd rfl (Or.inr rfl) (pe_dn D__law_number (hr.mono (by decide)) rfl (pa_cons (pv 0) (pa_cons (pv 2) pa_nil))))
    (pss_one (ps_set (i := 3) sc_points.nd rfl (Or.inr rfl) (pe_lc (own := [("point", 17)]) (g := gName 17) (tt := tYes) rfl sc_points.nd (pi_seqK K (pv 3)) (blkOk_by (N := ["loom", "wide", "size", "points", "place", "turn", "way", "at", "others", "row", "other", "by", "mine", "its", "first", "step", "same", "point"]) (sc := defScope st__law_points) (by decide +kernel)) (fun _ _ _ _ _ => (pg_name (i := 17) sc_points.nd rfl (Or.inl rfl))) (fun _ _ _ _ _ => pts_nil) (fun _ _ _ _ _ => (pe_op op_cat (pe_op op_cat (pe_slice (sl_K K) (pv 17) po_none (po_some (pv 7))) (pe_lst (pa_cons (pv 16) pa_nil))) (pe_slice (sl_K K) (pv 17) (po_some (pe_op op_add (pv 7) pe_int)) po_none))))))) pss_nil)))))))
    (pss_one (ps_ret (pv 3))))))), ?_⟩
    refine ⟨_, rfl, 10, 6, rfl, rfl, ⟨by decide, by decide, by decide⟩, 10, 17, rfl, rfl, ⟨by decide, by decide, by decide⟩, (by show 6 ≤ sizeLine; decide), fun L hL => ?_⟩
    have nLc := (hC.ne hL).1
    refine ⟨c, d, ns, m, false, L, _, rfl, hC.but (same_upd hL), by omega, .of (off1 upd_same nLc), by decide, by decide, fun iz y H1 hy hC1 sb1 => ?_⟩
    obtain ⟨size, rfl, sz0, sz1⟩ : ∃ size : Int, y = .int size ∧ 0 < size ∧ size ≤ 100000000000000000 := by
      have := List.mem_of_getElem? hy
      simp only [List.mem_cons, List.not_mem_nil, or_false] at this
      rcases this with rfl | rfl | rfl | rfl | rfl | rfl
      · exact ⟨_, rfl, by decide, by decide⟩
      · exact ⟨_, rfl, by decide, by decide⟩
      · exact ⟨_, rfl, by decide, by decide⟩
      · exact ⟨_, rfl, by decide, by decide⟩
      · exact ⟨_, rfl, by decide, by decide⟩
      · exact ⟨_, rfl, by decide, by decide⟩
    have sb01 : SameBut c H H1 := (new_but hL).trans sb1
    -- the points
    refine ⟨_, rfl, _, rfl, by omega, by omega, fun PD hPD => lc_rowsD (n := w) (s := 2 * w) (wd := w) (B := 2 ^ 68) (by omega) hPD hC1 (fun x => rfl) ?_ ?_⟩
    · intro i H2 m' hi hm' hC2 sb2 R hR
      have hmm : 2 * w * w ≤ 72 := by
        have := Nat.mul_le_mul (Nat.mul_le_mul_left 2 w6) w6
        omega
      refine ⟨_, rfl, _, rfl, by omega, by omega, fun q hq => lc_draw (lo := 0) (n := w) (by omega) hq hC2 (fun x => rfl) ?_ ?_⟩
      · intro x H3 m2 hm2 hC3 R2 hR2
        exact ⟨_, rfl, _, rfl, c, d, ns, m2, size, rfl, hC3, by omega, sz0, sz1, hR2⟩
      · intro H3 xs lx bx hq3 hC3 sb3
        exact hR q xs H3 hq (hC2.ne hq).1 hq3 lx bx hC3 sb3
    intro H2 us M hMl hPD2 hRw hMb hC2 sb2
    have hmm : 2 * w * w ≤ 72 := by
      have := Nat.mul_le_mul (Nat.mul_le_mul_left 2 w6) w6
      omega
    have nPc := (hC1.ne hPD).1
    have sb02 := sb01.trans sb2
    have hC2' : Coil H2 c d ns (m + 80) := hC2.more (by omega)
    have hPH : H PD = none := none_back sb01 nPc hPD
    -- way, at
    refine ⟨_, rfl, c, d, ns, m + 80, 9, rfl, hC2', by omega, by decide, small9000 (by decide), fun way H3 a3 b3 hC3 sb3 => ⟨_, rfl, _, rfl, c, d, ns, m + 81, (w : Nat), rfl, hC3, by omega, by omega, natAbs_small (k := 0) (by omega), fun at' H4 a4 b4 hC4 sb4 => ⟨(by show 2 ≤ sizeLine; decide), fun T0 hT0 => ?_⟩⟩⟩
    obtain ⟨at', rfl⟩ : ∃ n : Nat, at' = (n : Int) := ⟨at'.toNat, by omega⟩
    have hat : at' < w := by omega
    have sT := same_upd (o := .tup [.int way, .int at']) hT0
    refine ⟨T0, _, rfl, .of upd_same, rfl, _, _, rfl, _, _, rfl, rfl, ?_⟩
    have sb24 := (sb3.trans sb4).trans (SameBut.of sT)
    have hC5 : Coil (upd H4 T0 (.tup [.int way, .int at'])) c d ns (m + 83) := (hC4.but sT).more (by omega)
    have hPD5 := sb24 _ _ nPc hPD2
    have hRw5 : Rws (upd H4 T0 (.tup [.int way, .int at'])) c PD us M := hRw.mono fun b o n _ e => sb24 b o n e
    have sb05 := sb02.trans sb24
    generalize upd H4 T0 (.tup [.int way, .int at']) = H5 at sb05 hC5 hPD5 hRw5 ⊢
    have hMw : ∀ x ∈ M, x.length = w := fun x hx => (hMb x hx).1
    have hM75 : ∀ x ∈ M, ∀ b ∈ x, b.natAbs ≤ 2 ^ 75 := fun x hx b hb => Nat.le_of_lt (Nat.lt_trans ((hMb x hx).2 b hb) (by decide))
    have hus : us.length = w := by rw [hRw.1, hMl]
    refine ⟨_, rfl, rfl, _, rfl, ?_⟩
    by_cases c0 : V.int way = V.int 0
    · rw [decide_eq_true c0]
      refine iteT ?_
      have hj : (at' + 1) % w < w := Nat.mod_lt _ (by omega)
      obtain ⟨q, hq1, nqc, nqP, hq2⟩ := hRw5.2 ((at' + 1) % w) _ _ (List.getElem?_eq_getElem (by omega : (at' + 1) % w < us.length)) (List.getElem?_eq_getElem (by omega : (at' + 1) % w < M.length))
      have hu : us[(at' + 1) % w]? = some (.ref q) := by rw [List.getElem?_eq_getElem (by omega : (at' + 1) % w < us.length), hq1]
      have ee : (((at' : Nat) : Int) + 1) % ((w : Nat) : Int) = (((at' + 1) % w : Nat) : Int) := by rw [Int.natCast_emod]; rfl
      refine ⟨_, rfl, _, rfl, _, 1, rfl, rfl, .inl ⟨_, rfl, _, rfl, _, (w : Nat), rfl, rfl, (by show (0 : Int) < (w : Nat); omega), ?_⟩⟩
      dsimp only
      rw [ee]
      refine ⟨false, PD, us, _, .ref q, rfl, rfl, .of hPD5, atI_nat hu, false, q, _, rfl, .of hq2, fun l hl => ?_⟩
      have sl := same_upd (o := .lst ((M[(at' + 1) % w]'(by omega)).map V.int)) hl
      have nlc := (hC5.ne hl).1
      have nlP : l ≠ PD := fun e => by rw [e, hPD5] at hl; cases hl
      refine ⟨_, rfl, _, rfl, PD, us, (at' : Nat), at', rfl, rfl, sl _ _ hPD5, ixN_nat (by omega), ?_⟩
      have hR2 := (hRw5.mono fun b o _ _ e => sl b o e).put (k := at') (x := M[(at' + 1) % w]'(by omega)) nlc nlP upd_same
      have hm := List.getElem_mem (by omega : (at' + 1) % w < M.length)
      refine ⟨_, rfl, k PD _ _ _ nPc upd_same hR2 (by rw [List.length_set, hMl]) (fun x hx => ?_) (fun x hx => ?_) (((hC5.but sl).upd nPc (hC.ne hPH).2).more (by omega)) ((sb05.trans (SameBut.of sl)).put hPH)⟩
      · rcases List.mem_or_eq_of_mem_set hx with z | z
        · exact hMw x z
        · rw [z]; exact hMw _ hm
      · rcases List.mem_or_eq_of_mem_set hx with z | z
        · exact hM75 x z
        · rw [z]; exact hM75 _ hm
    rw [decide_eq_false c0]
    refine iteF ⟨_, rfl, rfl, _, rfl, ?_⟩
    by_cases c1 : V.int way = V.int 1
    · rw [decide_eq_true c1]
      refine iteT ?_
      refine ⟨_, rfl, _, rfl, (at' : Nat), rfl, PD, us, rfl, .of hPD5, fun p1 hp1 => ?_⟩
      rw [cut_to]
      have t1 := same_upd (o := .lst (us.take at')) hp1
      have y1 : upd H5 p1 (.lst (us.take at')) p1 = some (.lst (us.take at')) := upd_same
      generalize upd H5 p1 (.lst (us.take at')) = G1 at t1 y1 ⊢
      refine ⟨_, rfl, _, rfl, _, 1, rfl, rfl, _, rfl, PD, us, rfl, .of (t1 _ _ hPD5), fun p2 hp2 => ?_⟩
      have ec : cutV us (some (((at' : Nat) : Int) + 1)) none = us.drop (at' + 1) := cut_from us (at' + 1)
      rw [ec]
      have t2 := same_upd (o := .lst (us.drop (at' + 1))) hp2
      refine ⟨p1, p2, _, _, rfl, rfl, t2 _ _ y1, upd_same, Nat.le_trans (by rw [List.length_take, List.length_drop]; omega : (us.take at').length + (us.drop (at' + 1)).length ≤ 20) (by decide), fun OD hOD => ?_⟩
      have t3 := same_upd (o := .lst (us.take at' ++ us.drop (at' + 1))) hOD
      have y3 : upd (upd G1 p2 (.lst (us.drop (at' + 1)))) OD (.lst (us.take at' ++ us.drop (at' + 1))) OD = some (.lst (us.take at' ++ us.drop (at' + 1))) := upd_same
      have t13 := t1.trans (t2.trans t3)
      have nOc := fresh1 hC5 (t1.trans t2) hOD
      generalize upd (upd G1 p2 (.lst (us.drop (at' + 1)))) OD (.lst (us.take at' ++ us.drop (at' + 1))) = H6 at t13 y3 ⊢
      have hRo : Rws H6 c PD (us.take at' ++ us.drop (at' + 1)) (M.take at' ++ M.drop (at' + 1)) := by
        have h6 : Rws H6 c PD us M := hRw5.mono fun b o _ _ e => t13 b o e
        have e1 : us.take at' ++ us.drop (at' + 1) = us.eraseIdx at' := (List.eraseIdx_eq_take_drop_succ _ _).symm
        have e2 : M.take at' ++ M.drop (at' + 1) = M.eraseIdx at' := (List.eraseIdx_eq_take_drop_succ _ _).symm
        rw [e1, e2]
        refine ⟨by rw [List.length_eraseIdx, List.length_eraseIdx, h6.1], fun i u x g1 g2 => ?_⟩
        rw [List.getElem?_eraseIdx] at g1 g2
        by_cases hi : i < at'
        · rw [if_pos hi] at g1 g2; exact h6.2 _ u x g1 g2
        · rw [if_neg hi] at g1 g2; exact h6.2 _ u x g1 g2
      have hMo : ∀ x ∈ M.take at' ++ M.drop (at' + 1), x ∈ M := fun x hx => by
        rcases List.mem_append.mp hx with z | z
        · exact List.mem_of_mem_take z
        · exact List.mem_of_mem_drop z
      have lo : (M.take at' ++ M.drop (at' + 1)).length = w - 1 := by rw [List.length_append, List.length_take, List.length_drop]; omega
      have luo : (us.take at' ++ us.drop (at' + 1)).length = w - 1 := by rw [hRo.1, lo]
      generalize us.take at' ++ us.drop (at' + 1) = uo at y3 hRo luo
      generalize M.take at' ++ M.drop (at' + 1) = Mo at hRo hMo lo
      obtain ⟨q0, hq01, nq0c, nq0P, hq0⟩ := hRo.2 0 _ _ (List.getElem?_eq_getElem (by omega : 0 < uo.length)) (List.getElem?_eq_getElem (by omega : 0 < Mo.length))
      have hu0 : uo[0]? = some (.ref q0) := by rw [List.getElem?_eq_getElem (by omega : 0 < uo.length), hq01]
      have hm0 := hMo _ (List.getElem_mem (by omega : 0 < Mo.length))
      have l0 := hMw _ hm0
      have b0 := (hMb _ hm0).2
      generalize Mo[0]'(by omega) = f0 at hq0 l0 b0 hm0
      refine ⟨_, rfl, false, OD, uo, 0, .ref q0, rfl, rfl, .of y3, atI_nat (j := 0) hu0, false, q0, _, rfl, .of hq0, fun rq hrq => ?_⟩
      have t4 := same_upd (o := .lst (f0.map V.int)) hrq
      have t14 := t13.trans t4
      have nrc := fresh1 hC5 t13 hrq
      have nrP : rq ≠ PD := fun e => by have := t13 _ _ hPD5; rw [← e, hrq] at this; cases this
      have y4 : upd H6 rq (.lst (f0.map V.int)) rq = some (.lst (f0.map V.int)) := upd_same
      have hO7 := t4 _ _ y3
      have hq07 := t4 _ _ hq0
      have hRo7 : Rws (upd H6 rq (.lst (f0.map V.int))) c PD uo Mo := hRo.mono fun b o _ _ e => t4 b o e
      have hPD7 := t14 _ _ hPD5
      have hRw7 : Rws (upd H6 rq (.lst (f0.map V.int))) c PD us M := hRw5.mono fun b o _ _ e => t14 b o e
      have hC7 := hC5.but t14
      have sb07 := sb05.trans (SameBut.of t14)
      generalize upd H6 rq (.lst (f0.map V.int)) = H7 at y4 hO7 hq07 hRo7 hPD7 hRw7 hC7 sb07 ⊢
      refine ⟨_, rfl, 1, rfl, OD, uo, rfl, .of hO7, fun ZD hZD => ⟨false, ZD, rfl, ⟨_, .of upd_same⟩, ?_⟩⟩
      rw [cut_drop]
      have tZ := same_upd (o := .lst (uo.drop 1)) hZD
      have nZc := (hC7.ne hZD).1
      have yZ : upd H7 ZD (.lst (uo.drop 1)) ZD = some (.lst (uo.drop 1)) := upd_same
      have sb08 := sb07.trans (SameBut.of tZ)
      have hC8 := hC7.but tZ
      have sb78 := SameBut.of (c := c) tZ
      generalize upd H7 ZD (.lst (uo.drop 1)) = H8 at yZ sb08 hC8 sb78 ⊢
      refine for_it (walk_seq (b := false) (xs := uo.drop 1)) (fun i σ H9 => ∃ (x10 x11 : Option V) (q : Addr) (xs : Vec), σ = [some (.ref c), some (.int (w : Nat)), some (.int size), some (.ref PD), none, none, some (.int way), some (.int (at' : Nat)), some (.ref OD), some (.ref q), x10, x11, none, none, none, none, none, none] ∧
          q ≠ c ∧ q ≠ PD ∧ H9 q = some (.lst (xs.map V.int)) ∧ xs.length = w ∧ (∀ b ∈ xs, b.natAbs ≤ (1 + 8 * i) * 2 ^ 68) ∧ Coil H9 c d ns (m + 83 + i) ∧ SameBut c H8 H9)
        ⟨none, none, rq, f0, rfl, nrc, nrP, sb78 _ _ nrc y4, l0, fun b hb => by have := b0 b hb; omega, hC8, SameBut.refl c H8⟩ (fun i σ H9 _ ⟨_, _, _, _, _, _, _, _, _, _, _, h⟩ => .of (h _ _ nZc yZ)) ?_ ?_
      · rintro i x σ H9 H10 hi ⟨x10, x11, q, xs, rfl, nqc, nqP, hq9, lx, bx, hC9, sb9⟩ ⟨rfl, hx⟩
        rw [List.length_drop] at hi
        rw [List.getElem?_drop, Nat.add_comm] at hx
        have hio : i + 1 < Mo.length := by omega
        obtain ⟨qi, rfl, nqic, _, hqi⟩ := hRo7.2 (i + 1) x _ hx (List.getElem?_eq_getElem hio)
        have hmi := hMo _ (List.getElem_mem hio)
        have li := hMw _ hmi
        have bi := (hMb _ hmi).2
        generalize Mo[i + 1] = fi at hqi hmi li bi
        have hi6 : i ≤ 4 := by omega
        refine ⟨_, rfl, c, d, ns, m + 83 + i, 5, rfl, hC9, by omega, by decide, small9000 (by decide), fun r H11 r0 r1 hC11 sb11 => ⟨r, 2, rfl, rfl, ?_⟩⟩
        dsimp only
        have hby : (r - 2).natAbs ≤ 2 := by omega
        generalize r - 2 = by_ at hby
        have sb811 := sb9.trans sb11
        have hq11 := sb11 _ _ nqc hq9
        have hqi11 := sb811 _ _ nqic (sb78 _ _ nqic hqi)
        have hq011 := sb811 _ _ nq0c (sb78 _ _ nq0c hq07)
        have hO11 := sb811 _ _ nOc (sb78 _ _ nOc hO7)
        refine ⟨_, rfl, _, rfl, _, rfl, false, OD, uo, 0, .ref q0, rfl, rfl, .of hO11, atI_nat (j := 0) hu0, q, qi, q0, _, _, _, rfl, .of hq11, .of hqi11, .of hq011, fun ND hND => lc_fun (fun t => V.int (xs.getD t 0 + by_ * (fi.getD t 0 - f0.getD t 0))) (walk_zip3 (n := w) (by rw [List.length_map, lx]) (by rw [List.length_map, li]) (by rw [List.length_map, l0])) hND (Nat.lt_of_le_of_lt w6 (by decide)) (fun H s => ⟨.of (s _ _ hq11), .of (s _ _ hqi11), .of (s _ _ hq011)⟩) ?_ ?_⟩
        · rintro t u H12 H13 ht s12 _ ⟨T', x', y', z', rfl, hTt, rfl, e3, e4, e5⟩ Rk2 kk3
          obtain ⟨n1, hn1, rfl⟩ := map_int_get e3
          obtain ⟨n2, hn2, rfl⟩ := map_int_get e4
          obtain ⟨n3, hn3, rfl⟩ := map_int_get e5
          have c2 := bi n2 (List.mem_of_getElem? hn2)
          have c3 := b0 n3 (List.mem_of_getElem? hn3)
          refine ⟨T', _, rfl, .of upd_same, rfl, _, _, rfl, _, _, rfl, _, _, rfl, rfl, rfl, _, rfl, _, rfl, _, rfl, _, rfl, n2, n3, rfl, rfl, by_, _, rfl, rfl, wide_mul (a := 3) (b := 70) (Nat.lt_of_le_of_lt hby (by decide)) (by omega) (by decide) (by decide) (by decide), n1, _, rfl, rfl, ?_⟩
          have e := kk3 _ (same_upd (o := .tup [.int n1, .int n2, .int n3]) hTt)
          rw [List.getD_eq_getElem?_getD (l := xs) (i := t), List.getD_eq_getElem?_getD (l := fi) (i := t), List.getD_eq_getElem?_getD (l := f0) (i := t), hn1, hn2, hn3] at e
          exact e
        · intro H12 hN12 s12
          have eN : (List.range w).map (fun t => V.int (xs.getD t 0 + by_ * (fi.getD t 0 - f0.getD t 0))) = ((List.range w).map fun t => xs.getD t 0 + by_ * (fi.getD t 0 - f0.getD t 0)).map V.int := by rw [List.map_map]; rfl
          rw [eN] at hN12
          refine ⟨_, _, ND, _, rfl, (hC11.ne hND).1, fun e => ?_, hN12, by rw [List.length_map, List.length_range], fun b hb => ?_, (hC11.but s12).more (by omega), sb811.trans (SameBut.of s12)⟩
          · have := sb811 _ _ nPc (sb78 _ _ nPc hPD7)
            rw [← e, hND] at this
            cases this
          · obtain ⟨t, _, rfl⟩ := List.mem_map.mp hb
            have g1 : (xs.getD t 0).natAbs ≤ (1 + 8 * i) * 2 ^ 68 := getD_mem (P := fun b => b.natAbs ≤ (1 + 8 * i) * 2 ^ 68) (Nat.zero_le _) bx
            have g2 : (fi.getD t 0).natAbs < 2 ^ 68 := getD_mem (P := fun b => b.natAbs < 2 ^ 68) (by decide) bi
            have g3 : (f0.getD t 0).natAbs < 2 ^ 68 := getD_mem (P := fun b => b.natAbs < 2 ^ 68) (by decide) b0
            have g4 := Int.natAbs_add_le (xs.getD t 0) (by_ * (fi.getD t 0 - f0.getD t 0))
            have g5 : (by_ * (fi.getD t 0 - f0.getD t 0)).natAbs ≤ 2 * (2 ^ 68 + 2 ^ 68) := by
              rw [Int.natAbs_mul]
              exact Nat.mul_le_mul hby (by omega)
            have g6 : (1 + 8 * (i + 1)) * 2 ^ 68 = (1 + 8 * i) * 2 ^ 68 + 8 * 2 ^ 68 := by rw [← Nat.add_mul]; congr 1
            omega
      · rintro σ H9 ⟨x10, x11, q, xs, rfl, nqc, nqP, hq9, lx, bx, hC9, sb9⟩
        have hPD9 := sb9 _ _ nPc (sb78 _ _ nPc hPD7)
        have hRw9 : Rws H9 c PD us M := (hRw7.mono fun b o n _ e => sb78 b o n e).mono fun b o n _ e => sb9 b o n e
        rw [List.length_drop, luo] at bx hC9
        have hR10 := hRw9.put (k := at') (x := xs) nqc nqP hq9
        refine ⟨_, rfl, _, rfl, _, rfl, PD, us, (at' : Nat), at', rfl, rfl, hPD9, ixN_nat (by omega), ?_⟩
        refine ⟨_, rfl, k PD _ _ _ nPc upd_same hR10 (by rw [List.length_set, hMl]) (fun x hx => ?_) (fun x hx => ?_) ((hC9.upd nPc (hC.ne hPH).2).more (by omega)) ((sb08.trans sb9).put hPH)⟩
        · rcases List.mem_or_eq_of_mem_set hx with z | z
          · exact hMw x z
          · rw [z]; exact lx
        · rcases List.mem_or_eq_of_mem_set hx with z | z
          · exact hM75 x z
          · rw [z]
            intro b hb
            refine Nat.le_trans (bx b hb) (Nat.le_trans (Nat.mul_le_mul_right _ (by omega : 1 + 8 * (w - 1 - 1) ≤ 64)) (by decide))
    rw [decide_eq_false c1]
    refine iteF ⟨_, rfl, rfl, _, rfl, ?_⟩
    by_cases c2 : V.int way = V.int 2
    · rw [decide_eq_true c2]
      refine iteT ?_
      obtain ⟨q0, hq01, nq0c, nq0P, hq0⟩ := hRw5.2 0 _ _ (List.getElem?_eq_getElem (by omega : 0 < us.length)) (List.getElem?_eq_getElem (by omega : 0 < M.length))
      have hu0 : us[0]? = some (.ref q0) := by rw [List.getElem?_eq_getElem (by omega : 0 < us.length), hq01]
      have hm0 := List.getElem_mem (by omega : 0 < M.length)
      have l0 := hMw _ hm0
      refine ⟨_, rfl, _, rfl, by omega, by omega, fun sq hsq => lc_draw (lo := 0) (n := w) (by omega) hsq hC5 (fun x => rfl) ?_ ?_⟩
      · intro x H6 m2 hm2 hC6 R2 hR2
        exact ⟨_, rfl, c, d, ns, m2, 3, rfl, hC6, by omega, by decide, by decide, hR2⟩
      intro H6 xs lx bx hsq6 hC6 sb6
      have hPD6 := sb6 _ _ nPc hPD5
      have hq06 := sb6 _ _ nq0c hq0
      refine ⟨_, rfl, _, rfl, by omega, by omega, fun E hE => lc_rel (R := fun i y H => ∃ q : Addr, y = .ref q ∧ q ≠ c ∧ H q = some (.lst ((List.zipWith (fun mine its => mine + (0 + (i : Int)) * its) (M[0]'(by omega)) xs).map V.int))) walk_range hE (Nat.lt_of_le_of_lt (by omega : _ ≤ 6) (by decide)) (fun _ _ => trivial)
        (fun i y H H' s ⟨q, e1, e2, t⟩ => ⟨q, e1, e2, s _ _ t⟩) ?_ ?_⟩
      · rintro i x H7 H8 hi s7 ⟨acc, hacc⟩ ⟨rfl, rfl⟩ Rk kk
        have hi6 : i < 6 := by omega
        refine ⟨rfl, _, rfl, false, PD, us, 0, .ref q0, rfl, rfl, .of (s7 _ _ hPD6), atI_nat (j := 0) hu0, _, rfl, false, false, q0, sq, _, _, rfl, .of (s7 _ _ hq06), .of (s7 _ _ hsq6), fun D2 hD2 => lc_fun (fun t => V.int ((M[0]'(by omega)).getD t 0 + (0 + (i : Int)) * xs.getD t 0)) (walk_zipM rfl) hD2 ?_ (fun H s => ⟨.of (s _ _ (s7 _ _ hq06)), .of (s _ _ (s7 _ _ hsq6))⟩) ?_ ?_⟩
        · rw [List.length_map, List.length_map, l0]
          exact Nat.lt_of_le_of_lt (Nat.le_trans (Nat.min_le_left _ _) w6) (by decide)
        · rintro t v H9 H10 ht s9 _ ⟨T', x', y', rfl, hTt, rfl, e3, e4⟩ Rk2 kk3
          obtain ⟨n1, hn1, rfl⟩ := map_int_get e3
          obtain ⟨n2, hn2, rfl⟩ := map_int_get e4
          refine ⟨T', _, rfl, .of upd_same, rfl, _, _, rfl, _, _, rfl, rfl, rfl, _, rfl, _, rfl, _, rfl, _, n2, rfl, rfl, wide_mul (a := 5) (b := 68) (Nat.lt_of_le_of_lt (by omega : (0 + (i : Int)).natAbs ≤ 6) (by decide)) (bx n2 (List.mem_of_getElem? hn2)) (by decide) (by decide) (by decide), n1, _, rfl, rfl, ?_⟩
          have e := kk3 _ (same_upd (o := .tup [.int n1, .int n2]) hTt)
          rw [List.getD_eq_getElem?_getD (l := M[0]'(by omega)) (i := t), List.getD_eq_getElem?_getD (l := xs) (i := t), hn1, hn2] at e
          exact e
        · intro H9 hD9 s9
          rw [List.length_map, List.length_map, zip_list] at hD9
          refine kk _ _ s9 ⟨D2, rfl, fresh1 hC6 s7 hD2, ?_⟩
          rw [off_ne (fun e => by rw [e, hacc] at hD2; cases hD2)]
          exact hD9
      · rintro H7 ⟨es, les, hE7, s7, hr7⟩
        have les' : es.length = w := by omega
        refine ⟨_, rfl, k E es ((List.range w).map fun i : Nat => List.zipWith (fun mine its => mine + (0 + (i : Int)) * its) (M[0]'(by omega)) xs) H7 (hC6.ne hE).1 hE7 ⟨by rw [les', List.length_map, List.length_range], fun i u x e1 e2 => ?_⟩ (by rw [List.length_map, List.length_range]) (fun x hx => ?_) (fun x hx b hb => ?_) ((hC6.but s7).more (by omega)) (sb05.trans (sb6.trans (SameBut.of s7)))⟩
        · obtain ⟨q, e3, e4, t⟩ := hr7 i u e1
          have hiw : i < w := by rw [← les']; exact (List.getElem?_eq_some_iff.mp e1).1
          rw [List.getElem?_map, List.getElem?_range hiw] at e2
          cases e2
          have g := off_same _ _ _ _ t
          exact ⟨q, e3, e4, (fun z => by rw [z, off_self] at t; cases t), g⟩
        · obtain ⟨i, _, rfl⟩ := List.mem_map.mp hx
          rw [List.length_zipWith, l0, lx, Nat.min_self]
        · obtain ⟨i, hi, rfl⟩ := List.mem_map.mp hx
          have hiw := List.mem_range.mp hi
          obtain ⟨j, hj⟩ := List.mem_iff_getElem?.mp hb
          rw [List.getElem?_zipWith] at hj
          cases g1 : (M[0]'(by omega))[j]? with
          | none => rw [g1] at hj; cases hj
          | some u =>
            cases g2 : xs[j]? with
            | none => rw [g1, g2] at hj; cases hj
            | some u2 =>
              rw [g1, g2] at hj
              have b1 := (hMb _ hm0).2 u (List.mem_of_getElem? g1)
              have b2 := bx u2 (List.mem_of_getElem? g2)
              have e3 : u + (0 + (i : Int)) * u2 = b := Option.some.inj hj
              rw [← e3]
              have h4 := Int.natAbs_add_le u ((0 + (i : Int)) * u2)
              have h5 : ((0 + (i : Int)) * u2).natAbs ≤ 6 * 2 ^ 68 := by
                rw [Int.natAbs_mul]
                exact Nat.mul_le_mul (by omega) (Nat.le_of_lt b2)
              have h6 : 2 ^ 68 + 6 * 2 ^ 68 ≤ 2 ^ 75 := by decide
              omega
    rw [decide_eq_false c2]
    refine iteF ⟨_, rfl, rfl, _, rfl, ?_⟩
    by_cases c3 : V.int way = V.int 3
    · rw [decide_eq_true c3]
      refine iteT ?_
      refine ⟨_, rfl, _, rfl, c, d, ns, m + 83, size, rfl, hC5, by omega, sz0, sz1, fun r H6 hr hC6 sb6 => ?_⟩
      have hPD6 := sb6 _ _ nPc hPD5
      have hRw6 : Rws H6 c PD us M := hRw5.mono fun b o n _ e => sb6 b o n e
      refine ⟨_, rfl, false, PD, rfl, ⟨_, .of hPD6⟩, fun E hE => lc_rel (R := fun i y H => ∃ (q : Addr) (x : Vec), y = .ref q ∧ q ≠ c ∧ M[i]? = some x ∧ H q = some (.lst ((x.set at' r).map V.int))) (walk_seq (b := false)) hE (Nat.lt_of_le_of_lt (by omega : us.length ≤ 6) (by decide)) (fun H s => .of (s _ _ hPD6))
        (fun i y H H' s ⟨q, x, e1, e2, e3, t⟩ => ⟨q, x, e1, e2, e3, s _ _ t⟩) ?_ ?_⟩
      · rintro i x H7 H8 hi s7 ⟨acc, hacc⟩ ⟨rfl, hx⟩ Rk kk
        have hiM : i < M.length := by omega
        obtain ⟨q, rfl, nqc, _, hq⟩ := hRw6.2 i x _ hx (List.getElem?_eq_getElem hiM)
        have hq7 := s7 _ _ hq
        have lx := hMw _ (List.getElem_mem hiM)
        refine ⟨rfl, _, rfl, _, rfl, (at' : Nat), rfl, false, q, _, rfl, .of hq7, fun z => (by cases z), fun Y1 hY1 => ?_⟩
        rw [cut_to]
        have t1 := same_upd (o := if false = true then HO.tup (((M[i]).map V.int).take at') else HO.lst (((M[i]).map V.int).take at')) hY1
        have y1 : upd H8 Y1 (if false = true then HO.tup (((M[i]).map V.int).take at') else HO.lst (((M[i]).map V.int).take at')) Y1 = some (.lst (((M[i]).map V.int).take at')) := upd_same
        generalize upd H8 Y1 (if false = true then HO.tup (((M[i]).map V.int).take at') else HO.lst (((M[i]).map V.int).take at')) = G1 at t1 y1 ⊢
        refine ⟨_, rfl, (by show 1 ≤ sizeLine; decide), fun Y2 hY2 => ?_⟩
        have t2 := same_upd (o := .lst [.int r]) hY2
        refine ⟨Y1, Y2, _, _, rfl, rfl, t2 _ _ y1, upd_same, Nat.le_trans (m := 20) (by simp only [List.length_take, List.length_map, List.length_cons, List.length_nil]; omega) (by decide), fun Y3 hY3 => ?_⟩
        have t3 := same_upd (o := .lst (((M[i]).map V.int).take at' ++ [V.int r])) hY3
        have t123 := t1.trans (t2.trans t3)
        have y3 : upd (upd G1 Y2 (.lst [.int r])) Y3 (.lst (((M[i]).map V.int).take at' ++ [V.int r])) Y3 = some (.lst (((M[i]).map V.int).take at' ++ [V.int r])) := upd_same
        generalize upd (upd G1 Y2 (.lst [.int r])) Y3 (.lst (((M[i]).map V.int).take at' ++ [V.int r])) = G3 at t123 y3 ⊢
        refine ⟨_, rfl, _, rfl, _, 1, rfl, rfl, _, rfl, false, q, _, rfl, .of (t123 _ _ hq7), fun z => (by cases z), fun Y4 hY4 => ?_⟩
        have ec : cutV ((M[i]).map V.int) (some (((at' : Nat) : Int) + 1)) none = ((M[i]).map V.int).drop (at' + 1) := cut_from _ (at' + 1)
        rw [ec]
        have t4 := same_upd (o := if false = true then HO.tup (((M[i]).map V.int).drop (at' + 1)) else HO.lst (((M[i]).map V.int).drop (at' + 1))) hY4
        refine ⟨Y3, Y4, _, _, rfl, rfl, t4 _ _ y3, upd_same, Nat.le_trans (m := 20) (by simp only [List.length_append, List.length_take, List.length_drop, List.length_map, List.length_cons, List.length_nil]; omega) (by decide), fun Z hZ => ?_⟩
        have tall := t123.trans t4
        refine kk _ _ (tall.trans (same_upd hZ)) ⟨Z, _, rfl, fresh1 hC6 (s7.trans tall) hZ, List.getElem?_eq_getElem hiM, ?_⟩
        rw [off_ne (fun e => by
          have z := tall _ _ hacc
          rw [e] at hZ
          rw [hZ] at z
          cases z), upd_same, List.set_eq_take_append_cons_drop, if_pos (by omega), List.map_append, List.map_cons, List.map_take, List.map_drop, List.append_assoc]
        rfl
      · rintro H7 ⟨es, les, hE7, s7, hr7⟩
        refine ⟨_, rfl, k E es (M.map fun x => x.set at' r) H7 (hC6.ne hE).1 hE7 ⟨by rw [les, List.length_map, hus, hMl], fun i u x e1 e2 => ?_⟩ (by rw [List.length_map, hMl]) (fun x hx => ?_) (fun x hx b hb => ?_) ((hC6.but s7).more (by omega)) (sb05.trans (sb6.trans (SameBut.of s7)))⟩
        · obtain ⟨q, x', e3, e4, e5, t⟩ := hr7 i u e1
          rw [List.getElem?_map, e5] at e2
          cases e2
          have g := off_same _ _ _ _ t
          exact ⟨q, e3, e4, (fun z => by rw [z, off_self] at t; cases t), g⟩
        · obtain ⟨y, hy, rfl⟩ := List.mem_map.mp hx
          rw [List.length_set]; exact hMw y hy
        · obtain ⟨y, hy, rfl⟩ := List.mem_map.mp hx
          rcases List.mem_or_eq_of_mem_set hb with z | z
          · exact hM75 y hy b z
          · rw [z]; exact Nat.le_of_lt (Nat.lt_trans hr (by decide))
    rw [decide_eq_false c3]
    refine iteF ⟨_, rfl, ?_⟩
    exact k PD us M H5 nPc hPD5 hRw5 hMl hMw hM75 (hC5.more (by omega)) sb05
end
end K0


set_option Elab.async false
set_option linter.all false
set_option maxRecDepth 100000
set_option maxHeartbeats 8000000
set_option exponentiation.threshold 100000
namespace K0
open PySem PySem.Spec PyProof.Rows L2 RZ K0z K3

/-! ### defs that may raise -/
structure DnX (P : Program) (w : World) (K : PySem.W.Frag) (mg : Str → Option Value) (base : Heap) (k : Nat) (x : Str) (f : Addr) (ps : List Str) (sp : Sp) : Prop where
  ex : ∃ fd, FnOk P w K mg base (L2.CX P w) k f fd ps sp ∧ Binds K fd ps []
  mg : mg x = some (.ref f)
  kp : PySem.W.keepIn K (.ref f) = true
structure DnKX (P : Program) (w : World) (K : PySem.W.Frag) (mg : Str → Option Value) (base : Heap) (k : Nat) (x : Str) (f : Addr) (ps ks : List Str) (gV : List V → List V → List V) (sp : Sp) : Prop where
  ex : ∃ fd g, FnOk P w K mg base (L2.CX P w) k f fd ps sp ∧ KBn K fd ps 0 ks g gV
  mg : mg x = some (.ref f)
  kp : PySem.W.keepIn K (.ref f) = true
section
variable {X : Cx} {k : Nat} {f : Addr} {ps ks : List Str} {sp : Sp} {x : Str} {p pos : Pos} {e : Expr} {es : List Expr} {kws : List Keyword} {t tk : TA} {gV : List V → List V → List V}
theorem pe_dnx (D : DnX X.prog X.w X.K X.mg X.base k x f ps sp) (hr : Room k X.A) (hg : Gl X x) (ha : PA X (e :: es) t)
    (hdb : (x == ("__debug__" : Str)) = false := by decide)
    (he : starEach (e :: es) X.env = (false, eval e X.env) :: starEach es X.env := by rfl)
    (hpl : (backTo pos (starEach es X.env)).any (·.1) = false := by rfl) :
    PE X (.Call (.Name x p) (e :: es) [] pos) (tDn sp t) := by
  obtain ⟨⟨fd, F, B⟩, m, kp⟩ := D
  have h := pe_call (p := p) F hr hg m kp B .nil passL ha hdb he hpl
  refine ⟨fun pins s σ H Q I q => h.run pins s σ H Q I ?_⟩
  have e1 : tCall sp [] E0 t σ H Q = tDn sp t σ H Q := by
    show t σ H (fun vs H1 => sp (vs ++ []) H1 Q E0) = _
    simp only [List.append_nil]
    rfl
  rw [e1]
  exact q
theorem pe_dkx (D : DnKX X.prog X.w X.K X.mg X.base k x f ps ks gV sp) (hr : Room k X.A) (hg : Gl X x) (hkw : PK X kws tk)
    (hall : (backToKw pos (keywordEach kws X.env)).all (·.1.isSome) = true := by rfl)
    (hks : (backToKw pos (keywordEach kws X.env)).filterMap (·.1) = ks := by rfl)
    (hdb : (x == ("__debug__" : Str)) = false := by decide)
    (hpl : ((backTo pos (starEach [] X.env)).any (·.1) || (backToKw pos (keywordEach kws X.env)).any (·.1.isNone)) = false := by rfl) :
    PE X (.Call (.Name x p) [] kws pos) (fun σ H Q => tk σ H fun zs H1 => zs.length = ks.length ∧ sp (gV [] zs) H1 Q E0) := by
  obtain ⟨⟨fd, g, F, hb⟩, hm, hk⟩ := D
  refine ⟨fun pins s σ H Q I h => wpAny_Call_Name_kw (ld_glob I hg hm ?_ hdb)⟩
  refine PySem.W.callWith_KW0 (h₀ := X.base) I.ok.mod.kin hk hall
    (thn (hkw.run pos pins s σ H _ I h) ?_) hpl
  rintro ws s2 ⟨zs, H2, I2, rz, l2, q2⟩
  refine ⟨I2.kIn, ?_⟩
  rw [hks]
  exact run_fnN (us := []) (vs := []) F hr hb passL I2 .nil rz rfl l2 q2
end
/-- the def, its code object at c -/
def FunC (K : PySem.W.Frag) (x qual : Str) (st : Stmt) (f : Addr) (fd : FuncData) (c : Addr) : Prop :=
  ∃ (oc : Value) (od : Option Addr) (kV doc pm : Value) (an : Option Addr) (ct : Value) (osl : Array (Option Value)),
    fd = PySem.W.fnOf x qual (defArgs st) (defBody st) (defScope st) .none kV doc pm an (.ref c) ct ∧ K.lookup f = some ⟨oc, od, .func fd, osl⟩ ∧ PySem.W.codeIn K (.ref c) qual = true
theorem Fun_okC {P : Program} {w : World} {K : PySem.W.Frag} {mg : Str → Option Value} {base : Heap}
    {x qual : Str} {st : Stmt} {f c : Addr} {fd : FuncData} {N ps : List Str} {k : Nat} {sp : Sp}
    (F : FunC K x qual st f fd c) (S : FnScope N ps (defScope st))
    (len : ∀ vs H Q E, sp vs H Q E → vs.length = ps.length)
    (hbody : ∀ (A : Around) (outer : List Env) (s : Shared) (H : Hp) (vs : List V) (Q : VK) (E : XK),
      A.guards = some [] → Room k (A.deeper (envOfC qual (defScope st) s.heap.objs.size f (.ref c))) → sp vs H Q E →
      ∃ t, PSs (cxOf CX0 P w K mg base N qual (defScope st) f (.ref c) A outer s H E).nox (defBody st) t ∧
        t { nx := fun _ H' => Q .non H', rt := Q } (start N vs) H) :
    FnG P w K mg base (k + 1) f fd ps sp := by
  obtain ⟨oc, od, kV, doc, pm, an, ct, osl, rfl, lk, hcd⟩ := F
  refine ⟨len, ?_⟩
  intro A outer s H args us vs Q E hg hr e0 hb r hsp
  have kept : ∀ b o, base.get? b = some o → s.heap.get? b = some o := fun b o e => (e0.bs b o e).1
  have KX : K.In s.heap := e0.mod.kin.keeps kept
  have lim : s.heap.NoLimit := e0.mod.nolimit.keeps kept
  refine codeAny_call_function hr.depth (KX _ _ lk) rfl S.co S.gen rfl
    (PySem.W.codeRec_of KX hcd) (hb _ _ _ _ ?_)
  refine wpAny_newFunctionEnv_cells S.kind ?_ ?_
  · rintro ⟨n, v⟩ hy
    cases S.par n (List.of_mem_zip hy).1 with
    | inl q => exact Or.inl q
    | inr q => exact Or.inr ⟨q, PySem.W.cellsFrom_some _ _ _ (Or.inl q)⟩
  · intro env he s1 x
    subst he
    obtain ⟨t, ht', hq⟩ := hbody A outer s H vs Q E hg (hr.deeper _) hsp
    have ht := ht'.nox
    refine ⟨lim.keeps x.toInCall.keep, codeAny_func ?_⟩
    have I := inv_start (CX := CX0) (E := E) (N := N) (cd := .ref c) S hr.hd e0 (len _ _ _ _ hsp) r x
    refine wpAny_mono (ht.run [] s1 (start N vs) H _ I hq) ?_ (fun _ _ z => z)
    intro fl s' hs
    cases fl with
    | ret u =>
      obtain ⟨v, σ', H', J, rv, q⟩ := hs
      exact ⟨v, H', J.os, J.bare, J.base, J.hok, rv, q⟩
    | next =>
      obtain ⟨σ', H', J, q⟩ := hs
      exact ⟨.non, H', J.os, J.bare, J.base, J.hok, rfl, q⟩
    | brk =>
      obtain ⟨_, _, _, q⟩ := hs
      cases q
    | cont =>
      obtain ⟨_, _, _, q⟩ := hs
      cases q
def kw1 : List V → List V → List V := fun _ zs => zs
theorem tabs_upd {T : List (Addr × Str)} {H : Hp} {p : Addr} {o : HO} {xs : List V} (t : LamX.Tabs T H) (h : H p = some (.lst xs)) : LamX.Tabs T (upd H p o) := by
  intro q hq
  obtain ⟨ps, h1, h2, h3⟩ := t q hq
  refine ⟨ps, ?_, h2, fun pos cv hc => ?_⟩
  · rw [upd_ne (fun e => by rw [e, h] at h1; cases h1)]
    exact h1
  · obtain ⟨c', e1, e2⟩ := h3 pos cv hc
    refine ⟨c', e1, ?_⟩
    rw [upd_ne (fun e => by rw [e, h] at e2; cases e2)]
    exact e2
def SBN (c : Addr) (H H' : Hp) : Prop := ∀ b o, b ≠ c → H b = some o → (∀ ps, o ≠ .tbl ps) → H' b = some o
theorem SBN.of {c : Addr} {H H' : Hp} (s : SameBut c H H') : SBN c H H' := fun b o n e _ => s b o n e
theorem SBN.ext {c : Addr} {H H' : Hp} (s : LamX.ExtN H H') : SBN c H H' := fun b o _ e q => s b o e q
theorem SBN.trans {c : Addr} {H H1 H2 : Hp} (a : SBN c H H1) (b : SBN c H1 H2) : SBN c H H2 := fun x o n e q => b x o n (a x o n e q) q
theorem Coil.ext {H H' : Hp} {c d : Addr} {ns : List Int} {m : Nat} (h : Coil H c d ns m) (s : LamX.ExtN H H') : Coil H' c d ns m := by
  obtain ⟨h1, h2, h3, a, b, h4, r⟩ := h
  exact ⟨h1, h2, s _ _ h3 (by intro ps e; cases e), a, b, s _ _ h4 (by intro ps e; cases e), r⟩
theorem tabs_but {T : List (Addr × Str)} {H H' : Hp} {c d : Addr} {ns : List Int} {m : Nat} (t : LamX.Tabs T H) (hC : Coil H c d ns m) (s : SameBut c H H') : LamX.Tabs T H' := by
  obtain ⟨_, _, _, a, b, h4, _⟩ := hC
  intro p hp
  obtain ⟨ps, h1, h2, h3⟩ := t p hp
  refine ⟨ps, s _ _ (fun e => by rw [e, h4] at h1; cases h1) h1, h2, fun pos cv hc => ?_⟩
  obtain ⟨c', e1, e2⟩ := h3 pos cv hc
  exact ⟨c', e1, s _ _ (fun e => by rw [e, h4] at e2; cases e2) e2⟩
end K0


set_option Elab.async false
set_option linter.all false
set_option maxRecDepth 100000
set_option maxHeartbeats 8000000
set_option exponentiation.threshold 100000
namespace K0
open PySem PySem.Spec PyProof.Rows L2 RZ K0z K3

def rIsQ (K : PySem.W.Frag) : List V → Hp → VK → Prop := fun xs H Q => ∃ (a C d : Addr) (c : V) (u : Value) (b : Bool) (o : HO),
  xs = [.ref a, c] ∧ ClsV c u ∧ H a = some (exq a C d) ∧ H d = some o ∧ ExcC K C ∧ PySem.W.kitOne K (.ref C) u = some b ∧ Q (.bl b) H
section
variable {X : Cx}
theorem call_isQ : CallR X (.builtin "isinstance") (rIsQ X.K) := by
  intro pins s σ H xs us Q I r h
  obtain ⟨a, C, d, c, u, b, o, rfl, k, ha, hd, T, e, q⟩ := h
  obtain ⟨u1, u2, rfl, r1, r2⟩ := vals2 r
  have e2 := k.eq r2
  subst e2
  cases r1
  obtain ⟨vs, sl, g1⟩ := exq_at I.hok ha
  obtain ⟨od, g4⟩ := obj_there I hd
  refine PySem.W.kia_one (PySem.K0x.kit_exc T.hg T.hk T.hs T.hd T.ha T.hn T.ht T.hm) I.kIn ?_ e (fun z => nomatch z) fun tk => ⟨.bl b, H, I.tok tk, rfl, q⟩
  exact ⟨_, some od, g1, rfl, rfl, g4⟩
/-- e.f, e an exception that was caught once -/
theorem pe_fldQ {te : TE} {f : Str} {pos : Pos} {o : Expr} (he : PE X o te) (hb : attributeBase o f X.env (eval o X.env) = eval o X.env := by rfl) :
    PE X (.Attribute o f pos) (fun σ H Q => te σ H fun y H1 => ∃ (a C d : Addr) (fs : List (Str × V)) (v : V), y = .ref a ∧ H1 a = some (exq a C d) ∧ H1 d = some (.xd fs) ∧
      XfC X.K C ∧ PySem.W.findIn X.K (.ref C) f = some none ∧ fs.lookup f = some v ∧ Q v H1) := by
  refine ⟨fun pins s σ H Q I h => attr_of hb (thn (he.run pins s σ H _ I h) ?_)⟩
  rintro u s1 ⟨y, H1, I1, rx, a, C, d, fs, v, rfl, ea, ed, T, hno, l, q⟩
  obtain rfl : u = Value.ref a := rx
  obtain ⟨vs, sl, g1⟩ := exq_at I1.hok ea
  obtain ⟨mA, hns, hr⟩ := (show ∃ mA, s1.heap.Ns1 d mA ∧ ∀ f, RelO (fs.lookup f) (mA f) from I1.hok d _ ed)
  obtain ⟨od, hod, hl⟩ := lookIn_ns hns
  obtain ⟨u, hu, ru⟩ := RelO.some_of (v := v) (o := mA f) (by rw [← l]; exact hr f)
  have J : PySem.W.InstAt s1.heap a _ C (some od) := ⟨g1, rfl, rfl, hod⟩
  exact HandSPX.exc_get I1.kIn J T.ga T.gg T.exC
    (PySem.W.findObj_own T.hdC hno rfl (by rw [hl, hu])) (handed_of ru) ⟨v, H1, I1.tok _, ru, q⟩
end
def TTr (K : PySem.W.Frag) (CS CB CP : Addr) : (XK → Hp → VK → Prop) → Hp → VK → Prop := fun tl H Q => ∀ Qn : VK,
  tl (fun cls d H' => ∃ (C dd : Addr) (fs : List (Str × V)) (v : V) (b : Bool), cls = .ref C ∧ d = some dd ∧ PySem.W.exmOne K (.ref C) (.ref CS) = some true ∧ PySem.W.kitOne K (.ref C) (.ref CB) = some b ∧ (b = false → PySem.W.kitOne K (.ref C) (.ref CP) = some true) ∧ ExcC K C ∧ XfC K C ∧
    PySem.W.findIn K (.ref C) "part" = some none ∧ H' dd = some (.xd fs) ∧ fs.lookup ("part" : Str) = some v ∧ ∀ a p, H' a = none → upd H' a (exq a C dd) p = none → Q (.ref p) (upd (upd H' a (exq a C dd)) p (.lst [.str (if b = true then "point" else "misfit"), v]))) H Qn
theorem sc_raised : FnScope ["ask", "caught", "error"] ["ask"] (defScope st__law_raised) := ⟨rfl, rfl, rfl, by decide +kernel, rfl, by decide +kernel, by decide +kernel⟩
theorem raised_gives {X : Cx} {g CS CB CP : Addr} {cdg : Value} {q x : Str} (mS : X.mg "SolidError" = some (.ref CS)) (mB : X.mg "BadPoint" = some (.ref CB)) (mP : X.mg "Misfit" = some (.ref CP)) (mi : X.mg "isinstance" = none) :
    LamX.GivesTo X ["ask", "caught", "error"] x (defScope st__law_raised) g cdg (defBody st__law_raised) "ask" q (TTr X.K CS CB CP) := by
  intro f c' s H Q tl act hc h
  refine ⟨_, pss_cons (X := (cxOf C8.CX0 X.prog X.w X.K X.mg X.base ["ask", "caught", "error"] x (defScope st__law_raised) g cdg X.A X.stack s H C8.E0).nox) (ps_set (i := 1) sc_raised.nd rfl (Or.inl rfl) pe_non)
    (pss_cons (ps_try_keep (i := 2) (j := 1) (c := .ref CS)
      (tb := fun W D σ H => ∃ Ech : XK, (∀ (cls : Value) (d : Option Addr) (σ' : L2.St) (H' : Hp), Ech cls d H' → W cls d σ' H') ∧ σ[0]? = some (some (.ref f)) ∧ H c' = some (LamX.CodeO c' q) ∧ tl Ech H (fun _ H1 => D.nx σ H1))
      rfl rfl sc_raised.nd rfl rfl rfl rfl (by show 2 < 3; decide) ⟨by rfl, by decide, .inl mS⟩ rfl (fun W pn xe tk _ => ?_))
    (pss_cons (ps_if (pt_val (pe_callB call_isQ (by rfl) mi (by decide +kernel) (pa_cons (pv 1) (pa_cons (pe_glob (v := .ref CB) (by rfl) mB rfl (by decide)) pa_nil)))) (pss_one (ps_ret (pe_lst (pa_cons pe_str (pa_cons (pe_fldQ (pv 1)) pa_nil))))) pss_nil)
    (pss_cons (ps_if (pt_val (pe_callB call_isQ (by rfl) mi (by decide +kernel) (pa_cons (pv 1) (pa_cons (pe_glob (v := .ref CP) (by rfl) mP rfl (by decide)) pa_nil)))) (pss_one (ps_ret (pe_lst (pa_cons pe_str (pa_cons (pe_fldQ (pv 1)) pa_nil))))) pss_nil)
    (pss_one (ps_ret (pe_ifExp (pt_cmp (pc_isN (pv 1))) pe_non (pe_lst (pa_cons pe_str (pa_cons pe_str pa_nil))))))))), ?_⟩
  · refine ⟨fun pins s' σ H' D I h' => ?_⟩
    obtain ⟨Ech, hW, h1, h2, h3⟩ := h'
    exact (pss_one (ps_expr (act W pn xe Ech _ _ tk hW))).run pins s' σ H' D I ⟨h1, h2, h3⟩
  · refine ⟨_, fun cls d σ' H' e => ?_, rfl, hc, h _⟩
    obtain ⟨C, dd, fs, v, b, rfl, rfl, e1, e2, e2b, e3, e4, e5, e6, e7, e8⟩ := e
    refine ⟨C, dd, rfl, rfl, e1, fun a ha hl => ?_⟩
    have hl3 : σ'.length = 3 := hl
    obtain ⟨x0, x1, x2, rfl⟩ : ∃ x0 x1 x2, σ' = [x0, x1, x2] := by
      match σ', hl3 with
      | [x0, x1, x2], _ => exact ⟨x0, x1, x2, rfl⟩
    have hdd : upd H' a (exq a C dd) dd = some (.xd fs) := by
      rw [upd_ne (ne_of_none e6 ha)]
      exact e6
    refine ⟨_, rfl, a, C, dd, .ref CB, .ref CB, b, _, rfl, .own _, upd_same, hdd, e3, e2, b, rfl, ?_⟩
    cases b with
    | true => exact iteT ⟨_, rfl, a, C, dd, fs, v, rfl, upd_same, hdd, e4, e5, e7, (by show 2 ≤ sizeLine; decide), fun p hp => e8 a p ha hp⟩
    | false =>
      refine iteF ⟨_, rfl, a, C, dd, .ref CP, .ref CP, true, _, rfl, .own _, upd_same, hdd, e3, e2b rfl, true, rfl, iteT ?_⟩
      exact ⟨_, rfl, a, C, dd, fs, v, rfl, upd_same, hdd, e4, e5, e7, (by show 2 ≤ sizeLine; decide), fun p hp => e8 a p ha hp⟩
/-- the lambdas' own name -/
def qL : Str := ("_law_right.<locals>.<lambda>" : Str)
theorem ext_up {c : Addr} {H H' : Hp} (x : LamX.ExtN H H') : Same (OffT c H) H' := upT fun b o _ h t => x b o h fun ps e => by rw [e] at t; cases t
theorem held_on {n : Nat} {M : List Vec} {h : Vec} (hM : ∀ p ∈ M, p.length = n) (eh : heldM (n + 1) (M.map (· ++ [1])) = [h]) : ∀ p ∈ M, dot (planeOf h).1 p = (planeOf h).2 := by
  obtain ⟨P, G, I, e⟩ := good_held (n + 1) (M.map (· ++ [1]))
  rw [eh] at e
  match G, I, e with
  | [g], I, e =>
    have eg : g.2 = h := by simpa using e
    have hl := I.wid g List.mem_cons_self
    rw [eg] at hl
    obtain ⟨u, t, rfl, lu⟩ := snoc_of hl
    intro p hp
    have k := I.ker g List.mem_cons_self _ (List.mem_map.mpr ⟨p, hp, rfl⟩)
    rw [eg, dot_snoc u p t 1 (by rw [lu, hM p hp])] at k
    unfold planeOf
    have hdl : (u ++ [t]).dropLast = u := by simp
    have hgl : (u ++ [t]).getLastD 0 = t := by simp
    rw [hdl, hgl]
    split
    · show dot (u.map (- ·)) p = t
      rw [dot_neg]
      omega
    · show dot u p = - t
      omega
theorem wide_int {n : Int} (h : n.natAbs < 2 ^ 900) : ShN 300 0 (.int n) := by
  have h2 : n.natAbs.log2 < 1920 := by
    have e := PySem.Flt.log2_lt_of (by decide : 0 < 900) h
    omega
  refine ⟨by simpa [PyData.showable] using h2, by simp [PyData.depth], ?_⟩
  have e := int_text_length_le10 (k := 280) (by decide) (Nat.lt_of_lt_of_le h (by decide) : n.natAbs < 10 ^ 280)
  simp only [PyData.shown]
  rw [PySem.ofString_length]
  omega
end K0


set_option Elab.async false
set_option linter.all false
set_option maxRecDepth 100000
set_option maxHeartbeats 8000000
set_option exponentiation.threshold 100000
namespace K0
open PySem PySem.Spec PyProof.Rows L2 RZ K0z K3

abbrev scT : Scope := { kind := ScopeKind.function, names := [((".0" : Str), NameKind.local), (("point" : Str), NameKind.local), (("sum" : Str), NameKind.globalImplicit), (("zip" : Str), NameKind.globalImplicit), (("told" : Str), NameKind.cell)], isGenerator := false, isCoroutine := false }
def spRight (K : PySem.W.Frag) (PT : Addr) : Sp := fun vs H Q _ => ∃ (c : Addr) (v : V), vs = [v] ∧ Bnt K (OffT c H) v ∧ LamX.Tabs [(PT, qL)] H ∧
  ∀ H' : Hp, LamX.ExtN H H' → LamX.Tabs [(PT, qL)] H' → Q (.bl true) H'
theorem cr_sumK {X : Cx} (K : PySem.W.Frag) (hc : X.calm = true) (e : X.K = K := by rfl) : CallR X (.builtin "sum") (rSum K) := by subst e; exact cr_sum hc
theorem flP : [V.str "point", V.str "points"].all flat = true := by decide +kernel
theorem flM : [V.str "misfit", V.str "span"].all flat = true := by decide +kernel
/-- a plane is shown -/
theorem plane_shown {K : PySem.W.Frag} {H : Hp} {p q : Addr} {x : Vec} {t : Int} (hp : H p = some (.tup [.ref q, .int t])) (hq : H q = some (.tup (x.map V.int))) (hx : x.length ≤ 10) (hb : ∀ b ∈ x, b.natAbs < 2 ^ 900) (ht : t.natAbs < 2 ^ 900) :
    It K H (.ref p) (.tuple [.tuple (x.map PyData.int), .int t]) ∧ Short (.tuple [.tuple (x.map PyData.int), .int t]) := by
  have h1 : ∀ x : Vec, DpAll K H (x.map V.int) (x.map PyData.int) ∧ PyData.hasDictAll (x.map PyData.int) = false := fun x => by
    induction x with
    | nil => exact ⟨.nil, rfl⟩
    | cons a x ih => exact ⟨.cons (.int a) ih.1, by simp only [List.map_cons, PyData.hasDictAll, PyData.hasDict, ih.2, Bool.or_false]⟩
  obtain ⟨d1, d2⟩ := h1 x
  refine ⟨.dp (.tup (.of hp) (.cons (.tup (.of hq) d1) (.cons (.int t) .nil))) (by simp only [PyData.hasDict, PyData.hasDictAll, d2, Bool.or_false]), ?_⟩
  have s1 : ShN (10 * (300 + 2) + 3) 1 (.tuple (x.map PyData.int)) := (shN_list (n := 10) (B := 300) (k := 0) (by rw [List.length_map]; exact hx) fun d hd => by
    obtain ⟨b, hm, rfl⟩ := List.mem_map.mp hd
    exact wide_int (hb b hm)).2
  exact (shN_list (n := 2) (B := 10 * (300 + 2) + 3) (k := 1) (ds := [.tuple (x.map PyData.int), .int t]) (by simp) fun d hd => by
    simp only [List.mem_cons, List.not_mem_nil, or_false] at hd
    rcases hd with rfl | rfl
    · exact s1
    · exact (wide_int ht).more (by decide) (by decide)).2.short (by decide) (by decide)
theorem dot_wide : ∀ (x y : Vec), (∀ b ∈ x, b.natAbs < 2 ^ 731) → (∀ b ∈ y, b.natAbs < 2 ^ 99) → (dot x y).natAbs ≤ x.length * 2 ^ 830
  | [], y, _, _ => by simp [dot_nil_l]
  | _ :: _, [], _, _ => by simp [dot_nil_r]
  | a :: x, b :: y, hx, hy => by
    have ih := dot_wide x y (fun c hc => hx c (List.mem_cons_of_mem _ hc)) (fun c hc => hy c (List.mem_cons_of_mem _ hc))
    have h1 : (a * b).natAbs ≤ 2 ^ 830 := by
      rw [Int.natAbs_mul]
      have := Nat.mul_lt_mul'' (hx a List.mem_cons_self) (hy b List.mem_cons_self)
      have e : (2 : Nat) ^ 731 * 2 ^ 99 = 2 ^ 830 := by rw [← Nat.pow_add]
      omega
    have h2 := Int.natAbs_add_le (a * b) (dot x y)
    simp only [dot, List.length_cons, Nat.succ_mul]
    omega
section
variable {P : Program} {w : World} {K : PySem.W.Frag} {mg : Str → Option Value} {base : Heap} {f : Addr} {fd : FuncData}
theorem sc_right : FnScope ["value", "due", "point", "told", "mine", "its"] ["value"] (defScope st__law_right) := ⟨rfl, rfl, rfl, by decide +kernel, rfl, by decide +kernel, by decide +kernel⟩
theorem ok_right {cc PT f1 f2 f4 fh CB CP CS : Addr} {fdh : FuncData} (F : FunC K "_law_right" "_law_right" st__law_right f fd cc) (T : Nm mg)
    (D__law_are_points : Dn P w K mg base 2 "_law_are_points" f1 ["value"] (spLPts K)) (D__law_plane : Dn P w K mg base 9 "_law_plane" f2 ["points"] (spLPlane K))
    (X_plane_through : DnX P w K mg base 7 "plane_through" f4 ["points"] (spPlane K CB CP)) (K_plane_through : DnKX P w K mg base 7 "plane_through" f4 ["points"] ["points"] kw1 (spPlane K CB CP))
    (FH : Fun K "_law_raised" "_law_raised" st__law_raised fh fdh) (bh : Binds K fdh ["ask"] []) (mh : mg "_law_raised" = some (.ref fh)) (kh : PySem.W.keepIn K (.ref fh) = true)
    (TB : LamX.TabB base mg cc PT) (mS : mg "SolidError" = some (.ref CS)) (mB : mg "BadPoint" = some (.ref CB)) (mP : mg "Misfit" = some (.ref CP))
    (eB : PySem.W.exmOne K (.ref CB) (.ref CS) = some true) (eP : PySem.W.exmOne K (.ref CP) (.ref CS) = some true) (kBB : PySem.W.kitOne K (.ref CB) (.ref CB) = some true) (kPB : PySem.W.kitOne K (.ref CP) (.ref CB) = some false) (kPP : PySem.W.kitOne K (.ref CP) (.ref CP) = some true)
    (ecB : ExcC K CB) (xfB : XfC K CB) (noB : PySem.W.findIn K (.ref CB) "part" = some none) (ecP : ExcC K CP) (xfP : XfC K CP) (noP : PySem.W.findIn K (.ref CP) "part" = some none) :
    FnG P w K mg base 10 f fd ["value"] (spRight K PT) := by
  obtain ⟨fdr, Fpl, Bpl⟩ := X_plane_through.ex
  obtain ⟨och, odh, kVh, doch, pmh, anh, cdvh, cth, oslh, rfl, lkH, hcdH⟩ := FH.ex
  refine Fun_okC F sc_right (fun vs H Q E h => ?_) (fun A outer s H vs Q EE hG hr h => ?_)
  · obtain ⟨c, v, rfl, _⟩ := h
    rfl
  · obtain ⟨c, v, rfl, hBn, hT, k⟩ := h
    obtain ⟨vo, dv, hv0, hsm9, hsw⟩ := hBn
    have hsm := hsm9.small
    have hvA : ∀ H', LamX.ExtN H H' → ValAt K H' v vo := fun H' x => hv0.same (ext_up x)
    have hv : ValAt K H v vo := hvA H (LamX.ExtN.refl H)
    have ofS : ∀ {H1 H2 : Hp}, Same H1 H2 → LamX.ExtN H1 H2 := fun s => LamX.ExtN.of s
    refine ⟨_, (pss_cons (ps_if (pt_not (pt_val (pe_dn D__law_are_points (hr.mono (by decide)) rfl (pa_cons (pv 0) pa_nil)))) (pss_one (ps_ret (pe_cmpR (op_eqD hr.units) (LamX.pe_lamcall (k := 7) (T := [(PT, qL)]) (TT := TTr K CS CB CP) (t := fun E => tCall (spPlane K CB CP) [] E (tCons (tVar 0) tNil)) rfl mh kh lkH hcdH bh sc_raised rfl (Or.inl rfl) (raised_gives mS mB mP T.n_isinstance) TB rfl List.mem_cons_self (fun p hp _ => by cases List.mem_singleton.mp hp; rfl) (hr.mono (by decide)) (LamX.lamS_by (sc := defScope st__law_right) (by decide +kernel)) rfl (fun _ _ _ _ _ => rfl) (fun A outer s H E f c' hr2 => pe_call Fpl hr2 rfl X_plane_through.mg X_plane_through.kp Bpl .nil (passes_call (takes_of rfl rfl rfl rfl) (fun _ _ _ _ h => h)) (pa_cons (pv 0) pa_nil))) (pe_lst (pa_cons pe_str (pa_cons pe_str pa_nil))) (nomark _)))) pss_nil)
    (pss_cons (ps_set (i := 1) sc_right.nd rfl (Or.inl rfl) (pe_dn D__law_plane (hr.mono (by decide)) rfl (pa_cons (pe_lc (own := [("point", 2)]) (g := gName 2) (tt := tYes) rfl sc_right.nd (pi_seqK K (pv 0)) (blkOk_by (N := ["value", "due", "point", "told", "mine", "its"]) (sc := defScope st__law_right) (by decide +kernel)) (fun _ _ _ _ _ => (pg_name (i := 2) sc_right.nd rfl (Or.inl rfl))) (fun _ _ _ _ _ => pts_nil) (fun _ _ _ _ _ => (pe_callTy (call_listK K) (by rfl) T.n_list (by decide +kernel) (pa_cons (pv 2) pa_nil)))) pa_nil)))
    (pss_cons (ps_if (pt_cmp (pc_isN (pv 1))) (pss_one (ps_ret (pe_cmpR (op_eqD hr.units) (LamX.pe_lamcall (k := 7) (T := [(PT, qL)]) (TT := TTr K CS CB CP) (t := fun E => tCall (spPlane K CB CP) [] E (tCons (tVar 0) tNil)) rfl mh kh lkH hcdH bh sc_raised rfl (Or.inl rfl) (raised_gives mS mB mP T.n_isinstance) TB rfl List.mem_cons_self (fun p hp _ => by cases List.mem_singleton.mp hp; rfl) (hr.mono (by decide)) (LamX.lamS_by (sc := defScope st__law_right) (by decide +kernel)) rfl (fun _ _ _ _ _ => rfl) (fun A outer s H E f c' hr2 => pe_call Fpl hr2 rfl X_plane_through.mg X_plane_through.kp Bpl .nil (passes_call (takes_of rfl rfl rfl rfl) (fun _ _ _ _ h => h)) (pa_cons (pv 0) pa_nil))) (pe_lst (pa_cons pe_str (pa_cons pe_str pa_nil))) (nomark _)))) pss_nil)
    (pss_cons (ps_set (i := 3) sc_right.nd rfl (Or.inr rfl) (pe_dkx K_plane_through (hr.mono (by decide)) rfl (pk_cons (pv 0) pk_nil)))
    (pss_cons (ps_if (pt_cmpR op_ne (pe_callB (call_repr hG hr.units) (by rfl) T.n_repr (by decide +kernel) (pa_cons (pv 3) pa_nil)) (pe_callB (call_repr hG hr.units) (by rfl) T.n_repr (by decide +kernel) (pa_cons (pv 1) pa_nil)) (nomark _)) (pss_one (ps_ret pe_bl)) pss_nil)
    (pss_one (ps_ret (pe_cmpR (op_eqNil K hr.units) (pe_lc (own := [("point", 2)]) (g := gName 2) rfl sc_right.nd (pi_seqK K (pv 0)) (blkOk_by (N := ["value", "due", "point", "told", "mine", "its"]) (sc := defScope st__law_right) (by decide +kernel)) (fun _ _ _ _ _ => (pg_name (i := 2) sc_right.nd rfl (Or.inl rfl))) (fun _ _ _ _ _ => (pts_one (pt_cmpR op_ne (pe_callB (cr_sumK K rfl) (by rfl) T.n_sum (by decide +kernel) (pa_cons (pe_lc (own := [("mine", 4), ("its", 5)]) (g := gTup K 2 (gCons (gName 4) (gCons (gName 5) gNil))) (tt := tYes) rfl sc_right.nd (pi_zipMK K (by rfl) T.n_zip (pa_cons (pe_ix (ix_K K) (pv 3) pe_int (fun _ _ => rfl)) (pa_cons (pv 2) pa_nil))) (blkOk_by (N := ["value", "due", "point", "told", "mine", "its"]) (sc := scT) (by decide +kernel)) (fun _ _ _ _ _ => (pg_tup (by rfl) (pgs_cons (pg_name (i := 4) sc_right.nd rfl (Or.inl rfl)) (pgs_cons (pg_name (i := 5) sc_right.nd rfl (Or.inl rfl)) pgs_nil)))) (fun _ _ _ _ _ => pts_nil) (fun _ _ _ _ _ => (pe_op op_mulW (pv 4) (pv 5)))) pa_nil)) (pe_ix (ix_K K) (pv 3) pe_int (fun _ _ => rfl)) (nomark _)))) (fun _ _ _ _ _ => (pv 2))) (pe_lst pa_nil) (nomark _))))))))), ?_⟩
    refine ⟨_, rfl, v, vo, rfl, hv, fun H1 s1 => ⟨fun ok => ⟨_, rfl, iteF ?_⟩, fun no => ⟨_, rfl, iteT ?_⟩⟩⟩
    rotate_left
    · have x1 := ofS s1
      have w1 : LamX.Tabs [(PT, qL)] H1 := hT.ext s1
      refine ⟨w1, fun J1 y1 v1 Qn => ⟨_, rfl, v, vo, rfl, hvA J1 (x1.trans y1), hsm, fun M e l2 l6 hM => absurd ⟨M, e, l2, l6, hM⟩ no, fun _ dd J2 hdd ed sj => ⟨CB, dd, _, .str "points", true, rfl, rfl, eB, kBB, fun e => (by cases e), ecB, xfB, noB, ed, rfl, fun a p ha hp => ?_⟩⟩⟩
      refine ⟨(by show 2 ≤ sizeLine; decide), fun l hl => ?_⟩
      have sa := same_upd (o := exq a CB dd) ha
      have sp := same_upd (o := .lst [.str (if (true : Bool) = true then "point" else "misfit"), .str "points"]) hp
      have sl := same_upd (o := .lst [.str "point", .str "points"]) hl
      have gp : upd (upd (upd J2 a (exq a CB dd)) p (.lst [.str (if (true : Bool) = true then "point" else "misfit"), .str "points"])) l (.lst [.str "point", .str "points"]) p = some (.lst [.str "point", .str "points"]) := sl _ _ upd_same
      refine ⟨_, _, dpL (.of gp) flP, dpL (xs := [.str "point", .str "points"]) (.of upd_same) flP, shapedL flP, shapedL flP, ?_⟩
      rw [eqv_same flP]
      have sx := sj.trans (sa.trans (sp.trans sl))
      exact k _ ((x1.trans y1).trans (ofS sx)) (v1.ext sx)
    · obtain ⟨M, rfl, m2, m6, hM⟩ := ok
      have hMne : M ≠ [] := List.length_pos_iff.mp (by omega)
      have x1 := ofS s1
      have hR : RowsAt K H1 v M := rows_of_val (hvA H1 x1)
      obtain ⟨b, a, vs, rfl, hS, hl, hz⟩ := id hR
      have hM9 : ∀ r ∈ M, r.length = M.length ∧ ∀ b ∈ r, b.natAbs < 2 ^ 99 := fun r hr => ⟨hM r hr, fun b hb => Nat.lt_trans (hsm9 M rfl r hr b hb) (by decide)⟩
      have fr := frame_of hMne hM
      have hsl := steps_len hMne hM
      refine ⟨_, rfl, b, a, rfl, ⟨_, hS⟩, fun D hD => lc_rel (R := fun i y H => ∃ (q : Addr) (x : Vec), y = .ref q ∧ M[i]? = some x ∧ H q = some (.lst (x.map V.int))) walk_seq hD (Nat.lt_of_le_of_lt (by omega : vs.length ≤ 16) (by decide)) (fun H s => hS.same s)
        (fun i y H H' s ⟨q, x, e1, e2, t⟩ => ⟨q, x, e1, e2, s _ _ t⟩) ?_ ?_⟩
      · rintro i x H3 H4 hi s3 ⟨acc, hacc⟩ ⟨rfl, hx⟩ Rk kk
        have hiM : i < M.length := by omega
        obtain ⟨u, e1, e2, ⟨b1, a1, rfl, hB1⟩⟩ := RowsAt.get hl hz hiM
        rw [e1] at hx
        cases hx
        refine ⟨rfl, _, rfl, b1, a1, _, rfl, hB1.same s3, fun l hl2 => kk _ _ (same_upd hl2) ⟨l, _, rfl, e2, ?_⟩⟩
        rw [off_ne (fun e => by rw [e, hacc] at hl2; cases hl2)]
        exact upd_same
      rintro H3 ⟨us, lus, hD3, s3, hr3⟩
      have hLL : LLs H3 us M := ⟨by rw [lus, hl], fun i u x e1 e2 => by
        obtain ⟨q, x', e3, e4, t⟩ := hr3 i u e1
        rw [e2] at e4
        cases e4
        exact ⟨q, e3, off_same _ _ _ _ t⟩⟩
      refine ⟨D, us, M, rfl, hD3, hLL, m2, m6, hM9, fun hz0 H4 s4 => ?_, fun hnz p q H4 s4 hp4 hq4 => ?_⟩
      · -- no plane
        have s14 := s1.trans (s3.trans s4)
        have x4 := ofS s14
        have w4 : LamX.Tabs [(PT, qL)] H4 := hT.ext s14
        have h2 := plane_none fr rfl hsl.2 (fun i _ => hz0 i)
        refine ⟨_, rfl, _, rfl, iteT ?_⟩
        refine ⟨w4, fun J1 y1 v1 Qn => ⟨_, rfl, .ref a, some (mat M), rfl, hvA J1 (x4.trans y1), hsm, fun N eN l2 l6 hN => ?_, fun no => absurd ⟨M, rfl, m2, m6, hM⟩ no⟩⟩
        obtain rfl := mat_inj (Option.some.inj eN)
        refine ⟨fun _ dd J2 hdd ed sj => ⟨CP, dd, _, .str "span", false, rfl, rfl, eP, kPB, fun _ => kPP, ecP, xfP, noP, ed, rfl, fun a' p ha hp => ?_⟩, fun h1 => absurd (Nat.le_trans h2 h1) (by decide)⟩
        refine ⟨(by show 2 ≤ sizeLine; decide), fun l hl => ?_⟩
        have sa := same_upd (o := exq a' CP dd) ha
        have sp := same_upd (o := .lst [.str (if (false : Bool) = true then "point" else "misfit"), .str "span"]) hp
        have sl := same_upd (o := .lst [.str "misfit", .str "span"]) hl
        have gp : upd (upd (upd J2 a' (exq a' CP dd)) p (.lst [.str (if (false : Bool) = true then "point" else "misfit"), .str "span"])) l (.lst [.str "misfit", .str "span"]) p = some (.lst [.str "misfit", .str "span"]) := sl _ _ upd_same
        refine ⟨_, _, dpL (.of gp) flM, dpL (xs := [.str "misfit", .str "span"]) (.of upd_same) flM, shapedL flM, shapedL flM, ?_⟩
        rw [eqv_same flM]
        have sx := sj.trans (sa.trans (sp.trans sl))
        exact k _ ((x4.trans y1).trans (ofS sx)) (v1.ext sx)
      · -- the plane
        have s14 := s1.trans (s3.trans s4)
        have x4 := ofS s14
        obtain ⟨i, hi, hne⟩ := nz_at hnz
        rw [cof_len] at hi
        obtain ⟨h, eh, lh, ep, fh, _⟩ := plane_some fr rfl hsl.2 hi hne
        have cb := cof_bound hsl.2 (by omega) (steps_bound fun r hr => (hM9 r hr).2)
        have hlen : (dueOf (cof (stepsL M) M.length) (M.headD [])).1.length ≤ 10 := by
          show (List.map _ _).length ≤ 10
          rw [List.length_map, cof_len]; omega
        have hbits : ∀ b ∈ (dueOf (cof (stepsL M) M.length) (M.headD [])).1, b.natAbs < 2 ^ 731 := fun b hb => by
          obtain ⟨x, hx, rfl⟩ := List.mem_map.mp hb
          exact Nat.lt_of_le_of_lt (Int.natAbs_ediv_le_natAbs x _) (Nat.lt_trans (cb x hx) (Nat.pow_lt_pow_right (by decide) (by decide)))
        have h0M : M.headD [] ∈ M := fr.m0
        have htb : (dueOf (cof (stepsL M) M.length) (M.headD [])).2.natAbs < 2 ^ 900 := by
          have := dot_wide _ _ hbits (hM9 _ h0M).2
          have e2 : (2 : Nat) ^ 900 = 2 ^ 70 * 2 ^ 830 := by rw [← Nat.pow_add]
          have e3 : (10 : Nat) * 2 ^ 830 < 2 ^ 70 * 2 ^ 830 := Nat.mul_lt_mul_of_pos_right (by decide) (Nat.pow_pos (by decide))
          rw [e2]
          exact Nat.lt_of_le_of_lt (Nat.le_trans this (Nat.mul_le_mul_right _ hlen)) e3
        have hon := held_on hM eh
        rw [ep] at hon
        generalize dueOf (cof (stepsL M) M.length) (M.headD []) = due at hp4 hq4 hlen hbits htb hon ep
        refine ⟨_, rfl, _, rfl, iteF ?_⟩
        refine ⟨_, rfl, rfl, .ref a, some (mat M), rfl, hvA H4 x4, hsm, fun N eN l2 l6 hN => ?_, fun no => absurd ⟨M, rfl, m2, m6, hM⟩ no⟩
        obtain rfl := mat_inj (Option.some.inj eN)
        refine ⟨fun h2 => absurd h2 (by rw [eh]; exact fun z => absurd z (by simp)), fun _ => ⟨h, eh, lh, fh, fun p2 q2 H5 s5 hp5 hq5 => ?_⟩⟩
        rw [ep] at hp5 hq5
        have sh5 := plane_shown (K := K) hp5 hq5 hlen (fun b hb => Nat.lt_trans (hbits b hb) (Nat.pow_lt_pow_right (by decide) (by decide))) htb
        have sh4 := plane_shown (K := K) (s5 _ _ hp4) (s5 _ _ hq4) hlen (fun b hb => Nat.lt_trans (hbits b hb) (Nat.pow_lt_pow_right (by decide) (by decide))) htb
        refine ⟨_, rfl, _, _, rfl, sh5.1, sh5.2, _, rfl, _, _, rfl, sh4.1, sh4.2, rfl, _, rfl, ?_⟩
        rw [decide_eq_true rfl]
        refine iteF ?_
        have s15 := s14.trans s5
        have hR5 : RowsAt K H5 (.ref a) M := rows_of_val (hvA H5 (ofS s15))
        obtain ⟨b5, a5, vs5, ea, hS5, hl5, hz5⟩ := hR5
        cases ea
        refine ⟨_, rfl, b5, a, rfl, ⟨_, hS5⟩, fun E hE => lc_relF (R := fun _ _ _ => True) (fun _ => false) walk_seq hE (Nat.lt_of_le_of_lt (by omega : vs5.length ≤ 16) (by decide)) (fun H s => hS5.same s) (fun _ _ _ _ _ _ => trivial) ?_ ?_⟩
        · rintro j x H6 H7 hj s6 _ ⟨rfl, hx⟩ Rt Rk h1 h2
          have hjM : j < M.length := by omega
          obtain ⟨u, e1, e2, ⟨b1, a1, rfl, hB1⟩⟩ := RowsAt.get hl5 hz5 hjM
          rw [e1] at hx
          cases hx
          have hp7 := s6 _ _ hp5
          have hq7 := s6 _ _ hq5
          have hmr := List.getElem_mem hjM
          refine ⟨rfl, _, rfl, true, p2, _, 0, _, rfl, rfl, .of hp7, rfl, _, rfl, true, b1, q2, a1, _, _, rfl, .of hq7, hB1.same s6, fun G hG2 => lc_fun (fun t => V.int (due.1.getD t 0 * (M[j]).getD t 0)) (walk_zipM rfl) hG2 ?_ (fun H s => ⟨.of (s _ _ hq7), (hB1.same s6).same s⟩) ?_ ?_⟩
          · rw [List.length_map, List.length_map]
            exact Nat.lt_of_le_of_lt (Nat.le_trans (Nat.min_le_left _ _) hlen) (by decide)
          · rintro t v H8 H9 ht s8 _ ⟨T', x', y', rfl, hTt, rfl, e3, e4⟩ Rk2 kk3
            obtain ⟨n1, hn1, rfl⟩ := map_int_get e3
            obtain ⟨n2, hn2, rfl⟩ := map_int_get e4
            refine ⟨T', _, rfl, .of upd_same, rfl, _, _, rfl, _, _, rfl, rfl, rfl, _, rfl, _, rfl, n1, n2, rfl, rfl, wide_mul (a := 731) (b := 99) (hbits n1 (List.mem_of_getElem? hn1)) ((hM9 _ hmr).2 n2 (List.mem_of_getElem? hn2)) (by decide) (by decide) (by decide), ?_⟩
            have e := kk3 _ (same_upd (o := .tup [.int n1, .int n2]) hTt)
            rw [List.getD_eq_getElem?_getD (l := due.1) (i := t), List.getD_eq_getElem?_getD (l := M[j]) (i := t), hn1, hn2] at e
            exact e
          · intro H8 hG8 s8
            have eS : (List.range (min (due.1.map V.int).length ((M[j]).map V.int).length)).map (fun t => V.int (due.1.getD t 0 * (M[j]).getD t 0)) = (List.zipWith (fun a b => a * b) due.1 (M[j])).map V.int := by
              rw [List.length_map, List.length_map]
              refine List.ext_getElem (by simp) fun i h1 h2 => ?_
              simp only [List.length_map, List.length_zipWith] at h2
              have hx : i < due.1.length := by omega
              have hy : i < (M[j]).length := by omega
              rw [List.getElem_map, List.getElem_range, List.getElem_map, List.getElem_zipWith, getD_of hx, getD_of hy]
            rw [eS] at hG8
            refine ⟨G, _, rfl, .of hG8, _, rfl, true, p2, _, 1, _, rfl, rfl, .of (s8 _ _ hp7), rfl, rfl, _, rfl, ?_⟩
            rw [dot_sum, hon _ hmr]
            have e : (!decide (V.int due.2 = V.int due.2)) = false := by simp
            rw [e]
            exact iteF (h1 rfl _ s8)
        rintro H6 ⟨acc, la, hE6, s6, _⟩
        have ea : acc = [] := List.eq_nil_of_length_eq_zero (by rw [la]; simp)
        subst ea
        refine ⟨(by show 0 ≤ sizeLine; decide), fun z hz => ⟨E, z, [], rfl, rfl, .of ((same_upd hz) _ _ hE6), .of upd_same, ?_⟩⟩
        have sx := s15.trans (s6.trans (same_upd (o := .lst []) hz))
        exact k _ (ofS sx) (hT.ext sx)
end
end K0


set_option Elab.async false
set_option linter.all false
set_option maxRecDepth 100000
set_option maxHeartbeats 8000000
set_option exponentiation.threshold 100000
namespace K0
open PySem PySem.Spec PyProof.Rows L2 RZ K0z K3

theorem Rws.sbn {H H' : Hp} {c a : Addr} {vs : List V} {M : List Vec} (h : Rws H c a vs M) (s : SBN c H H') : Rws H' c a vs M :=
  ⟨h.1, fun i u x h1 h2 => let ⟨q, e, n1, n2, z⟩ := h.2 i u x h1 h2; ⟨q, e, n1, n2, s q _ n1 z (by intro ps e; cases e)⟩⟩
theorem Rws.bnt {K : PySem.W.Frag} {H : Hp} {c a : Addr} {vs : List V} {M : List Vec} (h : Rws H c a vs M) (ha : H a = some (.lst vs)) (nac : a ≠ c) (hne : M ≠ []) (h16 : M.length ≤ 16) (hb : ∀ x ∈ M, x.length ≤ 25 ∧ ∀ b ∈ x, b.natAbs < 2 ^ 85) : Bnt K (OffT c H) (.ref a) := by
  refine bnt_l (offT1 ha nac) (by rw [← List.length_pos_iff, h.1]; exact List.length_pos_iff.mpr hne) (by rw [h.1]; omega) fun u hu => ?_
  obtain ⟨i, hi⟩ := List.mem_iff_getElem?.mp hu
  have hl : i < M.length := by rw [← h.1]; exact (List.getElem?_eq_some_iff.mp hi).1
  obtain ⟨q, rfl, n1, n2, z⟩ := h.2 i u _ hi (List.getElem?_eq_getElem hl)
  have hx := hb _ (List.getElem_mem hl)
  exact rx_ints (offT1 z n1) hx.1 hx.2
theorem SBN.up {c : Addr} {H H' : Hp} (s : SBN c H H') : Same (OffT c H) H' := upT fun b o n h t => s b o n h fun ps e => by rw [e] at t; cases t
theorem Fun_okN {P : Program} {w : World} {K : PySem.W.Frag} {mg : Str → Option Value} {base : Heap}
    {x qual : Str} {st : Stmt} {f : Addr} {fd : FuncData} {N ps : List Str} {k : Nat} {sp : Sp}
    (F : Fun K x qual st f fd) (S : FnScope N ps (defScope st))
    (len : ∀ vs H Q E, sp vs H Q E → vs.length = ps.length)
    (hbody : ∀ (cdv : Value) (A : Around) (outer : List Env) (s : Shared) (H : Hp) (vs : List V) (Q : VK) (E : XK),
      A.guards = some [] → Room k (A.deeper (envOfC qual (defScope st) s.heap.objs.size f cdv)) → sp vs H Q E →
      ∃ t, PSs (cxOf CX0 P w K mg base N qual (defScope st) f cdv A outer s H E).nox (defBody st) t ∧
        t { nx := fun _ H' => Q .non H', rt := Q } (start N vs) H) :
    FnG P w K mg base (k + 1) f fd ps sp :=
  Fun_okG F S len fun cdv A outer s H vs Q E hg hr h => let ⟨t, ht, q⟩ := hbody cdv A outer s H vs Q E hg hr h; ⟨t, ht.nox, q⟩
def spLaw (K : PySem.W.Frag) (PT : Addr) : Sp := fun vs H Q _ => ∃ (a : Addr) (ns : List Int), vs = [.ref a] ∧ SqL K H a (ns.map V.int) ∧ ns.length ≤ 63 ∧ LamX.Tabs [(PT, qL)] H ∧ ∀ H', Q (.bl true) H'
section
variable {P : Program} {w : World} {K : PySem.W.Frag} {mg : Str → Option Value} {base : Heap} {f : Addr} {fd : FuncData}
abbrev N_law : List Str := ["script", "loom", "turn", "points", "kept", "point", "bent", "before"]
theorem sc_law : FnScope ["script", "loom", "turn", "points", "kept", "point", "bent", "before"] ["script"] (defScope st_law) := ⟨rfl, rfl, rfl, by decide +kernel, rfl, by decide +kernel, by decide +kernel⟩
theorem ok_law {PT f1 f2 f3 f4 f5 : Addr} (F : Fun K "law" "law" st_law f fd) (T : Nm mg) (D__law_loom : Dn P w K mg base 1 "_law_loom" f1 ["script"] (spCoil K)) (D__law_thread : Dn P w K mg base 1 "_law_thread" f2 ["loom", "many"] spTurn)
    (D__law_points : Dn P w K mg base 3 "_law_points" f3 ["loom", "wide"] (spPoints K)) (D__law_bent : Dn P w K mg base 3 "_law_bent" f4 ["loom", "points"] (spBent K)) (D__law_right : DnG P w K mg base 10 "_law_right" f5 ["value"] (spRight K PT)) :
    FnG P w K mg base 11 f fd ["script"] (spLaw K PT) := by
  refine Fun_okN F sc_law (fun vs H Q E h => ?_) (fun cdv A outer s H vs Q EE hG hr h => ?_)
  · obtain ⟨a, ns, rfl, _⟩ := h
    rfl
  · obtain ⟨a, ns, rfl, hS, hl, hT, k⟩ := h
    refine ⟨_, (pss_cons (ps_set (i := 1) sc_law.nd rfl (Or.inl rfl) (pe_dn D__law_loom (hr.mono (by decide)) rfl (pa_cons (pv 0) pa_nil)))
    (pss_cons (ps_for PassesOwn.never rfl (pi_range1 (by rfl) T.n_range (pa_cons pe_int pa_nil)) (pg_name (i := 2) sc_law.nd rfl (Or.inl rfl))
      (pss_cons (ps_set (i := 3) sc_law.nd rfl (Or.inl rfl) (pe_dn D__law_points (hr.mono (by decide)) rfl (pa_cons (pv 1) (pa_cons (pe_op op_add pe_int (pe_dn D__law_thread (hr.mono (by decide)) rfl (pa_cons (pv 1) (pa_cons pe_int pa_nil)))) pa_nil))))
    (pss_cons (ps_set (i := 4) sc_law.nd rfl (Or.inl rfl) (pe_callB (call_repr3 K hG hr.units) (by rfl) T.n_repr (by decide +kernel) (pa_cons (pv 3) pa_nil)))
    (pss_cons (ps_if (PW.pt (pw_or (pt_not (pt_val (pe_dg D__law_right hG (hr.mono (by decide)) rfl (pa_cons (pv 3) pa_nil)))) (pw_or (pt_not (pt_val (pe_dg D__law_right hG (hr.mono (by decide)) rfl (pa_cons (pe_callTy (call_tupK K) (by rfl) T.n_tuple (by decide +kernel) (pa_cons (pe_lc (own := [("point", 5)]) (g := gName 5) (tt := tYes) rfl sc_law.nd (pi_seqK K (pe_revL (pv 3))) (blkOk_by (N := ["script", "loom", "turn", "points", "kept", "point", "bent", "before"]) (sc := defScope st_law) (by decide +kernel)) (fun _ _ _ _ _ => (pg_name (i := 5) sc_law.nd rfl (Or.inl rfl))) (fun _ _ _ _ _ => pts_nil) (fun _ _ _ _ _ => (pe_callTy (call_tupK K) (by rfl) T.n_tuple (by decide +kernel) (pa_cons (pv 5) pa_nil)))) pa_nil)) pa_nil)))) (pw_or1 (pt_cmpR op_ne (pe_callB (call_repr3 K hG hr.units) (by rfl) T.n_repr (by decide +kernel) (pa_cons (pv 3) pa_nil)) (pv 4) (nomark _)))))) (pss_one (ps_ret pe_bl)) pss_nil)
    (pss_cons (ps_set (i := 6) sc_law.nd rfl (Or.inl rfl) (pe_dn D__law_bent (hr.mono (by decide)) rfl (pa_cons (pv 1) (pa_cons (pv 3) pa_nil))))
    (pss_cons (ps_set (i := 7) sc_law.nd rfl (Or.inl rfl) (pe_callB (call_repr3 K hG hr.units) (by rfl) T.n_repr (by decide +kernel) (pa_cons (pv 6) pa_nil)))
    (pss_one (ps_if (PW.pt (pw_or (pt_not (pt_val (pe_dg D__law_right hG (hr.mono (by decide)) rfl (pa_cons (pv 6) pa_nil)))) (pw_or1 (pt_cmpR op_ne (pe_callB (call_repr3 K hG hr.units) (by rfl) T.n_repr (by decide +kernel) (pa_cons (pv 6) pa_nil)) (pv 7) (nomark _))))) (pss_one (ps_ret pe_bl)) pss_nil))))))))
    (pss_one (ps_ret pe_bl)))), ?_⟩
    refine ⟨_, rfl, a, ns, rfl, hS, hl, fun c d H1 hcn s1 hC => ?_⟩
    have hT1 : LamX.Tabs [(PT, qL)] H1 := hT.ext s1
    refine ⟨2, rfl, by decide, by decide, for_it walk_range (fun i σ H2 => ∃ (x2 x3 x4 x6 x7 : Option V) (m' : Nat), σ = [some (.ref a), some (.ref c), x2, x3, x4, none, x6, x7] ∧ m' ≤ 520 * i ∧ Coil H2 c d ns m' ∧ LamX.Tabs [(PT, qL)] H2)
      ⟨none, none, none, none, none, 0, rfl, by omega, hC, hT1⟩ (fun _ _ _ _ _ => trivial) ?_ ?_⟩
    · rintro i x σ H2 H3 hi ⟨x2, x3, x4, x6, x7, m', rfl, hm', hC2, hT2⟩ ⟨rfl, rfl⟩
      have hi2 : i < 2 := hi
      -- the points
      refine ⟨_, rfl, _, rfl, c, d, ns, m', 5, rfl, hC2, by omega, by decide, small9000 (by decide), fun r H4 a1 b1 hC4 sb4 => ⟨2, r, rfl, rfl, ?_⟩⟩
      dsimp only
      obtain ⟨wd, hwd⟩ : ∃ n : Nat, 2 + r = (n : Int) := ⟨(2 + r).toNat, by omega⟩
      rw [hwd]
      have hT4 := tabs_but hT2 hC2 sb4
      refine ⟨c, d, ns, m' + 1, wd, rfl, hC4, by omega, by omega, by omega, fun p us M H5 npc hp hRw hMl hMw hMb hC5 sb5 => ?_⟩
      have hT5 := tabs_but hT4 hC4 sb5
      have hMne : M ≠ [] := List.length_pos_iff.mp (by omega)
      have hM25 : ∀ x ∈ M, x.length ≤ 25 ∧ ∀ b ∈ x, b.natAbs < 2 ^ 85 := fun x hx => ⟨by rw [hMw x hx]; omega, fun b hb => Nat.lt_of_le_of_lt (hMb x hx b hb) (by decide)⟩
      have hus : us.length = wd := by rw [hRw.1, hMl]
      have hB5 := hRw.bnt (K := K) hp npc hMne (by omega) hM25
      obtain ⟨_, dR, _, _, hsw⟩ := id hB5
      have swR : ∀ H', SBN c H5 H' → Sw K H' (.ref p) dR := fun H' s => hsw.same s.up
      refine ⟨_, rfl, .ref p, dR, rfl, swR H5 (SBN.of (SameBut.refl c H5)), ?_⟩
      -- shown right
      refine ⟨_, rfl, c, .ref p, rfl, hB5, hT5, fun H6 x6 w6 => ⟨_, rfl, iteF ?_⟩⟩
      have hC6 := hC5.ext x6
      have b56 : SBN c H5 H6 := SBN.ext x6
      have hp6 := b56 _ _ npc hp (by intro ps e; cases e)
      have hRw6 := hRw.sbn b56
      -- .. in the other order, as tuples
      refine ⟨_, rfl, p, us, rfl, .of hp6, fun pv1 hV => ?_⟩
      have s1 := same_upd (o := .lst us.reverse) hV
      have z1 : upd H6 pv1 (.lst us.reverse) pv1 = some (.lst us.reverse) := upd_same
      have nV := (hC6.ne hV).1
      have hC7 := hC6.but s1
      generalize upd H6 pv1 (.lst us.reverse) = H7 at s1 z1 hC7 ⊢
      obtain ⟨N, hN, hRN⟩ := hRw6.perm (List.reverse_perm us)
      have hNl : N.length = wd := by rw [hN.length_eq, hMl]
      have hN25 : ∀ x ∈ N, x.length ≤ 25 ∧ ∀ b ∈ x, b.natAbs < 2 ^ 85 := fun x hx => hM25 x (hN.mem_iff.mp hx)
      have lre : us.reverse.length = wd := by rw [List.length_reverse, hus]
      refine ⟨false, pv1, rfl, ⟨_, .of z1⟩, fun D hD => lc_rel (R := fun i y H => ∃ (q : Addr) (x : Vec), y = .ref q ∧ q ≠ c ∧ x ∈ N ∧ H q = some (.tup (x.map V.int))) (walk_seq (b := false)) hD (Nat.lt_of_le_of_lt (by omega : us.reverse.length ≤ 16) (by decide)) (fun H s => .of (s _ _ z1))
        (fun i y H H' s ⟨q, x, e1, e2, e3, t⟩ => ⟨q, x, e1, e2, e3, s _ _ t⟩) ?_ ?_⟩
      · rintro j x H8 H9 hj s8 ⟨acc, hacc⟩ ⟨rfl, hx⟩ Rk kk
        have hjN : j < N.length := by omega
        obtain ⟨q, rfl, nq, _, hq⟩ := hRN.2 j x _ hx (List.getElem?_eq_getElem hjN)
        refine ⟨rfl, _, rfl, false, q, _, rfl, .of (s8 _ _ (s1 _ _ hq)), fun _ l hl => kk _ _ (same_upd hl) ⟨l, _, rfl, ((hC7.but s8).ne hl).1, List.getElem_mem hjN, ?_⟩, fun z => (by cases z)⟩
        rw [off_ne (fun e => by rw [e, hacc] at hl; cases hl)]
        exact upd_same
      rintro H8 ⟨ts, lts, hD8, s8, hr8⟩
      refine ⟨false, D, _, rfl, .of hD8, fun _ Z hZ => ?_, fun z => (by cases z)⟩
      have hC8 := hC7.but s8
      have nZ := (hC8.ne hZ).1
      have sZ := same_upd (o := .tup ts) hZ
      have lts' : ts.length = wd := by omega
      have hBt : Bnt K (OffT c (upd H8 Z (.tup ts))) (.ref Z) := by
        refine bnt_t (offT1 upd_same nZ) (by rw [← List.length_pos_iff]; omega) (by omega) fun u hu => ?_
        obtain ⟨i, hi⟩ := List.mem_iff_getElem?.mp hu
        obtain ⟨q, x, rfl, n1, hx, t⟩ := hr8 i u hi
        have hb := hN25 x hx
        exact rx_tup (offT1 (sZ _ _ (off_same _ _ _ _ t)) n1) (by rw [List.length_map]; exact hb.1) fun y hy => by
          obtain ⟨b, hm, rfl⟩ := List.mem_map.mp hy
          exact .int (hb.2 b hm)
      have hC9 := hC8.but sZ
      have s69 : Same H6 (upd H8 Z (.tup ts)) := s1.trans (s8.trans sZ)
      have hT9 := w6.ext s69
      clear hr8 hD8 hD
      generalize upd H8 Z (.tup ts) = H9 at hBt hC9 s69 hT9 ⊢
      refine ⟨c, .ref Z, rfl, hBt, hT9, fun H10 x10 w10 => ⟨_, rfl, iteF ?_⟩⟩
      have b510 : SBN c H5 H10 := b56.trans ((SBN.of (SameBut.of s69)).trans (SBN.ext x10))
      refine ⟨_, rfl, .ref p, dR, rfl, swR H10 b510, _, rfl, rfl, _, rfl, ?_⟩
      rw [decide_eq_true rfl]
      refine iteF ?_
      -- bent
      have hC10 := hC9.ext x10
      refine ⟨_, rfl, _, rfl, c, d, ns, m' + 1 + 500, p, us, M, rfl, hC10, by omega, npc, b510 _ _ npc hp (by intro ps e; cases e), hRw.sbn b510, by omega, by omega, (fun x hx => by rw [hMw x hx, hMl]), hMb, fun v H11 hB hC11 sb11 => ?_⟩
      have hT11 := tabs_but w10 hC10 sb11
      obtain ⟨_, dv, _, _, hsw2⟩ := id hB
      refine ⟨_, rfl, v, dv, rfl, hsw2.same (SBN.up (SBN.of (SameBut.refl c H11))), ?_⟩
      refine ⟨_, rfl, c, v, rfl, hB, hT11, fun H12 x12 w12 => ⟨_, rfl, iteF ?_⟩⟩
      refine ⟨_, rfl, v, dv, rfl, hsw2.same (SBN.up (SBN.ext x12)), _, rfl, rfl, _, rfl, ?_⟩
      rw [decide_eq_true rfl]
      exact iteF ⟨_, _, _, _, _, m' + 1 + 500 + 10, rfl, (by omega : m' + 1 + 500 + 10 ≤ 520 * (i + 1)), hC11.ext x12, w12⟩
    · rintro σ H2 ⟨x2, x3, x4, x6, x7, m', rfl, _⟩
      exact k _
end
end K0


set_option Elab.async false
set_option linter.all false
set_option maxRecDepth 100000
set_option maxHeartbeats 4000000
/-! the call of the law at the top, where its promise is FnG's, one table of code objects beside the script -/
namespace K0
open PySem PySem.Spec PyProof.Rows L2

/-- what the top tracks: the table at T, and the list at a where t -/
def topH (T a : Addr) (t : Bool) (u : HO) : Hp := fun b => if b = T then some (.tbl #[]) else if b = a then (if t = true then some u else none) else none
section
variable {T a b : Addr} {t : Bool} {u : HO}
theorem topH_T : topH T a t u T = some (.tbl #[]) := if_pos rfl
theorem topH_a (h : a ≠ T) : topH T a t u a = if t = true then some u else none := (if_neg h).trans (if_pos rfl)
theorem topH_o (h1 : b ≠ T) (h2 : b ≠ a) : topH T a t u b = none := (if_neg h1).trans (if_neg h2)
end
section
variable {P : Program} {w : World} {K : PySem.W.Frag} {mg mb : Str → Option Value} {k : Nat} {fa a cc PT : Addr} {fd : FuncData} {x : Str} {sp : Sp} {sT : Shared} {vs : List Value} {ns : List Int}
theorem top_call (KX : K.In sT.heap) (nG : sT.heap.Ns mainGlobals mg) (nB : sT.heap.Ns builtinsNs mb) (bB : ∀ y : Str, y ≠ "__name__" → mb y = bootBuiltins y) (lim : sT.heap.NoLimit) (gens : sT.gens = #[])
    (tab : sT.heap.get? PT = some { cls := .none, data := .fields #[] }) (tabK : K.lookup PT = none) (code : PySem.W.CodeHd sT.heap cc PT)
    (bm : ∃ (m : Addr) (om : Obj), mg "__builtins__" = some (.ref m) ∧ m ≠ builtinsNs ∧ sT.heap.get? m = some om ∧ om.cls = .type "module" ∧ om.dict = some builtinsNs ∧ om.data = .plain)
    (la : sT.heap.get? a = some { cls := .type "list", data := .seq vs.toArray }) (li : IntsAre vs ns) (ll : ns.length ≤ sizeLine) (room : Room k callerA)
    (F : ∀ gr : Heap, K.In gr → gr.Ns mainGlobals mg → LamX.TabB gr mg cc PT → FnG P w K mg gr k fa fd [x] sp)
    (bind : ∀ (s : Shared) (v : Value), BindsTo s fd ⟨[v], []⟩ [(x, v)])
    (ask : ∀ Hx : Hp, Hx PT = some (.tbl #[]) → SqL K Hx a (ns.map V.int) → sp [.ref a] Hx (fun v _ => v = .bl true) fun _ _ _ => False) :
    codeAny (model P w) callerA (.call (.ref fa) ⟨[.ref a], []⟩) (fun r sE => r = .ok (.ret (.bool true)) ∧ OldK sT.heap sE.heap ∧ sE.os = sT.os ∧ AllBare sE.gens) sT := by
  have vn := vals_ints li
  have len := li.length
  have aT : a ≠ PT := fun z => by
    rw [z, tab] at la
    cases la
  obtain ⟨t, ht⟩ : ∃ t, t = (K.lookup a).isNone := ⟨_, rfl⟩
  obtain ⟨u, hu⟩ : ∃ u, u = HO.frz { cls := .type "list", data := .seq vs.toArray } (.lst (ns.map V.int)) := ⟨_, rfl⟩
  obtain ⟨Hx, eH⟩ : ∃ Hx, Hx = topH PT a t u := ⟨_, rfl⟩
  have hT : Hx PT = some (.tbl #[]) := by rw [eH]; exact topH_T
  have hA : Hx a = if t = true then some u else none := by rw [eH]; exact topH_a aT
  have hO : ∀ b, b ≠ PT → b ≠ a → Hx b = none := fun b h1 h2 => by rw [eH]; exact topH_o h1 h2
  -- nothing but a list and a table is tracked
  have free : ∀ {b : Addr} {o : Obj}, sT.heap.get? b = some o → o.data ≠ .fields #[] → (∀ its n, o.data ≠ .seq its n) → Hx b = none := fun {b o} e d1 d2 => by
    refine hO b (fun z => ?_) fun z => ?_
    · rw [z, tab] at e
      cases e
      exact d1 rfl
    · rw [z, la] at e
      cases e
      exact d2 _ _ rfl
  have held : HOk P w Hx sT.heap := fun b o e => by
    by_cases h1 : b = PT
    · rw [h1, hT] at e
      cases e
      rw [h1]
      exact tab
    · by_cases h2 : b = a
      · rw [h2, hA] at e
        cases t with
        | false => exact absurd e (by simp)
        | true =>
          rw [if_pos rfl] at e
          cases e
          rw [h2, hu]
          exact ⟨la, by rw [List.length_map]; exact ll, vs, _, vn, la⟩
      · rw [hO b h1 h2] at e
        cases e
  have seq : SqL K Hx a (ns.map V.int) := by
    cases hk : K.lookup a with
    | none =>
      rw [hk] at ht
      refine .inl (.inr ⟨{ cls := .type "list", data := .seq vs.toArray }, ?_⟩)
      rw [hA, ht, ← hu]
      rfl
    | some o =>
      have e := KX a o hk
      rw [la] at e
      cases e
      exact .inr ⟨_, vs.toArray, _, hk, rfl, rfl, rfl, by rw [List.size_toArray, len]; exact ll, by simpa using vn⟩
  have inGr : K.In (hidT sT.heap Hx) := fun b o e => by
    refine hidT_get (KX b o e) ?_
    by_cases h1 : b = PT
    · rw [h1, tabK] at e
      cases e
    · by_cases h2 : b = a
      · rw [h2] at e
        rw [e] at ht
        rw [h2, hA, ht]
        rfl
      · exact hO b h1 h2
  have ns2 : ∀ {b : Addr} {m : Str → Option Value}, sT.heap.Ns b m → (hidT sT.heap Hx).Ns b m := fun {b m} ⟨o, es, ep, e, d, r⟩ =>
    ⟨o, es, ep, hidT_get e (free e (fun z => by rw [d] at z; cases z) fun its n z => by rw [d] at z; cases z), d, r⟩
  have tb : LamX.TabB (hidT sT.heap Hx) mg cc PT := by
    refine ⟨?_, ?_, fun z => ?_⟩
    · obtain ⟨o, us, file, tf, flags, tg, inF, text, tt, e1, r1, r2, r3, rest⟩ := code
      refine ⟨o, us, file, tf, flags, tg, inF, text, tt, hidT_get e1 (free e1 (fun z => ?_) fun its n z => ?_), r1, r2, r3, rest⟩
      · rw [r2] at z
        cases z
        simp at r3
      · rw [r2] at z
        cases z
    · obtain ⟨m, om, b1, b2, b3, b4, b5, b6⟩ := bm
      refine ⟨m, om, b1, b2, fun z => ?_, fun z => ?_, hidT_get b3 (free b3 (fun z => ?_) fun its n z => ?_), b4, b5, b6⟩
      · obtain ⟨o, es, ep, e, d, _⟩ := nG
        rw [z, e] at b3
        cases b3
        rw [d] at b6
        cases b6
      · rw [z, tab] at b3
        cases b3
        cases b6
      · rw [b6] at z
        cases z
      · rw [b6] at z
        cases z
    · obtain ⟨o, es, ep, e, d, _⟩ := nG
      rw [z, tab] at e
      cases e
      cases d
  have env : Env0 P w K mg (hidT sT.heap Hx) callerA [] sT Hx :=
    { frames := rfl
      mod := ⟨inGr, ns2 nG, ⟨mb, ns2 nB, bB⟩, let ⟨mc, z1, z2⟩ := lim; ⟨mc, ns2 z1, z2⟩⟩
      bs := fun b o e => of_hidT e
      bsz := Nat.le_of_eq (hidT_size _ _)
      funs := trivial
      frf := fun b hb => absurd hb List.not_mem_nil
      hok := held
      bare := .of_eq gens }
  have go := (F _ inGr (ns2 nG) tb).go callerA [] sT Hx ⟨[.ref a], []⟩ [.ref a] [.ref a] _ _ rfl room env (bind sT (.ref a)) (.cons rfl .nil) (ask Hx hT seq)
  refine codeAny_mono go fun r sE h => ?_
  match r, h with
  | .error e, h => exact (show False from h).elim
  | .ok .next, h => exact (show False from h).elim
  | .ok .brk, h => exact (show False from h).elim
  | .ok .cont, h => exact (show False from h).elim
  | .ok (.ret z), h =>
    obtain ⟨v, Hy, os, bare, un, ok2, rv, q⟩ := h
    have q2 : v = .bl true := q
    subst q2
    obtain rfl : z = Value.bool true := rv
    have stay : ∀ b o, b ≠ PT → sT.heap.get? b = some o → sE.heap.get? b = some o := fun b o nb e => by
      by_cases hb : b = a
      · have hAe := hA
        cases t with
        | false => exact un.keep b o e (by rw [hb, hAe]; rfl) List.not_mem_nil List.not_mem_nil
        | true =>
          rw [if_pos rfl] at hAe
          have fz := hAe
          rw [hu] at fz
          have f2 := un.frzs a _ _ fz
          obtain ⟨z1, _⟩ := held a _ fz
          obtain ⟨z2, _⟩ := ok2 a _ f2
          rw [hb, z1] at e
          cases e
          rw [hb]
          exact z2
      · exact un.keep b o e (hO b nb hb) List.not_mem_nil List.not_mem_nil
    obtain ⟨more, hm⟩ := un.tbls PT #[] hT
    have tE : sE.heap.get? PT = some { cls := .none, data := .fields (#[] ++ more) } := ok2 PT _ hm
    refine ⟨rfl, ⟨fun b o e => ?_, fun b o e => ?_⟩, os, bare⟩
    · by_cases hb : b = PT
      · rw [hb] at e ⊢
        rw [tab] at e
        cases e
        exact .inr (.inl ⟨(code.tab tab).isCodeTable, rfl, #[], more, rfl, tE⟩)
      · exact .inl (stay b o hb e)
    · by_cases hb : b = PT
      · rw [hb]
        exact ⟨_, tE⟩
      · exact ⟨o, stay b o hb e⟩
end
end K0


set_option Elab.async false
set_option linter.all false
set_option maxRecDepth 100000
set_option maxHeartbeats 4000000
namespace K0
open PySem PySem.Spec PyProof.Rows L2

section
variable {P : Program} {w : World} {K : PySem.W.Frag} {mg : Str → Option Value} {base : Heap}
theorem nmg {h : Heap} {x : Str} (X : K.In h) (G : h.Ns mainGlobals mg) (e : PySem.W.nsIn K mainGlobals x = some none) : mg x = none := PySem.W.mg_none_of X G e
theorem cls_ok {K : PySem.W.Frag} {D : Addr} (i : PySem.W.isClsIn K D = true) (t : PySem.W.typeIn K (.ref D) = some (.type "type")) : ((PySem.W.clsIn K D).isSome && PySem.W.typeIn K (.ref D) == some (.type "type")) = true := by
  have i2 : (PySem.W.clsIn K D).isSome = true := i
  rw [i2, t]
  rfl
theorem kit_self {K : PySem.W.Frag} {v : Value} : PySem.W.kitOne K v v = some true := if_pos (beq_iff_eq.mpr rfl)
theorem kit_cl {K : PySem.W.Frag} {C D : Addr} {b : Bool} (h : PySem.W.subIn K (.ref C) (.ref D) = some b) (i : PySem.W.isClsIn K D = true) (t : PySem.W.typeIn K (.ref D) = some (.type "type")) : PySem.W.kitCls K (.ref C) (.ref D) = some b := by
  exact Eq.trans (if_pos (cls_ok i t)) h
theorem kit_no {K : PySem.W.Frag} {C D : Addr} (h : PySem.W.subIn K (.ref C) (.ref D) = some false) (s : PySem.W.subIn K (.ref D) (.ref D) = some true) (i : PySem.W.isClsIn K D = true) (t : PySem.W.typeIn K (.ref D) = some (.type "type")) : PySem.W.kitOne K (.ref C) (.ref D) = some false := by
  have ne : ¬ (Value.ref C == Value.ref D) = true := fun e => by
    have e2 := Value.ref.inj (beq_iff_eq.mp e)
    rw [e2, s] at h
    cases h
  unfold PySem.W.kitOne
  rw [if_neg ne]
  exact kit_cl h i t
theorem kit_yes {K : PySem.W.Frag} {C D : Addr} (h : PySem.W.subIn K (.ref C) (.ref D) = some true) (i : PySem.W.isClsIn K D = true) (t : PySem.W.typeIn K (.ref D) = some (.type "type")) : PySem.W.kitOne K (.ref C) (.ref D) = some true := by
  unfold PySem.W.kitOne
  by_cases e : (Value.ref C == Value.ref D) = true
  · rw [if_pos e]
  · rw [if_neg e]
    exact kit_cl h i t
theorem kit_tn {K : PySem.W.Frag} {C : Addr} {T : String} {b : Bool} (h : PySem.W.subIn K (.ref C) (.type T) = some b) (m : PySem.W.kitMeta T = true) : PySem.W.kitOne K (.ref C) (.type T) = some b := by
  unfold PySem.W.kitOne
  rw [if_neg (fun e => by cases beq_iff_eq.mp e)]
  exact Eq.trans (if_pos m) h
theorem any_no {K : PySem.W.Frag} {t c : Value} {cs : List Value} (h : PySem.W.kitOne K t c = some false) (r : PySem.W.kitAny K t cs = some false) : PySem.W.kitAny K t (c :: cs) = some false := kitAny_cons h (fun _ => r) (fun e => by cases e)
theorem exm_yes {K : PySem.W.Frag} {C D : Addr} (b : PySem.W.subIn K (.ref D) (.type "BaseException") = some true) (h : PySem.W.subIn K (.ref C) (.ref D) = some true) (i : PySem.W.isClsIn K D = true) (t : PySem.W.typeIn K (.ref D) = some (.type "type")) : PySem.W.exmOne K (.ref C) (.ref D) = some true := by
  unfold PySem.W.exmOne
  rw [b, if_pos (by rfl)]
  exact kit_cl h i t
theorem dn_of {x : Str} {st : Stmt} {f : Addr} {fd : FuncData} {k : Nat} {ps : List Str} {sp : Sp} (F : Fun K x x st f fd) (O : FnOk P w K mg base CX0 k f fd ps sp) (m : mg x = some (.ref f))
    (b : ∀ (kV doc pm : Value) (an : Option Addr) (cdv ct : Value) (us : List Value), us.length = ps.length → bindArgs (PySem.W.fnOf x x (defArgs st) (defBody st) (defScope st) .none kV doc pm an cdv ct) ⟨us, []⟩ = pure (ps.zip us)) : Dn P w K mg base k x f ps sp := ⟨⟨fd, O, F.binds b⟩, m, F.kp⟩
theorem dg_of {x : Str} {st : Stmt} {f : Addr} {fd : FuncData} {k : Nat} {ps : List Str} {sp : Sp} (B : Binds K fd ps []) (kp : PySem.W.keepIn K (.ref f) = true) (O : FnG P w K mg base k f fd ps sp) (m : mg x = some (.ref f)) : DnG P w K mg base k x f ps sp := ⟨⟨fd, O, B⟩, m, kp⟩
theorem dx_of {x : Str} {st : Stmt} {f : Addr} {fd : FuncData} {k : Nat} {ps : List Str} {sp : Sp} (F : Fun K x x st f fd) (O : FnOk P w K mg base (L2.CX P w) k f fd ps sp) (m : mg x = some (.ref f))
    (b : ∀ (kV doc pm : Value) (an : Option Addr) (cdv ct : Value) (us : List Value), us.length = ps.length → bindArgs (PySem.W.fnOf x x (defArgs st) (defBody st) (defScope st) .none kV doc pm an cdv ct) ⟨us, []⟩ = pure (ps.zip us)) : DnX P w K mg base k x f ps sp := ⟨⟨fd, O, F.binds b⟩, m, F.kp⟩
/-- keywords, in the order of the parameters -/
theorem kb_same {x : Str} {st : Stmt} {f : Addr} {fd : FuncData} {ps : List Str} (F : Fun K x x st f fd)
    (b : ∀ (kV doc pm : Value) (an : Option Addr) (cdv ct : Value) (ws : List Value), ws.length = ps.length → bindArgs (PySem.W.fnOf x x (defArgs st) (defBody st) (defScope st) .none kV doc pm an cdv ct) ⟨[], ps.zip ws⟩ = pure (ps.zip ws)) : KBn K fd ps 0 ps (fun _ ws => ws) kw1 := by
  obtain ⟨oc, od, kV, doc, pm, an, cdv, ct, osl, rfl, lk, hcd⟩ := F.ex
  refine ⟨fun s us ws _ l1 l2 => ?_, fun _ r => r⟩
  match us, l1 with
  | [], _ => exact .of_eq (b kV doc pm an cdv ct ws l2)
end
theorem all_mk {P : Program} {w : World} {K : PySem.W.Frag} {h : Heap} {mg : Str → Option Value} (X : K.In h) (G : h.Ns mainGlobals mg)
    {C0 I0 C1 I1 C2 F0 F1 F2 F3 F4 F5 F6 F7 F8 F9 F10 F11 F12 F13 F14 F15 F16 F17 F18 F19 F20 F21 F22 F23 F24 F25 F26 F27 F28 cc PT : Addr} {nm0 cq0 nm1 cq1 : Str} {N0 N1 : Addr} {bs0 bm0 sub0 bs1 bm1 sub1 : List Value} {sn0 sn1 : List Str} {ab0 ab1 : Bool} {col0 col1 : Option Bool} {dd0 od0 an0 dd1 od1 an1 dod0 dan0 dod1 dan1 dod2 dan2 dod3 dan3 dod4 dan4 dod5 dan5 dod6 dan6 dod7 dan7 dod8 dan8 dod9 dan9 dod10 dan10 dod11 dan11 dod12 dan12 dod13 dan13 dod14 dan14 dod15 dan15 dod16 dan16 dod17 dan17 dod18 dan18 dod19 dan19 dod20 dan20 dod21 dan21 dod22 dan22 dod23 dan23 dod24 dan24 dod25 dan25 dod26 dan26 dod27 dan27 dod28 dan28 : Option Addr}
    {m00 m10 m20 m30 m50 m01 m11 m21 m31 m51 : Option Value} {oc0 kv0 cdc0 pm0 cd0 tt0 oc1 kv1 cdc1 pm1 cd1 tt1 doc0 dkv0 ddc0 dpm0 dcd0 dct0 doc1 dkv1 ddc1 dpm1 dcd1 dct1 doc2 dkv2 ddc2 dpm2 dcd2 dct2 doc3 dkv3 ddc3 dpm3 dcd3 dct3 doc4 dkv4 ddc4 dpm4 dcd4 dct4 doc5 dkv5 ddc5 dpm5 dcd5 dct5 doc6 dkv6 ddc6 dpm6 dcd6 dct6 doc7 dkv7 ddc7 dpm7 dcd7 dct7 doc8 dkv8 ddc8 dpm8 dcd8 dct8 doc9 dkv9 ddc9 dpm9 dcd9 dct9 doc10 dkv10 ddc10 dpm10 dcd10 dct10 doc11 dkv11 ddc11 dpm11 dcd11 dct11 doc12 dkv12 ddc12 dpm12 dcd12 dct12 doc13 dkv13 ddc13 dpm13 dcd13 dct13 doc14 dkv14 ddc14 dpm14 dcd14 dct14 doc15 dkv15 ddc15 dpm15 dcd15 dct15 doc16 dkv16 ddc16 dpm16 dcd16 dct16 doc17 dkv17 ddc17 dpm17 dcd17 dct17 doc18 dkv18 ddc18 dpm18 dcd18 dct18 doc19 dkv19 ddc19 dpm19 dcd19 dct19 doc20 dkv20 ddc20 dpm20 dcd20 dct20 doc21 dkv21 ddc21 dpm21 dcd21 dct21 doc22 dkv22 ddc22 dpm22 dcd22 dct22 doc23 dkv23 ddc23 dpm23 dcd23 dct23 doc24 dkv24 ddc24 dpm24 dcd24 dct24 doc25 dkv25 ddc25 dpm25 dcd25 dct25 doc26 dkv26 ddc26 dpm26 dcd26 dct26 doc27 dkv27 ddc27 dpm27 dcd27 dct27 doc28 dkv28 ddc28 dpm28 dcd28 dct28 : Value} {sl0 sl1 dsl0 dsl1 dsl2 dsl3 dsl4 dsl5 dsl6 dsl7 dsl8 dsl9 dsl10 dsl11 dsl12 dsl13 dsl14 dsl15 dsl16 dsl17 dsl18 dsl19 dsl20 dsl21 dsl22 dsl23 dsl24 dsl25 dsl26 dsl27 dsl28 : Array (Option Value)} {tMD : Tok}
    (ca0 : PySem.W.nsIn K mainGlobals "BadPoint" = some (some (.ref C0)))
    (cl0 : K.lookup C0 = some (excClassObj nm0 cq0 C0 N0 bs0 bm0 true sn0 sub0 ab0 col0 dd0 m00 m10 m20 m30 m50 "ValueError.__new__"))
    (cv0 : PySem.HandSPX.refsVE bm0 = true)
    (cs0 : PySem.W.findIn K (.ref C0) "__setattr__" = some (some (.builtin "object.__setattr__")))
    (ci0 : PySem.W.findIn K (.ref C0) "__init__" = some (some (.ref I0)))
    (ct0 : PySem.W.typeIn K (.ref I0) = some (.type "function"))
    (cf0 : K.lookup I0 = some ⟨oc0, od0, .func (PySem.W.fnOf "__init__" "BadPoint.__init__" (defArgs si_BadPoint) (defBody si_BadPoint) (defScope si_BadPoint) .none kv0 cdc0 pm0 an0 cd0 tt0), sl0⟩)
    (cc0 : PySem.W.codeIn K cd0 "BadPoint.__init__" = true)
    (cj0 : PySem.W.keepIn K (.ref I0) = true)
    (cn0part : PySem.W.findIn K (.ref C0) "part" = some none)
    (cg0 : PySem.W.findIn K (.ref C0) "__getattribute__" = some (some (.builtin "BaseException.__getattribute__")))
    (ch0 : PySem.W.findIn K (.ref C0) "__getattr__" = some none)
    (ce0 : PySem.W.subIn K (.ref C0) (.type "BaseException") = some true)
    (cy0 : PySem.W.typeIn K (.ref C0) = some (.type "type"))
    (ck0 : PySem.W.keepIn K (.ref C0) = true)
    (cd_0 : PySem.W.hasDictIn K C0 = true)
    (co0 : PySem.W.findIn K (.ref C0) "__class__" = some (some (.builtin "object.__class__")))
    (cm0 : PySem.W.mroIn K C0 (.type "object") = some true)
    (iC0 : PySem.W.isClsIn K C0 = true)
    (ca1 : PySem.W.nsIn K mainGlobals "Misfit" = some (some (.ref C1)))
    (cl1 : K.lookup C1 = some (excClassObj nm1 cq1 C1 N1 bs1 bm1 true sn1 sub1 ab1 col1 dd1 m01 m11 m21 m31 m51 "ValueError.__new__"))
    (cv1 : PySem.HandSPX.refsVE bm1 = true)
    (cs1 : PySem.W.findIn K (.ref C1) "__setattr__" = some (some (.builtin "object.__setattr__")))
    (ci1 : PySem.W.findIn K (.ref C1) "__init__" = some (some (.ref I1)))
    (ct1 : PySem.W.typeIn K (.ref I1) = some (.type "function"))
    (cf1 : K.lookup I1 = some ⟨oc1, od1, .func (PySem.W.fnOf "__init__" "Misfit.__init__" (defArgs si_Misfit) (defBody si_Misfit) (defScope si_Misfit) .none kv1 cdc1 pm1 an1 cd1 tt1), sl1⟩)
    (cc1 : PySem.W.codeIn K cd1 "Misfit.__init__" = true)
    (cj1 : PySem.W.keepIn K (.ref I1) = true)
    (cn1part : PySem.W.findIn K (.ref C1) "part" = some none)
    (cg1 : PySem.W.findIn K (.ref C1) "__getattribute__" = some (some (.builtin "BaseException.__getattribute__")))
    (ch1 : PySem.W.findIn K (.ref C1) "__getattr__" = some none)
    (ce1 : PySem.W.subIn K (.ref C1) (.type "BaseException") = some true)
    (cy1 : PySem.W.typeIn K (.ref C1) = some (.type "type"))
    (ck1 : PySem.W.keepIn K (.ref C1) = true)
    (cd_1 : PySem.W.hasDictIn K C1 = true)
    (co1 : PySem.W.findIn K (.ref C1) "__class__" = some (some (.builtin "object.__class__")))
    (cm1 : PySem.W.mroIn K C1 (.type "object") = some true)
    (iC1 : PySem.W.isClsIn K C1 = true)
    (ca2 : PySem.W.nsIn K mainGlobals "SolidError" = some (some (.ref C2)))
    (ce2 : PySem.W.subIn K (.ref C2) (.type "BaseException") = some true)
    (cy2 : PySem.W.typeIn K (.ref C2) = some (.type "type"))
    (iC2 : PySem.W.isClsIn K C2 = true)
    (gn : PySem.W.specialIn K (.builtin "object.__class__") "__get__" = some (some (.builtin "getset_descriptor.__get__")))
    (gt : PySem.W.takesIn K (.builtin "object.__class__") = some true)
    (k0_0 : PySem.W.subIn K (.ref C0) (.ref C0) = some true)
    (k1_0 : PySem.W.subIn K (.ref C1) (.ref C0) = some false)
    (ks0 : PySem.W.subIn K (.ref C0) (.ref C2) = some true)
    (ks1 : PySem.W.subIn K (.ref C1) (.ref C2) = some true)
    (n_isinstance : PySem.W.nsIn K mainGlobals "isinstance" = some none)
    (n_int : PySem.W.nsIn K mainGlobals "int" = some none)
    (n_bool : PySem.W.nsIn K mainGlobals "bool" = some none)
    (n_list : PySem.W.nsIn K mainGlobals "list" = some none)
    (n_tuple : PySem.W.nsIn K mainGlobals "tuple" = some none)
    (n_len : PySem.W.nsIn K mainGlobals "len" = some none)
    (n_all : PySem.W.nsIn K mainGlobals "all" = some none)
    (n_abs : PySem.W.nsIn K mainGlobals "abs" = some none)
    (n_repr : PySem.W.nsIn K mainGlobals "repr" = some none)
    (n_range : PySem.W.nsIn K mainGlobals "range" = some none)
    (n_enumerate : PySem.W.nsIn K mainGlobals "enumerate" = some none)
    (n_zip : PySem.W.nsIn K mainGlobals "zip" = some none)
    (n_sum : PySem.W.nsIn K mainGlobals "sum" = some none)
    (m_gcd : PySem.W.nsIn K mainGlobals "gcd" = some (some (.builtin "math.gcd")))
    (c_MD : PySem.W.nsIn K mainGlobals "MOST_DIMENSION" = some (some (.int 6 tMD)))
    (da0 : PySem.W.nsIn K mainGlobals "divisor_of" = some (some (.ref F0)))
    (dl0 : K.lookup F0 = some ⟨doc0, dod0, .func (PySem.W.fnOf "divisor_of" "divisor_of" (defArgs st_divisor_of) (defBody st_divisor_of) (defScope st_divisor_of) .none dkv0 ddc0 dpm0 dan0 dcd0 dct0), dsl0⟩)
    (dc0 : PySem.W.codeIn K dcd0 "divisor_of" = true)
    (dk0 : PySem.W.keepIn K (.ref F0) = true)
    (da1 : PySem.W.nsIn K mainGlobals "reduced" = some (some (.ref F1)))
    (dl1 : K.lookup F1 = some ⟨doc1, dod1, .func (PySem.W.fnOf "reduced" "reduced" (defArgs st_reduced) (defBody st_reduced) (defScope st_reduced) .none dkv1 ddc1 dpm1 dan1 dcd1 dct1), dsl1⟩)
    (dc1 : PySem.W.codeIn K dcd1 "reduced" = true)
    (dk1 : PySem.W.keepIn K (.ref F1) = true)
    (da2 : PySem.W.nsIn K mainGlobals "product_of" = some (some (.ref F2)))
    (dl2 : K.lookup F2 = some ⟨doc2, dod2, .func (PySem.W.fnOf "product_of" "product_of" (defArgs st_product_of) (defBody st_product_of) (defScope st_product_of) .none dkv2 ddc2 dpm2 dan2 dcd2 dct2), dsl2⟩)
    (dc2 : PySem.W.codeIn K dcd2 "product_of" = true)
    (dk2 : PySem.W.keepIn K (.ref F2) = true)
    (da3 : PySem.W.nsIn K mainGlobals "unit_rows" = some (some (.ref F3)))
    (dl3 : K.lookup F3 = some ⟨doc3, dod3, .func (PySem.W.fnOf "unit_rows" "unit_rows" (defArgs st_unit_rows) (defBody st_unit_rows) (defScope st_unit_rows) .none dkv3 ddc3 dpm3 dan3 dcd3 dct3), dsl3⟩)
    (dc3 : PySem.W.codeIn K dcd3 "unit_rows" = true)
    (dk3 : PySem.W.keepIn K (.ref F3) = true)
    (da4 : PySem.W.nsIn K mainGlobals "narrowed" = some (some (.ref F4)))
    (dl4 : K.lookup F4 = some ⟨doc4, dod4, .func (PySem.W.fnOf "narrowed" "narrowed" (defArgs st_narrowed) (defBody st_narrowed) (defScope st_narrowed) .none dkv4 ddc4 dpm4 dan4 dcd4 dct4), dsl4⟩)
    (dc4 : PySem.W.codeIn K dcd4 "narrowed" = true)
    (dk4 : PySem.W.keepIn K (.ref F4) = true)
    (da5 : PySem.W.nsIn K mainGlobals "without" = some (some (.ref F5)))
    (dl5 : K.lookup F5 = some ⟨doc5, dod5, .func (PySem.W.fnOf "without" "without" (defArgs st_without) (defBody st_without) (defScope st_without) .none dkv5 ddc5 dpm5 dan5 dcd5 dct5), dsl5⟩)
    (dc5 : PySem.W.codeIn K dcd5 "without" = true)
    (dk5 : PySem.W.keepIn K (.ref F5) = true)
    (da6 : PySem.W.nsIn K mainGlobals "lifted_point" = some (some (.ref F6)))
    (dl6 : K.lookup F6 = some ⟨doc6, dod6, .func (PySem.W.fnOf "lifted_point" "lifted_point" (defArgs st_lifted_point) (defBody st_lifted_point) (defScope st_lifted_point) .none dkv6 ddc6 dpm6 dan6 dcd6 dct6), dsl6⟩)
    (dc6 : PySem.W.codeIn K dcd6 "lifted_point" = true)
    (dk6 : PySem.W.keepIn K (.ref F6) = true)
    (da7 : PySem.W.nsIn K mainGlobals "is_integer" = some (some (.ref F7)))
    (dl7 : K.lookup F7 = some ⟨doc7, dod7, .func (PySem.W.fnOf "is_integer" "is_integer" (defArgs st_is_integer) (defBody st_is_integer) (defScope st_is_integer) .none dkv7 ddc7 dpm7 dan7 dcd7 dct7), dsl7⟩)
    (dc7 : PySem.W.codeIn K dcd7 "is_integer" = true)
    (dk7 : PySem.W.keepIn K (.ref F7) = true)
    (da8 : PySem.W.nsIn K mainGlobals "is_within" = some (some (.ref F8)))
    (dl8 : K.lookup F8 = some ⟨doc8, dod8, .func (PySem.W.fnOf "is_within" "is_within" (defArgs st_is_within) (defBody st_is_within) (defScope st_is_within) .none dkv8 ddc8 dpm8 dan8 dcd8 dct8), dsl8⟩)
    (dc8 : PySem.W.codeIn K dcd8 "is_within" = true)
    (dk8 : PySem.W.keepIn K (.ref F8) = true)
    (da9 : PySem.W.nsIn K mainGlobals "is_list" = some (some (.ref F9)))
    (dl9 : K.lookup F9 = some ⟨doc9, dod9, .func (PySem.W.fnOf "is_list" "is_list" (defArgs st_is_list) (defBody st_is_list) (defScope st_is_list) .none dkv9 ddc9 dpm9 dan9 dcd9 dct9), dsl9⟩)
    (dc9 : PySem.W.codeIn K dcd9 "is_list" = true)
    (dk9 : PySem.W.keepIn K (.ref F9) = true)
    (da10 : PySem.W.nsIn K mainGlobals "are_integers" = some (some (.ref F10)))
    (dl10 : K.lookup F10 = some ⟨doc10, dod10, .func (PySem.W.fnOf "are_integers" "are_integers" (defArgs st_are_integers) (defBody st_are_integers) (defScope st_are_integers) .none dkv10 ddc10 dpm10 dan10 dcd10 dct10), dsl10⟩)
    (dc10 : PySem.W.codeIn K dcd10 "are_integers" = true)
    (dk10 : PySem.W.keepIn K (.ref F10) = true)
    (da11 : PySem.W.nsIn K mainGlobals "is_point" = some (some (.ref F11)))
    (dl11 : K.lookup F11 = some ⟨doc11, dod11, .func (PySem.W.fnOf "is_point" "is_point" (defArgs st_is_point) (defBody st_is_point) (defScope st_is_point) .none dkv11 ddc11 dpm11 dan11 dcd11 dct11), dsl11⟩)
    (dc11 : PySem.W.codeIn K dcd11 "is_point" = true)
    (dk11 : PySem.W.keepIn K (.ref F11) = true)
    (da12 : PySem.W.nsIn K mainGlobals "are_points" = some (some (.ref F12)))
    (dl12 : K.lookup F12 = some ⟨doc12, dod12, .func (PySem.W.fnOf "are_points" "are_points" (defArgs st_are_points) (defBody st_are_points) (defScope st_are_points) .none dkv12 ddc12 dpm12 dan12 dcd12 dct12), dsl12⟩)
    (dc12 : PySem.W.codeIn K dcd12 "are_points" = true)
    (dk12 : PySem.W.keepIn K (.ref F12) = true)
    (da13 : PySem.W.nsIn K mainGlobals "plane_through" = some (some (.ref F13)))
    (dl13 : K.lookup F13 = some ⟨doc13, dod13, .func (PySem.W.fnOf "plane_through" "plane_through" (defArgs st_plane_through) (defBody st_plane_through) (defScope st_plane_through) .none dkv13 ddc13 dpm13 dan13 dcd13 dct13), dsl13⟩)
    (dc13 : PySem.W.codeIn K dcd13 "plane_through" = true)
    (dk13 : PySem.W.keepIn K (.ref F13) = true)
    (da14 : PySem.W.nsIn K mainGlobals "plane_of" = some (some (.ref F14)))
    (dl14 : K.lookup F14 = some ⟨doc14, dod14, .func (PySem.W.fnOf "plane_of" "plane_of" (defArgs st_plane_of) (defBody st_plane_of) (defScope st_plane_of) .none dkv14 ddc14 dpm14 dan14 dcd14 dct14), dsl14⟩)
    (dc14 : PySem.W.codeIn K dcd14 "plane_of" = true)
    (dk14 : PySem.W.keepIn K (.ref F14) = true)
    (da15 : PySem.W.nsIn K mainGlobals "_law_loom" = some (some (.ref F15)))
    (dl15 : K.lookup F15 = some ⟨doc15, dod15, .func (PySem.W.fnOf "_law_loom" "_law_loom" (defArgs st__law_loom) (defBody st__law_loom) (defScope st__law_loom) .none dkv15 ddc15 dpm15 dan15 dcd15 dct15), dsl15⟩)
    (dc15 : PySem.W.codeIn K dcd15 "_law_loom" = true)
    (dk15 : PySem.W.keepIn K (.ref F15) = true)
    (da16 : PySem.W.nsIn K mainGlobals "_law_thread" = some (some (.ref F16)))
    (dl16 : K.lookup F16 = some ⟨doc16, dod16, .func (PySem.W.fnOf "_law_thread" "_law_thread" (defArgs st__law_thread) (defBody st__law_thread) (defScope st__law_thread) .none dkv16 ddc16 dpm16 dan16 dcd16 dct16), dsl16⟩)
    (dc16 : PySem.W.codeIn K dcd16 "_law_thread" = true)
    (dk16 : PySem.W.keepIn K (.ref F16) = true)
    (da17 : PySem.W.nsIn K mainGlobals "_law_one_of" = some (some (.ref F17)))
    (dl17 : K.lookup F17 = some ⟨doc17, dod17, .func (PySem.W.fnOf "_law_one_of" "_law_one_of" (defArgs st__law_one_of) (defBody st__law_one_of) (defScope st__law_one_of) .none dkv17 ddc17 dpm17 dan17 dcd17 dct17), dsl17⟩)
    (dc17 : PySem.W.codeIn K dcd17 "_law_one_of" = true)
    (dk17 : PySem.W.keepIn K (.ref F17) = true)
    (da18 : PySem.W.nsIn K mainGlobals "_law_number" = some (some (.ref F18)))
    (dl18 : K.lookup F18 = some ⟨doc18, dod18, .func (PySem.W.fnOf "_law_number" "_law_number" (defArgs st__law_number) (defBody st__law_number) (defScope st__law_number) .none dkv18 ddc18 dpm18 dan18 dcd18 dct18), dsl18⟩)
    (dc18 : PySem.W.codeIn K dcd18 "_law_number" = true)
    (dk18 : PySem.W.keepIn K (.ref F18) = true)
    (da19 : PySem.W.nsIn K mainGlobals "_law_points" = some (some (.ref F19)))
    (dl19 : K.lookup F19 = some ⟨doc19, dod19, .func (PySem.W.fnOf "_law_points" "_law_points" (defArgs st__law_points) (defBody st__law_points) (defScope st__law_points) .none dkv19 ddc19 dpm19 dan19 dcd19 dct19), dsl19⟩)
    (dc19 : PySem.W.codeIn K dcd19 "_law_points" = true)
    (dk19 : PySem.W.keepIn K (.ref F19) = true)
    (da20 : PySem.W.nsIn K mainGlobals "_law_determinant" = some (some (.ref F20)))
    (dl20 : K.lookup F20 = some ⟨doc20, dod20, .func (PySem.W.fnOf "_law_determinant" "_law_determinant" (defArgs st__law_determinant) (defBody st__law_determinant) (defScope st__law_determinant) .none dkv20 ddc20 dpm20 dan20 dcd20 dct20), dsl20⟩)
    (dc20 : PySem.W.codeIn K dcd20 "_law_determinant" = true)
    (dk20 : PySem.W.keepIn K (.ref F20) = true)
    (da21 : PySem.W.nsIn K mainGlobals "_law_divisor" = some (some (.ref F21)))
    (dl21 : K.lookup F21 = some ⟨doc21, dod21, .func (PySem.W.fnOf "_law_divisor" "_law_divisor" (defArgs st__law_divisor) (defBody st__law_divisor) (defScope st__law_divisor) .none dkv21 ddc21 dpm21 dan21 dcd21 dct21), dsl21⟩)
    (dc21 : PySem.W.codeIn K dcd21 "_law_divisor" = true)
    (dk21 : PySem.W.keepIn K (.ref F21) = true)
    (da22 : PySem.W.nsIn K mainGlobals "_law_plane" = some (some (.ref F22)))
    (dl22 : K.lookup F22 = some ⟨doc22, dod22, .func (PySem.W.fnOf "_law_plane" "_law_plane" (defArgs st__law_plane) (defBody st__law_plane) (defScope st__law_plane) .none dkv22 ddc22 dpm22 dan22 dcd22 dct22), dsl22⟩)
    (dc22 : PySem.W.codeIn K dcd22 "_law_plane" = true)
    (dk22 : PySem.W.keepIn K (.ref F22) = true)
    (da23 : PySem.W.nsIn K mainGlobals "_law_is_integer" = some (some (.ref F23)))
    (dl23 : K.lookup F23 = some ⟨doc23, dod23, .func (PySem.W.fnOf "_law_is_integer" "_law_is_integer" (defArgs st__law_is_integer) (defBody st__law_is_integer) (defScope st__law_is_integer) .none dkv23 ddc23 dpm23 dan23 dcd23 dct23), dsl23⟩)
    (dc23 : PySem.W.codeIn K dcd23 "_law_is_integer" = true)
    (dk23 : PySem.W.keepIn K (.ref F23) = true)
    (da24 : PySem.W.nsIn K mainGlobals "_law_are_points" = some (some (.ref F24)))
    (dl24 : K.lookup F24 = some ⟨doc24, dod24, .func (PySem.W.fnOf "_law_are_points" "_law_are_points" (defArgs st__law_are_points) (defBody st__law_are_points) (defScope st__law_are_points) .none dkv24 ddc24 dpm24 dan24 dcd24 dct24), dsl24⟩)
    (dc24 : PySem.W.codeIn K dcd24 "_law_are_points" = true)
    (dk24 : PySem.W.keepIn K (.ref F24) = true)
    (da25 : PySem.W.nsIn K mainGlobals "_law_bent" = some (some (.ref F25)))
    (dl25 : K.lookup F25 = some ⟨doc25, dod25, .func (PySem.W.fnOf "_law_bent" "_law_bent" (defArgs st__law_bent) (defBody st__law_bent) (defScope st__law_bent) .none dkv25 ddc25 dpm25 dan25 dcd25 dct25), dsl25⟩)
    (dc25 : PySem.W.codeIn K dcd25 "_law_bent" = true)
    (dk25 : PySem.W.keepIn K (.ref F25) = true)
    (da26 : PySem.W.nsIn K mainGlobals "_law_raised" = some (some (.ref F26)))
    (dl26 : K.lookup F26 = some ⟨doc26, dod26, .func (PySem.W.fnOf "_law_raised" "_law_raised" (defArgs st__law_raised) (defBody st__law_raised) (defScope st__law_raised) .none dkv26 ddc26 dpm26 dan26 dcd26 dct26), dsl26⟩)
    (dc26 : PySem.W.codeIn K dcd26 "_law_raised" = true)
    (dk26 : PySem.W.keepIn K (.ref F26) = true)
    (da27 : PySem.W.nsIn K mainGlobals "_law_right" = some (some (.ref F27)))
    (dl27 : K.lookup F27 = some ⟨doc27, dod27, .func (PySem.W.fnOf "_law_right" "_law_right" (defArgs st__law_right) (defBody st__law_right) (defScope st__law_right) .none dkv27 ddc27 dpm27 dan27 (.ref cc) dct27), dsl27⟩)
    (dc27 : PySem.W.codeIn K (.ref cc) "_law_right" = true)
    (dk27 : PySem.W.keepIn K (.ref F27) = true)
    (da28 : PySem.W.nsIn K mainGlobals "law" = some (some (.ref F28)))
    (dl28 : K.lookup F28 = some ⟨doc28, dod28, .func (PySem.W.fnOf "law" "law" (defArgs st_law) (defBody st_law) (defScope st_law) .none dkv28 ddc28 dpm28 dan28 dcd28 dct28), dsl28⟩)
    (dc28 : PySem.W.codeIn K dcd28 "law" = true)
    (dk28 : PySem.W.keepIn K (.ref F28) = true)
    {fa : Addr} (hmg : mg "law" = some (.ref fa)) (gr : Heap) (tb : LamX.TabB gr mg cc PT) : FnG P w K mg gr 11 fa (PySem.W.fnOf "law" "law" (defArgs st_law) (defBody st_law) (defScope st_law) .none dkv28 ddc28 dpm28 dan28 dcd28 dct28) ["script"] (spLaw K PT) := by
  have ox0 : OexC K C0 := ⟨⟨_, _, _, _, _, _, _, _, _, _, _, _, _, _, _, cl0, cv0⟩, cs0, ce0, cy0, ck0⟩
  have xf0 : XfC K C0 := ⟨cg0, ch0, ce0, cd_0⟩
  have ex0 : ExcC K C0 := ⟨cg0, ch0, ce0, cd_0, co0, gn, gt, cm0⟩
  have fi0 := fun_mk (st := si_BadPoint) cf0 cc0 cj0
  have ox1 : OexC K C1 := ⟨⟨_, _, _, _, _, _, _, _, _, _, _, _, _, _, _, cl1, cv1⟩, cs1, ce1, cy1, ck1⟩
  have xf1 : XfC K C1 := ⟨cg1, ch1, ce1, cd_1⟩
  have ex1 : ExcC K C1 := ⟨cg1, ch1, ce1, cd_1, co1, gn, gt, cm1⟩
  have fi1 := fun_mk (st := si_Misfit) cf1 cc1 cj1
  have T : Nm mg := ⟨nmg X G n_isinstance, nmg X G n_int, nmg X G n_bool, nmg X G n_list, nmg X G n_tuple, nmg X G n_len, nmg X G n_all, nmg X G n_abs, nmg X G n_repr, nmg X G n_range, nmg X G n_enumerate, nmg X G n_zip, nmg X G n_sum, PySem.W.mg_of X G m_gcd, ⟨_, PySem.W.mg_of X G c_MD⟩⟩
  have f0 := fun_mk (st := st_divisor_of) dl0 dc0 dk0
  have a0 := PySem.W.mg_of X G da0
  have f1 := fun_mk (st := st_reduced) dl1 dc1 dk1
  have a1 := PySem.W.mg_of X G da1
  have f2 := fun_mk (st := st_product_of) dl2 dc2 dk2
  have a2 := PySem.W.mg_of X G da2
  have f3 := fun_mk (st := st_unit_rows) dl3 dc3 dk3
  have a3 := PySem.W.mg_of X G da3
  have f4 := fun_mk (st := st_narrowed) dl4 dc4 dk4
  have a4 := PySem.W.mg_of X G da4
  have f5 := fun_mk (st := st_without) dl5 dc5 dk5
  have a5 := PySem.W.mg_of X G da5
  have f6 := fun_mk (st := st_lifted_point) dl6 dc6 dk6
  have a6 := PySem.W.mg_of X G da6
  have f7 := fun_mk (st := st_is_integer) dl7 dc7 dk7
  have a7 := PySem.W.mg_of X G da7
  have f8 := fun_mk (st := st_is_within) dl8 dc8 dk8
  have a8 := PySem.W.mg_of X G da8
  have f9 := fun_mk (st := st_is_list) dl9 dc9 dk9
  have a9 := PySem.W.mg_of X G da9
  have f10 := fun_mk (st := st_are_integers) dl10 dc10 dk10
  have a10 := PySem.W.mg_of X G da10
  have f11 := fun_mk (st := st_is_point) dl11 dc11 dk11
  have a11 := PySem.W.mg_of X G da11
  have f12 := fun_mk (st := st_are_points) dl12 dc12 dk12
  have a12 := PySem.W.mg_of X G da12
  have f13 := fun_mk (st := st_plane_through) dl13 dc13 dk13
  have a13 := PySem.W.mg_of X G da13
  have f14 := fun_mk (st := st_plane_of) dl14 dc14 dk14
  have a14 := PySem.W.mg_of X G da14
  have f15 := fun_mk (st := st__law_loom) dl15 dc15 dk15
  have a15 := PySem.W.mg_of X G da15
  have f16 := fun_mk (st := st__law_thread) dl16 dc16 dk16
  have a16 := PySem.W.mg_of X G da16
  have f17 := fun_mk (st := st__law_one_of) dl17 dc17 dk17
  have a17 := PySem.W.mg_of X G da17
  have f18 := fun_mk (st := st__law_number) dl18 dc18 dk18
  have a18 := PySem.W.mg_of X G da18
  have f19 := fun_mk (st := st__law_points) dl19 dc19 dk19
  have a19 := PySem.W.mg_of X G da19
  have f20 := fun_mk (st := st__law_determinant) dl20 dc20 dk20
  have a20 := PySem.W.mg_of X G da20
  have f21 := fun_mk (st := st__law_divisor) dl21 dc21 dk21
  have a21 := PySem.W.mg_of X G da21
  have f22 := fun_mk (st := st__law_plane) dl22 dc22 dk22
  have a22 := PySem.W.mg_of X G da22
  have f23 := fun_mk (st := st__law_is_integer) dl23 dc23 dk23
  have a23 := PySem.W.mg_of X G da23
  have f24 := fun_mk (st := st__law_are_points) dl24 dc24 dk24
  have a24 := PySem.W.mg_of X G da24
  have f25 := fun_mk (st := st__law_bent) dl25 dc25 dk25
  have a25 := PySem.W.mg_of X G da25
  have f26 := fun_mk (st := st__law_raised) dl26 dc26 dk26
  have a26 := PySem.W.mg_of X G da26
  have f27 : FunC K "_law_right" "_law_right" st__law_right F27 _ cc := ⟨_, _, _, _, _, _, _, _, rfl, dl27, dc27⟩
  have a27 := PySem.W.mg_of X G da27
  have f28 := fun_mk (st := st_law) dl28 dc28 dk28
  have a28 := PySem.W.mg_of X G da28
  have D_divisor_of := dn_of f0 (ok_divisor_of (P := P) (w := w) (base := gr) f0 T) a0 (fun _ _ _ _ _ _ us hl => match us, hl with | [_], _ => rfl)
  have D_reduced := dn_of f1 (ok_reduced f1 T D_divisor_of) a1 (fun _ _ _ _ _ _ us hl => match us, hl with | [_], _ => rfl)
  have D_product_of := dn_of f2 (ok_product_of (P := P) (w := w) (base := gr) f2 T) a2 (fun _ _ _ _ _ _ us hl => match us, hl with | [_, _], _ => rfl)
  have D_unit_rows := dn_of f3 (ok_unit_rows (P := P) (w := w) (base := gr) f3 T) a3 (fun _ _ _ _ _ _ us hl => match us, hl with | [_], _ => rfl)
  have D_without := dn_of f5 (ok_without f5 T D_reduced) a5 (fun _ _ _ _ _ _ us hl => match us, hl with | [_, _, _, _], _ => rfl)
  have D_narrowed := dn_of f4 (ok_narrowed f4 T D_product_of D_without) a4 (fun _ _ _ _ _ _ us hl => match us, hl with | [_, _], _ => rfl)
  have D_lifted_point := dn_of f6 (ok_lifted_point (P := P) (w := w) (mg := mg) (base := gr) f6) a6 (fun _ _ _ _ _ _ us hl => match us, hl with | [_], _ => rfl)
  have D_is_integer := dn_of f7 (ok_is_integer (P := P) (w := w) (base := gr) f7 T) a7 (fun _ _ _ _ _ _ us hl => match us, hl with | [_], _ => rfl)
  have D_is_within := dn_of f8 (ok_is_within f8 T D_is_integer) a8 (fun _ _ _ _ _ _ us hl => match us, hl with | [_, _, _], _ => rfl)
  have D_is_list := dn_of f9 (ok_is_list f9 T D_is_within) a9 (fun _ _ _ _ _ _ us hl => match us, hl with | [_, _, _], _ => rfl)
  have D_are_integers := dn_of f10 (ok_are_integers f10 T D_is_integer D_is_list) a10 (fun _ _ _ _ _ _ us hl => match us, hl with | [_], _ => rfl)
  have D_is_point := dn_of f11 (ok_is_point f11 D_are_integers D_is_list) a11 (fun _ _ _ _ _ _ us hl => match us, hl with | [_, _], _ => rfl)
  have D_are_points := dn_of f12 (ok_are_points f12 T D_is_list D_is_point) a12 (fun _ _ _ _ _ _ us hl => match us, hl with | [_, _, _], _ => rfl)
  have R0 : RaiseC P w K mg gr "BadPoint" C0 "part" := ⟨I0, _, _, ci0, ct0, oki_BadPoint fi0 ox0 cn0part, fi0.binds (ps := ["self", "part"]) (fun _ _ _ _ _ _ us hl => match us, hl with | [_, _], _ => rfl), ox0, PySem.W.mg_of X G ca0⟩
  have R1 : RaiseC P w K mg gr "Misfit" C1 "part" := ⟨I1, _, _, ci1, ct1, oki_Misfit fi1 ox1 cn1part, fi1.binds (ps := ["self", "part"]) (fun _ _ _ _ _ _ us hl => match us, hl with | [_, _], _ => rfl), ox1, PySem.W.mg_of X G ca1⟩
  have D_plane_of := dn_of f14 (ok_plane_of (P := P) (w := w) (base := gr) f14 T) a14 (fun _ _ _ _ _ _ us hl => match us, hl with | [_], _ => rfl)
  have op := ok_plane_through f13 T D_is_list D_are_points D_unit_rows D_narrowed D_lifted_point D_plane_of R0 R1
  have X_plane_through := dx_of f13 op a13 (fun _ _ _ _ _ _ us hl => match us, hl with | [_], _ => rfl)
  have K_plane_through : DnKX P w K mg gr 7 "plane_through" F13 ["points"] ["points"] kw1 (spPlane K C0 C1) := ⟨⟨_, _, op, kb_same (ps := ["points"]) f13 (fun _ _ _ _ _ _ ws hl => match ws, hl with | [_], _ => rfl)⟩, a13, dk13⟩
  have D__law_loom := dn_of f15 (ok_coil (P := P) (w := w) (base := gr) f15 T) a15 (fun _ _ _ _ _ _ us hl => match us, hl with | [_], _ => rfl)
  have D__law_thread := dn_of f16 (ok_turn (P := P) (w := w) (base := gr) f16 T) a16 (fun _ _ _ _ _ _ us hl => match us, hl with | [_, _], _ => rfl)
  have D__law_one_of := dn_of f17 (ok_one_of f17 T D__law_thread) a17 (fun _ _ _ _ _ _ us hl => match us, hl with | [_, _], _ => rfl)
  have D__law_number := dn_of f18 (ok_number f18 D__law_thread) a18 (fun _ _ _ _ _ _ us hl => match us, hl with | [_, _], _ => rfl)
  have D__law_points := dn_of f19 (ok_points f19 T D__law_thread D__law_one_of D__law_number) a19 (fun _ _ _ _ _ _ us hl => match us, hl with | [_, _], _ => rfl)
  have D__law_determinant := dn_of f20 (ok_det (P := P) (w := w) (base := gr) f20 T a20 (f20.binds (ps := ["rows"]) (fun _ _ _ _ _ _ us hl => match us, hl with | [_], _ => rfl)) 8) a20 (fun _ _ _ _ _ _ us hl => match us, hl with | [_], _ => rfl)
  have D__law_divisor := dn_of f21 (ok_divisor (P := P) (w := w) (base := gr) f21 T) a21 (fun _ _ _ _ _ _ us hl => match us, hl with | [_], _ => rfl)
  have D__law_plane := dn_of f22 (ok_plane f22 T D__law_determinant D__law_divisor) a22 (fun _ _ _ _ _ _ us hl => match us, hl with | [_], _ => rfl)
  have D__law_is_integer := dn_of f23 (ok_lis_integer (P := P) (w := w) (base := gr) f23 T) a23 (fun _ _ _ _ _ _ us hl => match us, hl with | [_], _ => rfl)
  have D__law_are_points := dn_of f24 (ok_lare_points f24 T D__law_is_integer) a24 (fun _ _ _ _ _ _ us hl => match us, hl with | [_], _ => rfl)
  have D__law_bent := dn_of f25 (ok_bent f25 T D__law_thread D__law_one_of) a25 (fun _ _ _ _ _ _ us hl => match us, hl with | [_, _], _ => rfl)
  have BR := (fun_mk (st := st__law_right) dl27 dc27 dk27).binds (ps := ["value"]) (fun _ _ _ _ _ _ us hl => match us, hl with | [_], _ => rfl)
  have GR := dg_of (x := "_law_right") (st := st__law_right) BR dk27 (ok_right (PT := PT) f27 T D__law_are_points D__law_plane X_plane_through K_plane_through f26 (f26.binds (ps := ["ask"]) (fun _ _ _ _ _ _ us hl => match us, hl with | [_], _ => rfl)) a26 dk26 tb (PySem.W.mg_of X G ca2) (PySem.W.mg_of X G ca0) (PySem.W.mg_of X G ca1) (exm_yes ce2 ks0 iC2 cy2) (exm_yes ce2 ks1 iC2 cy2) kit_self (kit_no k1_0 k0_0 iC0 cy0) kit_self ex0 xf0 cn0part ex1 xf1 cn1part) a27
  have efa := hmg.symm.trans a28
  cases efa
  exact ok_law f28 T D__law_loom D__law_thread D__law_points D__law_bent GR
end K0


set_option Elab.async false
set_option linter.all false
set_option maxRecDepth 100000
set_option maxHeartbeats 4000000
namespace K0
open PySem PySem.Spec PyProof.Rows L2
theorem walk_G {l : PySem.W.OpenLaw} {n k : Nat} {q : Program} {loose : List Str} {XP : (Str → Option Value) → Heap → Prop} {YP : World → Heap → Prop} {d : DefRec}
    {K : Params → PySem.W.Frag} {x : Str}
    (hn : l.most = some n) (hn2 : n ≤ sizeLine) (hdf : d.params.defaults = []) (room : Room k callerA)
    (kin : ∀ (w : World) (h : Heap), YP w h → (K w.params).In h)
    (F : ∀ (w : World) (mg : Str → Option Value) (fa : Addr) (h : Heap),
      YP w h → (K w.params).In h → h.Ns mainGlobals mg → mg d.name = some (.ref fa) →
      ∃ (fd : FuncData) (cc PT : Addr) (sp : Sp), h.get? PT = some { cls := .none, data := .fields #[] } ∧
        (K w.params).lookup PT = none ∧ PySem.W.CodeHd h cc PT ∧
        (∀ (s : Shared) (v : Value), BindsTo s fd ⟨[v], []⟩ [(x, v)]) ∧
        (∀ (Hx : Hp) (a : Addr) (ns : List Int), ns.length ≤ n → Hx PT = some (.tbl #[]) →
          SqL (K w.params) Hx a (ns.map V.int) → sp [.ref a] Hx (fun v _ => v = .bl true) fun _ _ _ => False) ∧
        ∀ gr : Heap, (K w.params).In gr → gr.Ns mainGlobals mg → LamX.TabB gr mg cc PT →
          FnG l.prog w (K w.params) mg gr k fa fd [x] sp) :
    PySem.W.WalkO q loose XP YP l.row.toRowW d []
      (fun f vs => PySem.call f vs) := by
  refine Att.attach_call hn hdf fun w sB sT mg mb fa o pm cd doc a vs ns Gd Y _ _ _ hmg la li ll gens => ?_
  obtain ⟨fd, cc, PT, sp, tab, tabK, code, bind, ask, Fg⟩ := F w mg fa _ Y (kin w _ Y) Gd.T.g hmg
  exact top_call (kin w _ Y) Gd.T.g Gd.T.b Gd.T.builtins Gd.T.nolimit gens tab tabK code Gd.T.bmain la li
    (Nat.le_trans ll hn2) room Fg bind fun Hx h1 h2 => ask Hx a ns ll h1 h2
/-- what the law asks of the top -/
theorem ask_law {K : PySem.W.Frag} {PT : Addr} (Hx : Hp) (a : Addr) (ns : List Int) (hl : ns.length ≤ 63) (hT : Hx PT = some (.tbl #[])) (hS : SqL K Hx a (ns.map V.int)) :
    spLaw K PT [.ref a] Hx (fun v _ => v = .bl true) fun _ _ _ => False :=
  ⟨a, ns, rfl, hS, hl, fun p hp => by cases List.mem_singleton.mp hp; exact LamX.TabS.nil hT, fun _ => rfl⟩
theorem fin_of {P : Program} {w : World} {K : PySem.W.Frag} {mg : Str → Option Value} {h : Heap} {fa cc PT : Addr} {kv dc pm cd ct : Value} {an : Option Addr} (KX : K.In h)
    (z : ∀ gr : Heap, LamX.TabB gr mg cc PT → FnG P w K mg gr 11 fa (PySem.W.fnOf "law" "law" (defArgs st_law) (defBody st_law) (defScope st_law) .none kv dc pm an cd ct) ["script"] (spLaw K PT))
    (tab : h.get? PT = some { cls := .none, data := .fields #[] }) (tk : K.lookup PT = none) (ch : PySem.W.codeHdIn K cc PT = true) :
    ∃ (fd : FuncData) (cc PT : Addr) (sp : Sp), h.get? PT = some { cls := .none, data := .fields #[] } ∧
        K.lookup PT = none ∧ PySem.W.CodeHd h cc PT ∧
        (∀ (s : Shared) (v : Value), BindsTo s fd ⟨[v], []⟩ [(("script" : Str), v)]) ∧
        (∀ (Hx : Hp) (a : Addr) (ns : List Int), ns.length ≤ 63 → Hx PT = some (.tbl #[]) →
          SqL K Hx a (ns.map V.int) → sp [.ref a] Hx (fun v _ => v = .bl true) fun _ _ _ => False) ∧
        ∀ gr : Heap, K.In gr → gr.Ns mainGlobals mg → LamX.TabB gr mg cc PT → FnG P w K mg gr 11 fa fd ["script"] sp :=
  ⟨_, cc, PT, spLaw K PT, tab, tk, PySem.W.codeHd_of_K KX ch, fun s v => .of_eq rfl, fun Hx a ns h1 h2 h3 => ask_law Hx a ns h1 h2 h3, fun gr _ _ tb => z gr tb⟩
end K0


set_option Elab.async false
open PySem PySem.W PyProof.Rows
set_option maxRecDepth 100000 in
set_option maxHeartbeats 0 in
theorem PySem.Challenge.cw_spindleway_k04_planes_through_points_holds : PySem.Challenge.rw_spindleway_k04_planes_through_points.Holds := by
  w_on; o_law; k_head; (case hw => w_witness2)
  k_fill
  refine K0.walk_G (l := PySem.Challenge.rw_spindleway_k04_planes_through_points) (n := 63) (k := 11) (x := "script") rfl (by decide) rfl ⟨rfl, by decide, by decide⟩ (fun w h Y => PySem.W.km_in_of Y) ?F
  case F =>
    intro w mg fa h Y KX G hmg
    refine' K0.fin_of (PT := 256) KX (K0.all_mk KX G ?ca0 ?cl0 ?cv0 ?cs0 ?ci0 ?ct0 ?cf0 ?cc0 ?cj0 ?cn0part ?cg0 ?ch0 ?ce0 ?cy0 ?ck0 ?cd_0 ?co0 ?cm0 ?iC0 ?ca1 ?cl1 ?cv1 ?cs1 ?ci1 ?ct1 ?cf1 ?cc1 ?cj1 ?cn1part ?cg1 ?ch1 ?ce1 ?cy1 ?ck1 ?cd_1 ?co1 ?cm1 ?iC1 ?ca2 ?ce2 ?cy2 ?iC2 ?gn ?gt ?k0_0 ?k1_0 ?ks0 ?ks1 ?n_isinstance ?n_int ?n_bool ?n_list ?n_tuple ?n_len ?n_all ?n_abs ?n_repr ?n_range ?n_enumerate ?n_zip ?n_sum ?m_gcd ?c_MD ?da0 ?dl0 ?dc0 ?dk0 ?da1 ?dl1 ?dc1 ?dk1 ?da2 ?dl2 ?dc2 ?dk2 ?da3 ?dl3 ?dc3 ?dk3 ?da4 ?dl4 ?dc4 ?dk4 ?da5 ?dl5 ?dc5 ?dk5 ?da6 ?dl6 ?dc6 ?dk6 ?da7 ?dl7 ?dc7 ?dk7 ?da8 ?dl8 ?dc8 ?dk8 ?da9 ?dl9 ?dc9 ?dk9 ?da10 ?dl10 ?dc10 ?dk10 ?da11 ?dl11 ?dc11 ?dk11 ?da12 ?dl12 ?dc12 ?dk12 ?da13 ?dl13 ?dc13 ?dk13 ?da14 ?dl14 ?dc14 ?dk14 ?da15 ?dl15 ?dc15 ?dk15 ?da16 ?dl16 ?dc16 ?dk16 ?da17 ?dl17 ?dc17 ?dk17 ?da18 ?dl18 ?dc18 ?dk18 ?da19 ?dl19 ?dc19 ?dk19 ?da20 ?dl20 ?dc20 ?dk20 ?da21 ?dl21 ?dc21 ?dk21 ?da22 ?dl22 ?dc22 ?dk22 ?da23 ?dl23 ?dc23 ?dk23 ?da24 ?dl24 ?dc24 ?dk24 ?da25 ?dl25 ?dc25 ?dk25 ?da26 ?dl26 ?dc26 ?dk26 ?da27 ?dl27 ?dc27 ?dk27 ?da28 ?dl28 ?dc28 ?dk28 hmg) ?tab ?tk ?ch
    (case ca0 => k_is)
    (case cl0 => k_is)
    (case cv0 => first | rfl | k_is)
    (case cs0 => k_is)
    (case ci0 => k_is)
    (case ct0 => k_is)
    (case cf0 => k_is)
    (case cc0 => k_is)
    (case cj0 => k_is)
    (case cn0part => k_is)
    (case cg0 => k_is)
    (case ch0 => k_is)
    (case ce0 => k_is)
    (case cy0 => k_is)
    (case ck0 => k_is)
    (case cd_0 => k_is)
    (case co0 => k_is)
    (case cm0 => k_is)
    (case iC0 => k_is)
    (case ca1 => k_is)
    (case cl1 => k_is)
    (case cv1 => first | rfl | k_is)
    (case cs1 => k_is)
    (case ci1 => k_is)
    (case ct1 => k_is)
    (case cf1 => k_is)
    (case cc1 => k_is)
    (case cj1 => k_is)
    (case cn1part => k_is)
    (case cg1 => k_is)
    (case ch1 => k_is)
    (case ce1 => k_is)
    (case cy1 => k_is)
    (case ck1 => k_is)
    (case cd_1 => k_is)
    (case co1 => k_is)
    (case cm1 => k_is)
    (case iC1 => k_is)
    (case ca2 => k_is)
    (case ce2 => k_is)
    (case cy2 => k_is)
    (case iC2 => k_is)
    (case gn => k_is)
    (case gt => k_is)
    (case k0_0 => k_is)
    (case k1_0 => k_is)
    (case ks0 => k_is)
    (case ks1 => k_is)
    (case n_isinstance => k_is)
    (case n_int => k_is)
    (case n_bool => k_is)
    (case n_list => k_is)
    (case n_tuple => k_is)
    (case n_len => k_is)
    (case n_all => k_is)
    (case n_abs => k_is)
    (case n_repr => k_is)
    (case n_range => k_is)
    (case n_enumerate => k_is)
    (case n_zip => k_is)
    (case n_sum => k_is)
    (case m_gcd => k_is)
    (case c_MD => k_is)
    (case da0 => k_is)
    (case dl0 => k_is)
    (case dc0 => k_is)
    (case dk0 => k_is)
    (case da1 => k_is)
    (case dl1 => k_is)
    (case dc1 => k_is)
    (case dk1 => k_is)
    (case da2 => k_is)
    (case dl2 => k_is)
    (case dc2 => k_is)
    (case dk2 => k_is)
    (case da3 => k_is)
    (case dl3 => k_is)
    (case dc3 => k_is)
    (case dk3 => k_is)
    (case da4 => k_is)
    (case dl4 => k_is)
    (case dc4 => k_is)
    (case dk4 => k_is)
    (case da5 => k_is)
    (case dl5 => k_is)
    (case dc5 => k_is)
    (case dk5 => k_is)
    (case da6 => k_is)
    (case dl6 => k_is)
    (case dc6 => k_is)
    (case dk6 => k_is)
    (case da7 => k_is)
    (case dl7 => k_is)
    (case dc7 => k_is)
    (case dk7 => k_is)
    (case da8 => k_is)
    (case dl8 => k_is)
    (case dc8 => k_is)
    (case dk8 => k_is)
    (case da9 => k_is)
    (case dl9 => k_is)
    (case dc9 => k_is)
    (case dk9 => k_is)
    (case da10 => k_is)
    (case dl10 => k_is)
    (case dc10 => k_is)
    (case dk10 => k_is)
    (case da11 => k_is)
    (case dl11 => k_is)
    (case dc11 => k_is)
    (case dk11 => k_is)
    (case da12 => k_is)
    (case dl12 => k_is)
    (case dc12 => k_is)
    (case dk12 => k_is)
    (case da13 => k_is)
    (case dl13 => k_is)
    (case dc13 => k_is)
    (case dk13 => k_is)
    (case da14 => k_is)
    (case dl14 => k_is)
    (case dc14 => k_is)
    (case dk14 => k_is)
    (case da15 => k_is)
    (case dl15 => k_is)
    (case dc15 => k_is)
    (case dk15 => k_is)
    (case da16 => k_is)
    (case dl16 => k_is)
    (case dc16 => k_is)
    (case dk16 => k_is)
    (case da17 => k_is)
    (case dl17 => k_is)
    (case dc17 => k_is)
    (case dk17 => k_is)
    (case da18 => k_is)
    (case dl18 => k_is)
    (case dc18 => k_is)
    (case dk18 => k_is)
    (case da19 => k_is)
    (case dl19 => k_is)
    (case dc19 => k_is)
    (case dk19 => k_is)
    (case da20 => k_is)
    (case dl20 => k_is)
    (case dc20 => k_is)
    (case dk20 => k_is)
    (case da21 => k_is)
    (case dl21 => k_is)
    (case dc21 => k_is)
    (case dk21 => k_is)
    (case da22 => k_is)
    (case dl22 => k_is)
    (case dc22 => k_is)
    (case dk22 => k_is)
    (case da23 => k_is)
    (case dl23 => k_is)
    (case dc23 => k_is)
    (case dk23 => k_is)
    (case da24 => k_is)
    (case dl24 => k_is)
    (case dc24 => k_is)
    (case dk24 => k_is)
    (case da25 => k_is)
    (case dl25 => k_is)
    (case dc25 => k_is)
    (case dk25 => k_is)
    (case da26 => k_is)
    (case dl26 => k_is)
    (case dc26 => k_is)
    (case dk26 => k_is)
    (case da27 => k_is)
    (case dl27 => k_is)
    (case dc27 => k_is)
    (case dk27 => k_is)
    (case da28 => k_is)
    (case dl28 => k_is)
    (case dc28 => k_is)
    (case dk28 => k_is)
    (case tab => exact PySem.W.km_tabs_of Y 256 (by simp))
    (case tk => first | rfl | k_is)
    (case ch => first | rfl | k_is)
    exact Value.none

