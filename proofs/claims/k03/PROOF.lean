import PyProof.Rows.All
import Wide.All
import OpenK.AllK
import Wide.FinOn
import HandS.ForMost
import HandS.ForExc
import HandS.ExcInit
import HandS.ExcValue
import HandS.IsInst
import HandS.Wide
import HandS.Gcd
import HandS.Lambda
import HandS.ExcIs
import HandS.ExcField
import HandS.Defaults
import HandS.Style
import HandS.TupAny
import HandS.RevRange
import PySem.Challenge.RW_spindleway_k03_ranks_and_spans
import PyProof.ZipIter
import HandS.Zip
import HandS.Walk
import HandS.Star
import PyProof.NeKinds
import HandS.LawCells
import HandS.TupMul
import PyProof.StrLawsRepr
import PyProof.ReprLen
import HandS.EndTab
import HandS.Ends
set_option linter.all false
namespace K3
abbrev Vec := List Int
/-- the sum of the products, as far as both go -/
def dot : Vec → Vec → Int
  | a :: as, b :: bs => a * b + dot as bs
  | _, _ => 0
theorem dot_nil_l (b : Vec) : dot [] b = 0 := by cases b <;> rfl
theorem dot_nil_r (a : Vec) : dot a [] = 0 := by cases a <;> rfl
theorem dot_comm : ∀ (a b : Vec), dot a b = dot b a
  | [], b => by rw [dot_nil_l, dot_nil_r]
  | a :: as, [] => rfl
  | a :: as, b :: bs => by simp only [dot, dot_comm as bs, Int.mul_comm]
/-- p times a less q times b -/
def lin (p q : Int) (a b : Vec) : Vec := List.zipWith (fun x y => x * p - y * q) a b
theorem lin_len {p q : Int} {a b : Vec} {w : Nat} (ha : a.length = w) (hb : b.length = w) : (lin p q a b).length = w := by simp [lin, ha, hb]
theorem dot_lin (p q : Int) : ∀ (a b r : Vec), a.length = b.length → dot (lin p q a b) r = p * dot a r - q * dot b r
  | [], [], r, _ => by simp [lin, dot_nil_l]
  | a :: as, b :: bs, [], _ => by simp [lin, dot_nil_r]
  | a :: as, b :: bs, r :: rs, h => by
    have ih := dot_lin p q as bs rs (by simpa using h)
    simp only [lin] at ih
    simp only [lin, List.zipWith_cons_cons, dot, ih]
    grind
theorem lin_get (p q : Int) : ∀ (a b : Vec), a.length = b.length → ∀ i, (lin p q a b).getD i 0 = a.getD i 0 * p - b.getD i 0 * q
  | [], [], _, i => by simp [lin]
  | a :: as, b :: bs, h, 0 => by simp [lin]
  | a :: as, b :: bs, h, i + 1 => by
    have ih := lin_get p q as bs (by simpa using h) i
    simp only [lin] at ih
    simpa [lin] using ih
/-- all noughts -/
def Zr (x : Vec) : Prop := ∀ i, x.getD i 0 = 0
theorem zr_cons {a : Int} {as : Vec} (h : Zr (a :: as)) : a = 0 ∧ Zr as := ⟨by simpa using h 0, fun i => by simpa using h (i + 1)⟩
theorem dot_zr : ∀ {x : Vec} (_ : Zr x) (r : Vec), dot x r = 0
  | [], _, r => dot_nil_l r
  | a :: as, _, [] => rfl
  | a :: as, h, r :: rs => by
    obtain ⟨h1, h2⟩ := zr_cons h
    simp [dot, h1, dot_zr h2 rs]
/-- a sum of multiples -/
def comb (w : Nat) : Vec → List Vec → Vec
  | a :: as, h :: hs => List.zipWith (fun x y => a * x + y) h (comb w as hs)
  | _, _ => List.replicate w 0
theorem comb_len (w : Nat) : ∀ (as : Vec) (hs : List Vec), (∀ h ∈ hs, h.length = w) → (comb w as hs).length = w
  | [], hs, _ => by cases hs <;> simp [comb]
  | a :: as, [], _ => by simp [comb]
  | a :: as, h :: hs, H => by
    have := comb_len w as hs (fun h' m => H h' (List.mem_cons_of_mem _ m))
    simp [comb, this, H h List.mem_cons_self]
theorem dot_axpy (a : Int) : ∀ (x y r : Vec), x.length = y.length → dot (List.zipWith (fun u v => a * u + v) x y) r = a * dot x r + dot y r
  | [], [], r, _ => by simp [dot_nil_l]
  | x :: xs, y :: ys, [], _ => by simp [dot_nil_r]
  | x :: xs, y :: ys, r :: rs, h => by
    have ih := dot_axpy a xs ys rs (by simpa using h)
    simp only [List.zipWith_cons_cons, dot, ih]
    grind
theorem get_axpy (a : Int) : ∀ (x y : Vec), x.length = y.length → ∀ i, (List.zipWith (fun u v => a * u + v) x y).getD i 0 = a * x.getD i 0 + y.getD i 0
  | [], [], _, i => by simp
  | x :: xs, y :: ys, h, 0 => by simp
  | x :: xs, y :: ys, h, i + 1 => by simpa using get_axpy a xs ys (by simpa using h) i
theorem dot_comb (w : Nat) (r : Vec) : ∀ (as : Vec) (hs : List Vec), (∀ h ∈ hs, h.length = w) → dot (comb w as hs) r = dot as (hs.map fun h => dot h r)
  | [], hs, _ => by
    cases hs <;> simp only [comb, dot_nil_l] <;> exact dot_zr (fun i => by simp [List.getD_eq_getElem?_getD, List.getElem?_replicate]; split <;> rfl) r
  | a :: as, [], _ => by
    simp only [comb, List.map_nil, dot_nil_r]
    exact dot_zr (fun i => by simp [List.getD_eq_getElem?_getD, List.getElem?_replicate]; split <;> rfl) r
  | a :: as, h :: hs, H => by
    have hl : ∀ h' ∈ hs, h'.length = w := fun h' m => H h' (List.mem_cons_of_mem _ m)
    have ih := dot_comb w r as hs hl
    simp only [comb, List.map_cons, dot]
    rw [dot_axpy a h _ r (by rw [comb_len w as hs hl, H h List.mem_cons_self]), ih]
theorem get_comb (w : Nat) (i : Nat) : ∀ (as : Vec) (hs : List Vec), (∀ h ∈ hs, h.length = w) → (comb w as hs).getD i 0 = dot as (hs.map fun h => h.getD i 0)
  | [], hs, _ => by cases hs <;> simp [comb, dot, List.getD_eq_getElem?_getD, List.getElem?_replicate] <;> split <;> rfl
  | a :: as, [], _ => by simp [comb, dot, List.getD_eq_getElem?_getD, List.getElem?_replicate]; split <;> rfl
  | a :: as, h :: hs, H => by
    have hl : ∀ h' ∈ hs, h'.length = w := fun h' m => H h' (List.mem_cons_of_mem _ m)
    have ih := get_comb w i as hs hl
    simp only [comb, List.map_cons, dot]
    rw [get_axpy a h _ (by rw [comb_len w as hs hl, H h List.mem_cons_self]), ih]

/-! ### more unknowns than equations: a small solution -/
theorem pigeon : ∀ (N : Nat) (f : Nat → Nat), (∀ i, i ≤ N → f i < N) → ∃ i j, i < j ∧ j ≤ N ∧ f i = f j
  | 0, f, h => absurd (h 0 (Nat.le_refl 0)) (Nat.not_lt_zero _)
  | N + 1, f, h => by
    -- all that have the value of N + 1 are led to N, what is N is led there
    by_cases c : ∃ i, i ≤ N ∧ f i = f (N + 1)
    · obtain ⟨i, hi, e⟩ := c
      exact ⟨i, N + 1, by omega, Nat.le_refl _, e⟩
    · have c' : ∀ i, i ≤ N → f i ≠ f (N + 1) := fun i hi e => c ⟨i, hi, e⟩
      have hN := h (N + 1) (Nat.le_refl _)
      let g : Nat → Nat := fun i => if f i = N then f (N + 1) else f i
      have hg : ∀ i, i ≤ N → g i < N := by
        intro i hi
        have h1 := h i (by omega)
        have h2 := c' i hi
        show (if f i = N then f (N + 1) else f i) < N
        split <;> omega
      obtain ⟨i, j, h1, h2, h3⟩ := pigeon N g hg
      refine ⟨i, j, h1, by omega, ?_⟩
      have a1 := c' i (by omega)
      have a2 := c' j (by omega)
      have e : (if f i = N then f (N + 1) else f i) = (if f j = N then f (N + 1) else f j) := h3
      split at e <;> split at e <;> omega
/-- w digits to a base -/
def dig (q : Nat) : Nat → Nat → Vec
  | 0, _ => []
  | w + 1, i => ((i % q : Nat) : Int) :: dig q w (i / q)
theorem dig_len (q : Nat) : ∀ w i, (dig q w i).length = w
  | 0, _ => rfl
  | w + 1, i => by simp [dig, dig_len q w]
theorem dig_inj (q : Nat) : ∀ (w i j : Nat), i < q ^ w → j < q ^ w → dig q w i = dig q w j → i = j
  | 0, i, j, hi, hj, _ => by simp at hi hj; omega
  | w + 1, i, j, hi, hj, h => by
    simp only [dig, List.cons.injEq] at h
    obtain ⟨h1, h2⟩ := h
    have h1' : i % q = j % q := by exact_mod_cast h1
    have hq : 0 < q := by
      rcases Nat.eq_zero_or_pos q with e | e
      · rw [e, Nat.pow_succ, Nat.mul_zero] at hi; omega
      · exact e
    have d1 : i / q < q ^ w := Nat.div_lt_of_lt_mul (by rw [Nat.mul_comm, ← Nat.pow_succ]; exact hi)
    have d2 : j / q < q ^ w := Nat.div_lt_of_lt_mul (by rw [Nat.mul_comm, ← Nat.pow_succ]; exact hj)
    have h3 := dig_inj q w _ _ d1 d2 h2
    rw [← Nat.div_add_mod i q, ← Nat.div_add_mod j q, h1', h3]
theorem dig_rng (q : Nat) (hq : 0 < q) : ∀ (w i k : Nat), 0 ≤ (dig q w i).getD k 0 ∧ (dig q w i).getD k 0 < q
  | 0, i, k => by simp [dig]; omega
  | w + 1, i, 0 => by
    have := Nat.mod_lt i hq
    simp [dig]
    omega
  | w + 1, i, k + 1 => by simpa [dig] using dig_rng q hq w (i / q) k
/-- a list of ints from -c to c as one number -/
def enc (c : Nat) : Vec → Nat
  | [] => 0
  | a :: as => (a + c).toNat + (2 * c + 1) * enc c as
theorem enc_lt (c : Nat) : ∀ (l : Vec), (∀ a ∈ l, a.natAbs ≤ c) → enc c l < (2 * c + 1) ^ l.length
  | [], _ => by simp [enc]
  | a :: as, h => by
    have h1 := h a List.mem_cons_self
    have ih := enc_lt c as fun b hb => h b (List.mem_cons_of_mem _ hb)
    have h2 : (a + c).toNat < 2 * c + 1 := by omega
    simp only [enc, List.length_cons, Nat.pow_succ]
    have h3 : (2 * c + 1) * (enc c as + 1) ≤ (2 * c + 1) * (2 * c + 1) ^ as.length := Nat.mul_le_mul_left _ ih
    rw [Nat.mul_comm ((2 * c + 1) ^ as.length)]
    rw [Nat.mul_add] at h3
    omega
theorem enc_inj (c : Nat) : ∀ (l m : Vec), l.length = m.length → (∀ a ∈ l, a.natAbs ≤ c) → (∀ a ∈ m, a.natAbs ≤ c) → enc c l = enc c m → l = m
  | [], [], _, _, _, _ => rfl
  | a :: as, b :: bs, hl, h1, h2, e => by
    have a1 := h1 a List.mem_cons_self
    have b1 := h2 b List.mem_cons_self
    simp only [enc] at e
    have x1 : (a + c).toNat < 2 * c + 1 := by omega
    have x2 : (b + c).toNat < 2 * c + 1 := by omega
    have e1 := congrArg (· % (2 * c + 1)) e
    simp only [Nat.add_mul_mod_self_left, Nat.mod_eq_of_lt x1, Nat.mod_eq_of_lt x2] at e1
    have e2 := congrArg (· / (2 * c + 1)) e
    simp only [Nat.add_mul_div_left _ _ (show 0 < 2 * c + 1 by omega), Nat.div_eq_of_lt x1, Nat.div_eq_of_lt x2, Nat.zero_add] at e2
    have ih := enc_inj c as bs (by simpa using hl) (fun b hb => h1 b (List.mem_cons_of_mem _ hb)) (fun b hb => h2 b (List.mem_cons_of_mem _ hb)) e2
    have : a = b := by omega
    rw [this, ih]
theorem dot_bound (R q : Nat) : ∀ (x r : Vec), (∀ i, (x.getD i 0).natAbs ≤ q) → (∀ b ∈ r, b.natAbs ≤ R) → (dot x r).natAbs ≤ x.length * (q * R)
  | [], r, _, _ => by simp [dot_nil_l]
  | x :: xs, [], _, _ => by simp [dot_nil_r]
  | x :: xs, r :: rs, h1, h2 => by
    have ih := dot_bound R q xs rs (fun i => by simpa using h1 (i + 1)) fun b hb => h2 b (List.mem_cons_of_mem _ hb)
    have a1 : x.natAbs ≤ q := by simpa using h1 0
    have a2 := h2 r List.mem_cons_self
    have a3 : (x * r).natAbs ≤ q * R := by rw [Int.natAbs_mul]; exact Nat.mul_le_mul a1 a2
    simp only [dot, List.length_cons, Nat.succ_mul]
    have := Int.natAbs_add_le (x * r) (dot xs rs)
    omega
theorem siegel (w R : Nat) (P : List Vec) (hP : P.length < w) (hR : 0 < R) (hb : ∀ r ∈ P, ∀ b ∈ r, b.natAbs ≤ R) :
    ∃ y : Vec, y.length = w ∧ ¬ Zr y ∧ (∀ r ∈ P, dot y r = 0) ∧ ∀ i, (y.getD i 0).natAbs ≤ (4 * (w * R)) ^ P.length := by
  obtain ⟨n, hn⟩ : ∃ n, n = P.length := ⟨_, rfl⟩
  obtain ⟨B, hB⟩ : ∃ B, B = (4 * (w * R)) ^ n := ⟨_, rfl⟩
  obtain ⟨q, hq⟩ : ∃ q, q = B + 1 := ⟨_, rfl⟩
  have hw : 0 < w := by omega
  have hwR : 0 < w * R := Nat.mul_pos hw hR
  -- the box of values
  obtain ⟨c, hc⟩ : ∃ c, c = w * (B * R) := ⟨_, rfl⟩
  have hBp : 0 < B := by rw [hB]; exact Nat.pow_pos (by omega)
  let F : Nat → Nat := fun i => enc c (P.map fun r => dot (dig q w i) r)
  have inb : ∀ i, ∀ a ∈ P.map (fun r => dot (dig q w i) r), a.natAbs ≤ c := by
    intro i a ha
    obtain ⟨r, hr, rfl⟩ := List.mem_map.mp ha
    have := dot_bound R B (dig q w i) r (fun k => by
      have := dig_rng q (by omega) w i k
      omega) (hb r hr)
    rw [dig_len] at this
    rw [hc]
    exact this
  have hF : ∀ i, F i < (2 * c + 1) ^ n := by
    intro i
    have := enc_lt c _ (inb i)
    rw [List.length_map, ← hn] at this
    exact this
  have big : (2 * c + 1) ^ n < q ^ w := by
    have h1 : 2 * c + 1 ≤ 4 * (w * R) * B := by
      have e : w * (B * R) = w * R * B := by rw [Nat.mul_assoc, Nat.mul_comm B R]
      have : 0 < w * R * B := Nat.mul_pos hwR hBp
      rw [hc, e, Nat.mul_assoc 4 (w * R) B]
      generalize w * R * B = z at this ⊢
      omega
    calc (2 * c + 1) ^ n ≤ (4 * (w * R) * B) ^ n := Nat.pow_le_pow_left h1 n
      _ = B * B ^ n := by rw [Nat.mul_pow, ← hB]
      _ = B ^ (n + 1) := by rw [Nat.pow_succ, Nat.mul_comm]
      _ < q ^ (n + 1) := Nat.pow_lt_pow_left (by omega) (by omega)
      _ ≤ q ^ w := Nat.pow_le_pow_right (by omega) (by omega)
  obtain ⟨i, j, h1, h2, h3⟩ := pigeon ((2 * c + 1) ^ n) F fun i _ => hF i
  have hi : i < q ^ w := by omega
  have hj : j < q ^ w := by omega
  have same := enc_inj c _ _ (by simp) (inb i) (inb j) h3
  have same' : ∀ r ∈ P, dot (dig q w i) r = dot (dig q w j) r := by
    intro r hr
    exact List.map_inj_left.mp same r hr
  refine ⟨lin 1 1 (dig q w i) (dig q w j), lin_len (dig_len ..) (dig_len ..), fun z => ?_, fun r hr => ?_, fun k => ?_⟩
  · have e : dig q w i = dig q w j := by
      refine List.ext_getElem (by rw [dig_len, dig_len]) fun k k1 k2 => ?_
      have := z k
      rw [lin_get 1 1 _ _ (by rw [dig_len, dig_len])] at this
      simp only [List.getD_eq_getElem?_getD, List.getElem?_eq_getElem k1, List.getElem?_eq_getElem k2, Option.getD_some] at this
      omega
    have := dig_inj q w i j hi hj e
    omega
  · rw [dot_lin 1 1 _ _ r (by rw [dig_len, dig_len]), same' r hr]
    omega
  · rw [lin_get 1 1 _ _ (by rw [dig_len, dig_len]), ← hn, ← hB]
    have a1 := dig_rng q (by omega) w i k
    have a2 := dig_rng q (by omega) w j k
    omega
end K3


set_option linter.all false
namespace K3
/-! ### the greatest divisor -/
def gstep (d : Nat) (n : Int) : Nat := Nat.gcd d n.natAbs
def gcdL (ns : List Int) : Nat := ns.foldl gstep 0
/-- the ints divided by what divides them all -/
def redL (ns : List Int) : List Int := if (gcdL ns : Int) ≤ 1 then ns else ns.map fun n => n / (gcdL ns : Int)
theorem gf_dvd : ∀ (ns : List Int) (d : Nat), ns.foldl gstep d ∣ d ∧ ∀ n ∈ ns, ns.foldl gstep d ∣ n.natAbs
  | [], d => ⟨Nat.dvd_refl d, fun _ h => absurd h List.not_mem_nil⟩
  | n :: ns, d => by
    obtain ⟨h1, h2⟩ := gf_dvd ns (gstep d n)
    refine ⟨Nat.dvd_trans h1 (Nat.gcd_dvd_left ..), fun m hm => ?_⟩
    cases List.mem_cons.mp hm with
    | inl e => rw [e]; exact Nat.dvd_trans h1 (Nat.gcd_dvd_right ..)
    | inr h => exact h2 m h
theorem gcdL_dvd {ns : List Int} {n : Int} (h : n ∈ ns) : (gcdL ns : Int) ∣ n := Int.ofNat_dvd_left.mpr ((gf_dvd ns 0).2 n h)
theorem gf_mul (k : Nat) : ∀ (ns : List Int) (d : Nat) (c : Int), c.natAbs = k → (ns.map (c * ·)).foldl gstep (k * d) = k * ns.foldl gstep d
  | [], d, c, _ => rfl
  | n :: ns, d, c, h => by
    have ih := gf_mul k ns (gstep d n) c h
    simp only [List.map_cons, List.foldl_cons]
    rw [← ih]
    congr 1
    simp only [gstep, Int.natAbs_mul, h, Nat.gcd_mul_left]
theorem gcdL_mul (c : Int) (ns : List Int) : gcdL (ns.map (c * ·)) = c.natAbs * gcdL ns := by
  have := gf_mul c.natAbs ns 0 c rfl
  rwa [Nat.mul_zero] at this
theorem gf_great : ∀ (ns : List Int) (d k : Nat), k ∣ d → (∀ n ∈ ns, k ∣ n.natAbs) → k ∣ ns.foldl gstep d
  | [], d, k, h, _ => h
  | n :: ns, d, k, h, H => gf_great ns _ k (Nat.dvd_gcd h (H n List.mem_cons_self)) fun m hm => H m (List.mem_cons_of_mem _ hm)
def Prim (v : Vec) : Prop := ∀ a m : Int, (∀ i, a ∣ m * v.getD i 0) → a ∣ m
theorem prim_of {v : Vec} (h : gcdL v = 1) : Prim v := by
  intro a m H
  have h1 : a.natAbs ∣ gcdL (v.map (m * ·)) := gf_great _ _ _ (Nat.dvd_zero _) fun n hn => by
    obtain ⟨x, hx, rfl⟩ := List.mem_map.mp hn
    obtain ⟨i, hi, e⟩ := List.mem_iff_getElem.mp hx
    have := H i
    rw [List.getD_eq_getElem?_getD, List.getElem?_eq_getElem hi, Option.getD_some, e] at this
    exact Int.natAbs_dvd_natAbs.mpr this
  rw [gcdL_mul, h, Nat.mul_one] at h1
  exact Int.natAbs_dvd_natAbs.mp h1
theorem gcdL_pos {v : Vec} (h : ¬ Zr v) : 0 < gcdL v := by
  rcases Nat.eq_zero_or_pos (gcdL v) with e | e
  · exfalso
    apply h
    intro i
    by_cases hi : i < v.length
    · have := gcdL_dvd (List.getElem_mem hi)
      rw [e] at this
      rw [List.getD_eq_getElem?_getD, List.getElem?_eq_getElem hi, Option.getD_some]
      exact Int.zero_dvd.mp this
    · simp [List.getD_eq_getElem?_getD, List.getElem?_eq_none (by omega : v.length ≤ i)]
  · exact e
theorem redL_facts {u : Vec} (h : ¬ Zr u) : (redL u).length = u.length ∧ gcdL (redL u) = 1 ∧ ∀ i, u.getD i 0 = (gcdL u : Int) * (redL u).getD i 0 := by
  have hp := gcdL_pos h
  unfold redL
  split
  · have e : gcdL u = 1 := by omega
    exact ⟨rfl, e, fun i => by rw [e]; simp⟩
  · have e2 : (u.map fun n => n / (gcdL u : Int)).map ((gcdL u : Int) * ·) = u := by
      rw [List.map_map]
      conv => rhs; rw [← List.map_id u]
      refine List.map_congr_left fun n hn => ?_
      show (gcdL u : Int) * (n / (gcdL u : Int)) = n
      exact Int.mul_ediv_cancel' (gcdL_dvd hn)
    refine ⟨by simp, ?_, fun i => ?_⟩
    · have := gcdL_mul (gcdL u : Int) (u.map fun n => n / (gcdL u : Int))
      rw [e2, Int.natAbs_natCast] at this
      exact Nat.eq_of_mul_eq_mul_left hp (by rw [Nat.mul_one]; exact this.symm)
    · conv => lhs; rw [← e2]
      simp only [List.getD_eq_getElem?_getD, List.getElem?_map]
      cases u[i]? <;> simp
/-! ### vectors that hold -/
def unit (w s : Nat) : Vec := (List.range w).map fun p => if p = s then 1 else 0
theorem unit_len (w s : Nat) : (unit w s).length = w := by simp [unit]
theorem unit_get (w s i : Nat) : (unit w s).getD i 0 = if i < w ∧ i = s then 1 else 0 := by
  simp only [unit, List.getD_eq_getElem?_getD, List.getElem?_map]
  by_cases h : i < w
  · simp [List.getElem?_range h, h]
  · simp [h]
theorem dot_unit_aux (s : Nat) : ∀ (x : Vec) (k : Nat), dot x ((List.range' k x.length).map fun p => if p = s then (1 : Int) else 0) = if k ≤ s then x.getD (s - k) 0 else 0
  | [], k => by simp [dot_nil_l]
  | a :: as, k => by
    have ih := dot_unit_aux s as (k + 1)
    simp only [List.length_cons, List.range'_succ, List.map_cons, dot, ih]
    by_cases h1 : k = s
    · subst h1
      simp [show ¬ (k + 1 ≤ k) by omega]
    · by_cases h2 : k < s
      · have e : s - k = (s - (k + 1)) + 1 := by omega
        simp [h1, show k + 1 ≤ s by omega, show k ≤ s by omega, e]
      · simp [h1, show ¬ k + 1 ≤ s by omega, show ¬ k ≤ s by omega]
theorem dot_unit {w s : Nat} {x : Vec} (h : x.length = w) : dot x (unit w s) = x.getD s 0 := by
  have := dot_unit_aux s x 0
  rw [h] at this
  unfold unit
  rw [List.range_eq_range', this]
  simp
theorem unit_gcd {w s : Nat} (h : s < w) : gcdL (unit w s) = 1 := by
  have h1 := (gf_dvd (unit w s) 0).2 1 (by
    refine List.mem_map.mpr ⟨s, List.mem_range.mpr h, ?_⟩
    simp)
  have : gcdL (unit w s) ∣ 1 := h1
  exact Nat.dvd_one.mp this
def units (w : Nat) : List Vec := (List.range w).map (unit w)
def wout (row : Vec) (p : Int) (pr : Vec) (pp : Int) : Vec := if p = 0 then row else redL (lin pp p row pr)
def narrow (held : List Vec) (row : Vec) : List Vec :=
  match held.findIdx? (fun h => dot h row != 0) with
  | none => held
  | some k => (held.eraseIdx k).map fun h => wout h (dot h row) (held.getD k []) (dot (held.getD k []) row)
structure Good (w : Nat) (L P : List Vec) (G : List (Nat × Vec)) : Prop where
  wid : ∀ p ∈ G, p.2.length = w
  nd : (G.map (·.1)).Nodup
  tri : ∀ p ∈ G, ∀ q ∈ G, p.1 ≠ q.1 → p.2.getD q.1 0 = 0
  piv : ∀ p ∈ G, p.2.getD p.1 0 ≠ 0
  ker : ∀ p ∈ G, ∀ r ∈ L, dot p.2 r = 0
  sub : ∀ r ∈ P, r ∈ L
  cnt : P.length + G.length = w
  det : ∀ x : Vec, x.length = w → (∀ r ∈ P, dot x r = 0) → (∀ p ∈ G, x.getD p.1 0 = 0) → Zr x
  prim : ∀ p ∈ G, gcdL p.2 = 1
theorem good_start (w : Nat) : Good w [] [] ((List.range w).map fun s => (s, unit w s)) where
  wid := fun p h => by obtain ⟨s, _, rfl⟩ := List.mem_map.mp h; exact unit_len w s
  nd := by
    rw [List.map_map]
    show ((List.range w).map fun s => s).Nodup
    rw [List.map_id']
    exact List.nodup_range
  tri := fun p h q h' n => by
    obtain ⟨s, _, rfl⟩ := List.mem_map.mp h
    rw [unit_get]
    exact if_neg fun z => n z.2.symm
  piv := fun p h => by
    obtain ⟨s, hs, rfl⟩ := List.mem_map.mp h
    rw [unit_get, if_pos ⟨List.mem_range.mp hs, rfl⟩]
    decide
  ker := fun _ _ r h => absurd h List.not_mem_nil
  sub := fun r h => absurd h List.not_mem_nil
  cnt := by simp
  det := fun x hx _ h i => by
    by_cases hi : i < w
    · exact h (i, unit w i) (List.mem_map.mpr ⟨i, List.mem_range.mpr hi, rfl⟩)
    · simp [List.getD_eq_getElem?_getD, List.getElem?_eq_none (by omega : x.length ≤ i)]
  prim := fun p h => by
    obtain ⟨s, hs, rfl⟩ := List.mem_map.mp h
    exact unit_gcd (List.mem_range.mp hs)
theorem key_inj {G : List (Nat × Vec)} (nd : (G.map (·.1)).Nodup) {i j : Nat} {p q : Nat × Vec} (hi : G[i]? = some p) (hj : G[j]? = some q) (e : p.1 = q.1) : i = j := by
  have li := (List.getElem?_eq_some_iff.mp hi).1
  have lj := (List.getElem?_eq_some_iff.mp hj).1
  have e1 : (G.map (·.1))[i]? = (G.map (·.1))[j]? := by rw [List.getElem?_map, List.getElem?_map, hi, hj]; simp [e]
  exact (List.getElem?_inj (by simpa using li) nd).mp e1
theorem wout_facts {w : Nat} {h q : Vec} {p pp : Int} (hh : h.length = w) (hq : q.length = w) (nz : p ≠ 0 → ¬ Zr (lin pp p h q)) (g1 : gcdL h = 1) :
    (wout h p q pp).length = w ∧ gcdL (wout h p q pp) = 1 ∧ ∃ g c : Int, g ≠ 0 ∧ (p = 0 → g = 1 ∧ c = 1) ∧ (p ≠ 0 → c = pp) ∧ ∀ i, g * (wout h p q pp).getD i 0 = c * h.getD i 0 - p * q.getD i 0 := by
  unfold wout
  by_cases e : p = 0
  · rw [if_pos e]
    exact ⟨hh, g1, 1, 1, by decide, fun _ => ⟨rfl, rfl⟩, fun n => absurd e n, fun i => by rw [e]; omega⟩
  · rw [if_neg e]
    obtain ⟨f1, f2, f3⟩ := redL_facts (nz e)
    refine ⟨by rw [f1, lin_len hh hq], f2, (gcdL (lin pp p h q) : Int), pp, ?_, fun z => absurd z e, fun _ => rfl, fun i => ?_⟩
    · have := gcdL_pos (nz e)
      omega
    · rw [← f3 i, lin_get pp p h q (by rw [hh, hq]), Int.mul_comm pp, Int.mul_comm p]
theorem dot_of_get (g c p : Int) : ∀ (v h q r : Vec), v.length = h.length → v.length = q.length → (∀ i, g * v.getD i 0 = c * h.getD i 0 - p * q.getD i 0) → g * dot v r = c * dot h r - p * dot q r
  | [], [], [], r, _, _, _ => by simp [dot_nil_l]
  | v :: vs, h :: hs, q :: qs, [], _, _, _ => by simp [dot_nil_r]
  | v :: vs, h :: hs, q :: qs, r :: rs, l1, l2, H => by
    have h0 := H 0
    have ih := dot_of_get g c p vs hs qs rs (by simpa using l1) (by simpa using l2) fun i => by simpa using H (i + 1)
    simp only [List.getD_cons_zero] at h0
    simp only [dot]
    grind
theorem erase_map {α β : Type} (f : α → β) : ∀ (l : List α) (k : Nat), (l.map f).eraseIdx k = (l.eraseIdx k).map f
  | [], k => by simp
  | a :: l, 0 => rfl
  | a :: l, k + 1 => by simp [erase_map f l k]
theorem narrow_step {w : Nat} {L P : List Vec} {G : List (Nat × Vec)} (I : Good w L P G) (row : Vec) :
    ∃ P' G', Good w (L ++ [row]) P' G' ∧ G'.map (·.2) = narrow (G.map (·.2)) row ∧
      ((∃ p ∈ G, dot p.2 row ≠ 0) → G'.length + 1 = G.length) := by
  cases hk : (G.map (·.2)).findIdx? (fun h => dot h row != 0) with
  | none =>
    have hz : ∀ p ∈ G, dot p.2 row = 0 := fun p hp => by
      have := List.findIdx?_eq_none_iff.mp hk p.2 (List.mem_map.mpr ⟨p, hp, rfl⟩)
      simpa using this
    refine ⟨P, G, ⟨I.wid, I.nd, I.tri, I.piv, fun p hp r hr => ?_, fun r hr => List.mem_append_left _ (I.sub r hr), I.cnt, I.det, I.prim⟩, ?_, fun ⟨p, hp, n⟩ => absurd (hz p hp) n⟩
    · cases List.mem_append.mp hr with
      | inl h => exact I.ker p hp r h
      | inr h => rw [List.mem_singleton.mp h]; exact hz p hp
    · unfold narrow
      rw [hk]
  | some k =>
    obtain ⟨hkl, hkp, _⟩ := List.findIdx?_eq_some_iff_getElem.mp hk
    rw [List.length_map] at hkl
    obtain ⟨q, hq⟩ : ∃ q, q = G[k] := ⟨_, rfl⟩
    have hqk : G[k]? = some q := by rw [hq]; exact List.getElem?_eq_getElem hkl
    have hqm : q ∈ G := List.mem_of_getElem? hqk
    have hpp : dot q.2 row ≠ 0 := by
      have := hkp
      rw [List.getElem_map, ← hq] at this
      simpa using this
    obtain ⟨pp, epp⟩ : ∃ pp, pp = dot q.2 row := ⟨_, rfl⟩
    rw [← epp] at hpp
    let f : Nat × Vec → Nat × Vec := fun p => (p.1, wout p.2 (dot p.2 row) q.2 pp)
    -- what stays
    have stay : ∀ p ∈ G.eraseIdx k, p ∈ G ∧ p.1 ≠ q.1 := by
      intro p hp
      obtain ⟨i, hi, e⟩ := (List.mem_eraseIdx_iff_getElem?).mp hp
      exact ⟨List.mem_of_getElem? e, fun z => hi (key_inj I.nd e hqk z)⟩
    have nz : ∀ p ∈ G.eraseIdx k, dot p.2 row ≠ 0 → ¬ Zr (lin pp (dot p.2 row) p.2 q.2) := by
      intro p hp _ z
      obtain ⟨m, n⟩ := stay p hp
      have := z p.1
      rw [lin_get _ _ _ _ (by rw [I.wid p m, I.wid q hqm]), I.tri q hqm p m (Ne.symm n), Int.zero_mul, Int.sub_zero] at this
      rcases Int.mul_eq_zero.mp this with h | h
      · exact I.piv p m h
      · exact hpp h
    have wf := fun p (hp : p ∈ G.eraseIdx k) => wout_facts (I.wid p (stay p hp).1) (I.wid q hqm) (nz p hp) (I.prim p (stay p hp).1)
    have len : (G.eraseIdx k).length + 1 = G.length := by rw [List.length_eraseIdx_of_lt hkl]; omega
    refine ⟨P ++ [row], (G.eraseIdx k).map f, ⟨?_, ?_, ?_, ?_, ?_, ?_, ?_, ?_, ?_⟩, ?_, fun _ => by rw [List.length_map]; exact len⟩
    · intro p hp
      obtain ⟨p0, h0, rfl⟩ := List.mem_map.mp hp
      exact (wf p0 h0).1
    · rw [List.map_map]
      show ((G.eraseIdx k).map (·.1)).Nodup
      exact (I.nd.sublist ((List.eraseIdx_sublist G k).map _))
    · intro p hp p' hp' n
      obtain ⟨p0, h0, rfl⟩ := List.mem_map.mp hp
      obtain ⟨p1, h1, rfl⟩ := List.mem_map.mp hp'
      obtain ⟨_, _, g, c, gn, _, _, gg⟩ := wf p0 h0
      have e := gg p1.1
      rw [I.tri p0 (stay p0 h0).1 p1 (stay p1 h1).1 n, I.tri q hqm p1 (stay p1 h1).1 (Ne.symm (stay p1 h1).2)] at e
      have e2 : g * (wout p0.2 (dot p0.2 row) q.2 pp).getD p1.1 0 = 0 := by rw [e]; omega
      exact (Int.mul_eq_zero.mp e2).resolve_left gn
    · intro p hp
      obtain ⟨p0, h0, rfl⟩ := List.mem_map.mp hp
      obtain ⟨_, _, g, c, gn, c1, c2, gg⟩ := wf p0 h0
      have e := gg p0.1
      rw [I.tri q hqm p0 (stay p0 h0).1 (Ne.symm (stay p0 h0).2)] at e
      intro z
      have z' : (wout p0.2 (dot p0.2 row) q.2 pp).getD p0.1 0 = 0 := z
      rw [z'] at e
      have e3 : c * p0.2.getD p0.1 0 = 0 := by omega
      have cn : c ≠ 0 := by
        by_cases h : dot p0.2 row = 0
        · rw [(c1 h).2]; decide
        · rw [c2 h]; exact hpp
      exact (Int.mul_eq_zero.mp e3).elim cn (I.piv p0 (stay p0 h0).1)
    · intro p hp r hr
      obtain ⟨p0, h0, rfl⟩ := List.mem_map.mp hp
      obtain ⟨l0, _, g, c, gn, c1, c2, gg⟩ := wf p0 h0
      have e := dot_of_get g c (dot p0.2 row) _ p0.2 q.2 r (by rw [l0, I.wid p0 (stay p0 h0).1]) (by rw [l0, I.wid q hqm]) gg
      have e2 : g * dot (wout p0.2 (dot p0.2 row) q.2 pp) r = 0 := by
        rw [e]
        cases List.mem_append.mp hr with
        | inl h => rw [I.ker p0 (stay p0 h0).1 r h, I.ker q hqm r h]; omega
        | inr h =>
          rw [List.mem_singleton.mp h, ← epp]
          by_cases z : dot p0.2 row = 0
          · rw [z]; omega
          · rw [c2 z, Int.mul_comm]; omega
      exact (Int.mul_eq_zero.mp e2).resolve_left gn
    · intro r hr
      cases List.mem_append.mp hr with
      | inl h => exact List.mem_append_left _ (I.sub r h)
      | inr h => exact List.mem_append_right _ h
    · have := I.cnt
      rw [List.length_append, List.length_map]
      simp only [List.length_cons, List.length_nil]
      omega
    · intro x hx h1 h2
      have hl : x.length = q.2.length := by rw [hx, I.wid q hqm]
      have y0 : Zr (lin (q.2.getD q.1 0) (x.getD q.1 0) x q.2) := by
        refine I.det _ (lin_len hx (I.wid q hqm)) (fun r hr => ?_) fun p hp => ?_
        · rw [dot_lin _ _ _ _ _ hl, h1 r (List.mem_append_left _ hr), I.ker q hqm r (I.sub r hr)]
          omega
        · rw [lin_get _ _ _ _ hl]
          by_cases e : p.1 = q.1
          · rw [e, Int.mul_comm]; omega
          · have hx0 : x.getD p.1 0 = 0 := by
              obtain ⟨i, hi⟩ := List.mem_iff_getElem?.mp hp
              have hik : i ≠ k := fun z => e (by rw [z, hqk] at hi; rw [Option.some.inj hi])
              have hm : p ∈ G.eraseIdx k := (List.mem_eraseIdx_iff_getElem?).mpr ⟨i, hik, hi⟩
              exact h2 (f p) (List.mem_map.mpr ⟨p, hm, rfl⟩)
            rw [hx0, I.tri q hqm p hp (Ne.symm e)]
            omega
      have d0 := dot_zr y0 row
      rw [dot_lin _ _ _ _ _ hl, h1 row (List.mem_append_right _ (List.mem_singleton.mpr rfl)), ← epp] at d0
      have xq : x.getD q.1 0 = 0 := by
        have : x.getD q.1 0 * pp = 0 := by omega
        exact (Int.mul_eq_zero.mp this).resolve_right hpp
      refine I.det x hx (fun r hr => h1 r (List.mem_append_left _ hr)) fun p hp => ?_
      by_cases e : p.1 = q.1
      · rw [e]; exact xq
      · obtain ⟨i, hi⟩ := List.mem_iff_getElem?.mp hp
        have hik : i ≠ k := fun z => e (by rw [z, hqk] at hi; rw [Option.some.inj hi])
        have hm : p ∈ G.eraseIdx k := (List.mem_eraseIdx_iff_getElem?).mpr ⟨i, hik, hi⟩
        exact h2 (f p) (List.mem_map.mpr ⟨p, hm, rfl⟩)
    · intro p hp
      obtain ⟨p0, h0, rfl⟩ := List.mem_map.mp hp
      exact (wf p0 h0).2.1
    · unfold narrow
      rw [hk]
      have eq2 : (G.map (·.2)).getD k [] = q.2 := by
        rw [List.getD_eq_getElem?_getD, List.getElem?_map, hqk]
        rfl
      simp only [eq2, ← epp]
      rw [List.map_map, erase_map, List.map_map]
      rfl
end K3


set_option linter.all false
namespace K3
theorem good_run {w : Nat} : ∀ (rows L P : List Vec) (G : List (Nat × Vec)), Good w L P G →
    ∃ P' G', Good w (L ++ rows) P' G' ∧ G'.map (·.2) = rows.foldl narrow (G.map (·.2))
  | [], L, P, G, I => ⟨P, G, by rw [List.append_nil]; exact I, rfl⟩
  | row :: rows, L, P, G, I => by
    obtain ⟨P1, G1, I1, e1, _⟩ := narrow_step I row
    obtain ⟨P2, G2, I2, e2⟩ := good_run rows _ _ _ I1
    refine ⟨P2, G2, ?_, ?_⟩
    · rw [List.append_assoc] at I2
      exact I2
    · rw [e2, e1]
      rfl
def heldM (w : Nat) (rows : List Vec) : List Vec := rows.foldl narrow (units w)
theorem good_held (w : Nat) (rows : List Vec) : ∃ P G, Good w rows P G ∧ G.map (·.2) = heldM w rows := by
  obtain ⟨P, G, I, e⟩ := good_run rows [] [] _ (good_start w)
  refine ⟨P, G, I, e.trans ?_⟩
  unfold heldM units
  rw [List.map_map]
  rfl
/-- what all that hold hold of, all that are led by the same hold of -/
theorem span_aux {w : Nat} {L P : List Vec} {G : List (Nat × Vec)} (I : Good w L P G) {e : Vec} (h : ∀ p ∈ G, dot p.2 e = 0) :
    ∀ (l : List (Nat × Vec)), (∀ p ∈ l, p ∈ G) → ∀ x : Vec, x.length = w → (∀ r ∈ P, dot x r = 0) → (∀ p ∈ G, p.1 ∉ l.map (·.1) → x.getD p.1 0 = 0) → dot x e = 0
  | [], _, x, hx, h1, h2 => dot_zr (I.det x hx h1 fun p hp => h2 p hp (by simp)) e
  | q :: l, hl, x, hx, h1, h2 => by
    have hq := hl q List.mem_cons_self
    have ll : x.length = q.2.length := by rw [hx, I.wid q hq]
    have d := span_aux I h l (fun p hp => hl p (List.mem_cons_of_mem _ hp)) (lin (q.2.getD q.1 0) (x.getD q.1 0) x q.2) (lin_len hx (I.wid q hq))
      (fun r hr => by rw [dot_lin _ _ _ _ _ ll, h1 r hr, I.ker q hq r (I.sub r hr)]; omega)
      (fun p hp hn => by
        rw [lin_get _ _ _ _ ll]
        by_cases z : p.1 = q.1
        · rw [z, Int.mul_comm]; omega
        · rw [I.tri q hq p hp (Ne.symm z), h2 p hp (by simp only [List.map_cons, List.mem_cons, not_or]; exact ⟨z, hn⟩)]; omega)
    rw [dot_lin _ _ _ _ _ ll, h q hq] at d
    have d2 : q.2.getD q.1 0 * dot x e = 0 := by omega
    exact (Int.mul_eq_zero.mp d2).resolve_left (I.piv q hq)
theorem span {w : Nat} {L P : List Vec} {G : List (Nat × Vec)} (I : Good w L P G) {e : Vec} (h : ∀ p ∈ G, dot p.2 e = 0) (x : Vec) (hx : x.length = w) (h1 : ∀ r ∈ P, dot x r = 0) : dot x e = 0 :=
  span_aux I h G (fun _ h => h) x hx h1 fun p hp hn => absurd (List.mem_map.mpr ⟨p, hp, rfl⟩) hn
theorem vec_bound : ∀ (v : Vec), ∃ R, ∀ b ∈ v, b.natAbs ≤ R
  | [] => ⟨0, fun _ h => absurd h List.not_mem_nil⟩
  | a :: as => by
    obtain ⟨R, h⟩ := vec_bound as
    refine ⟨R + a.natAbs, fun b hb => ?_⟩
    cases List.mem_cons.mp hb with
    | inl e => rw [e]; omega
    | inr m => have := h b m; omega
theorem all_bound : ∀ (P : List Vec), ∃ R, 0 < R ∧ ∀ r ∈ P, ∀ b ∈ r, b.natAbs ≤ R
  | [] => ⟨1, by decide, fun _ h => absurd h List.not_mem_nil⟩
  | v :: P => by
    obtain ⟨R, hR, h⟩ := all_bound P
    obtain ⟨S, k⟩ := vec_bound v
    refine ⟨R + S, by omega, fun r hr b hb => ?_⟩
    cases List.mem_cons.mp hr with
    | inl e => rw [e] at hb; have := k b hb; omega
    | inr m => have := h r m b hb; omega
theorem dot_single : ∀ (a v : Vec) (k : Nat), a.length = v.length → (∀ j, j ≠ k → v.getD j 0 = 0) → dot a v = a.getD k 0 * v.getD k 0
  | [], [], k, _, _ => by simp [dot]
  | a :: as, v :: vs, 0, h, H => by
    have z : Zr vs := fun i => by simpa using H (i + 1) (by omega)
    have : dot as vs = 0 := by rw [dot_comm]; exact dot_zr z as
    simp [dot, this]
  | a :: as, v :: vs, k + 1, h, H => by
    have ih := dot_single as vs k (by simpa using h) fun j hj => by simpa using H (j + 1) (by omega)
    have v0 : v = 0 := by simpa using H 0 (by omega)
    simp [dot, ih, v0]
theorem dot_noughts {a : Vec} {n : Nat} : ∀ (v : Vec), (∀ b ∈ v, b = 0) → dot a v = 0 := fun v h => by
  rw [dot_comm]
  refine dot_zr (fun i => ?_) a
  rw [List.getD_eq_getElem?_getD]
  cases e : v[i]? with
  | none => rfl
  | some x => exact h x (List.mem_of_getElem? e)
theorem count_le {w : Nat} {L P L' P' : List Vec} {G G' : List (Nat × Vec)} (I : Good w L P G) (J : Good w L' P' G')
    (h : ∀ x : Vec, x.length = w → (∀ r ∈ L, dot x r = 0) → ∀ r ∈ P', dot x r = 0) : G.length ≤ G'.length := by
  refine Nat.le_of_not_lt fun hlt => ?_
  obtain ⟨R, hR, hb⟩ := all_bound (G'.map fun q => G.map fun p => p.2.getD q.1 0)
  obtain ⟨a, al, an, ad, _⟩ := siegel G.length R (G'.map fun q => G.map fun p => p.2.getD q.1 0) (by rw [List.length_map]; exact hlt) hR hb
  have wl : ∀ v ∈ G.map (·.2), v.length = w := fun v hv => by
    obtain ⟨p, hp, rfl⟩ := List.mem_map.mp hv
    exact I.wid p hp
  have x0 : Zr (comb w a (G.map (·.2))) := by
    refine J.det _ (comb_len w a _ wl) (h _ (comb_len w a _ wl) fun r hr => ?_) fun q hq => ?_
    · rw [dot_comb w r a _ wl]
      refine dot_noughts (n := 0) _ fun b hb => ?_
      rw [List.map_map] at hb
      obtain ⟨p, hp, rfl⟩ := List.mem_map.mp hb
      exact I.ker p hp r hr
    · rw [get_comb w q.1 a _ wl, List.map_map]
      exact ad _ (List.mem_map.mpr ⟨q, hq, rfl⟩)
  apply an
  intro k
  by_cases hk : k < G.length
  · obtain ⟨p, hp⟩ : ∃ p, G[k]? = some p := ⟨_, List.getElem?_eq_getElem hk⟩
    have e := x0 p.1
    rw [get_comb w p.1 a _ wl, List.map_map, dot_single a _ k (by rw [List.length_map, al]) (fun j hj => ?_)] at e
    · have e2 : (List.map ((fun h => h.getD p.1 0) ∘ fun x => x.2) G).getD k 0 = p.2.getD p.1 0 := by
        rw [List.getD_eq_getElem?_getD, List.getElem?_map, hp]; rfl
      rw [e2] at e
      exact (Int.mul_eq_zero.mp e).resolve_right (I.piv p (List.mem_of_getElem? hp))
    · rw [List.getD_eq_getElem?_getD, List.getElem?_map]
      cases ej : G[j]? with
      | none => rfl
      | some p' =>
        refine I.tri p' (List.mem_of_getElem? ej) p (List.mem_of_getElem? hp) fun z => hj (key_inj I.nd ej hp z)
  · rw [List.getD_eq_getElem?_getD, List.getElem?_eq_none (by omega)]
    rfl
/-! ### rows with a place of their own each, where all later ones have 0 -/
inductive Ech (w : Nat) : List Vec → Prop where
  | nil : Ech w []
  | cons {e : Vec} {es : List Vec} {p : Nat} (len : e.length = w) (nz : e.getD p 0 ≠ 0) (z : ∀ e' ∈ es, e'.getD p 0 = 0) (r : Ech w es) : Ech w (e :: es)
theorem Ech.len {w : Nat} : ∀ {E : List Vec}, Ech w E → ∀ e ∈ E, e.length = w
  | _, .nil, _, h => absurd h List.not_mem_nil
  | _, .cons len _ _ r, e, h => (List.mem_cons.mp h).elim (fun z => z ▸ len) (r.len e)
theorem ech_good {w : Nat} : ∀ {E : List Vec}, Ech w E → ∃ P G, Good w E.reverse P G ∧ G.length + E.length = w
  | _, .nil => ⟨[], _, good_start w, by simp⟩
  | e :: es, .cons (p := p) len nz z r => by
    obtain ⟨P, G, I, c⟩ := ech_good r
    obtain ⟨P', G', I', _, hc⟩ := narrow_step I e
    refine ⟨P', G', by rw [List.reverse_cons]; exact I', ?_⟩
    have hp : p < w := by
      refine Nat.lt_of_not_le fun h => nz ?_
      rw [List.getD_eq_getElem?_getD, List.getElem?_eq_none (by omega)]
      rfl
    have : ∃ q ∈ G, dot q.2 e ≠ 0 := by
      refine Classical.byContradiction fun n => nz ?_
      have all : ∀ q ∈ G, dot q.2 e = 0 := fun q hq => Classical.byContradiction fun m => n ⟨q, hq, m⟩
      have := span I all (unit w p) (unit_len w p) fun r hr => by
        have hr' := I.sub r hr
        have hm : r ∈ es := List.mem_reverse.mp hr'
        rw [dot_comm, dot_unit (Ech.len (by assumption) r hm)]
        exact z r hm
      rw [dot_comm, dot_unit len] at this
      exact this
    have := hc this
    simp only [List.length_cons]
    omega

def rankM (w : Nat) (rows : List Vec) : Nat := w - (heldM w rows).length
theorem rank_eq {w : Nat} {rows E : List Vec} (hE : Ech w E) (h : ∀ x : Vec, x.length = w → ((∀ r ∈ rows, dot x r = 0) ↔ ∀ e ∈ E, dot x e = 0)) : (heldM w rows).length + E.length = w := by
  obtain ⟨P, G, I, e⟩ := good_held w rows
  obtain ⟨P1, G1, I1, c⟩ := ech_good hE
  have a1 := count_le I I1 fun x hx hr r hm => (h x hx).mp hr r (List.mem_reverse.mp (I1.sub r hm))
  have a2 := count_le I1 I fun x hx hr r hm => (h x hx).mpr (fun e he => hr e (List.mem_reverse.mpr he)) r (I.sub r hm)
  rw [← e, List.length_map]
  omega
/-! ### how great what holds can be -/
theorem good_bound {w : Nat} {L P : List Vec} {G : List (Nat × Vec)} (I : Good w L P G) {R : Nat} (hR : 0 < R) (hb : ∀ r ∈ L, ∀ b ∈ r, b.natAbs ≤ R) :
    ∀ p ∈ G, ∀ i, (p.2.getD i 0).natAbs ≤ (4 * (w * R)) ^ (w - 1) := by
  intro p hp i
  obtain ⟨l1, l2, eG⟩ := List.append_of_mem hp
  have cnt := I.cnt
  have gl : G.length = l1.length + (l2.length + 1) := by rw [eG]; simp
  obtain ⟨y, yl, yn, yd, yb⟩ := siegel w R (P ++ (l1 ++ l2).map fun q => unit w q.1) (by simp only [List.length_append, List.length_map]; omega) hR (by
    intro r hr b hb'
    cases List.mem_append.mp hr with
    | inl m => exact hb r (I.sub r m) b hb'
    | inr m =>
      obtain ⟨q, _, rfl⟩ := List.mem_map.mp m
      obtain ⟨k, _, rfl⟩ := List.mem_map.mp hb'
      split <;> simp <;> omega)
  have pl : y.length = p.2.length := by rw [yl, I.wid p hp]
  have nd := I.nd
  have other : ∀ q ∈ G, q.1 ≠ p.1 → y.getD q.1 0 = 0 := by
    intro q hq n
    have hm : q ∈ l1 ++ l2 := by
      rw [eG] at hq
      cases List.mem_append.mp hq with
      | inl m => exact List.mem_append_left _ m
      | inr m =>
        cases List.mem_cons.mp m with
        | inl e => exact absurd (by rw [e]) n
        | inr m => exact List.mem_append_right _ m
    have := yd _ (List.mem_append_right _ (List.mem_map.mpr ⟨q, hm, rfl⟩))
    rwa [dot_unit yl] at this
  have z := I.det (lin (p.2.getD p.1 0) (y.getD p.1 0) y p.2) (lin_len yl (I.wid p hp))
    (fun r hr => by rw [dot_lin _ _ _ _ _ pl, yd r (List.mem_append_left _ hr), I.ker p hp r (I.sub r hr)]; omega)
    (fun q hq => by
      rw [lin_get _ _ _ _ pl]
      by_cases e : q.1 = p.1
      · rw [e, Int.mul_comm]; omega
      · rw [other q hq e, I.tri p hp q hq (Ne.symm e)]; omega)
  have prop : ∀ k, y.getD k 0 * p.2.getD p.1 0 = p.2.getD k 0 * y.getD p.1 0 := fun k => by
    have := z k
    rw [lin_get _ _ _ _ pl] at this
    omega
  have dv : p.2.getD p.1 0 ∣ y.getD p.1 0 := prim_of (I.prim p hp) _ _ fun k => ⟨y.getD k 0, by rw [Int.mul_comm, ← prop k, Int.mul_comm]⟩
  obtain ⟨m, hm⟩ := dv
  have pz := I.piv p hp
  have ym : ∀ k, y.getD k 0 = m * p.2.getD k 0 := fun k => by
    have h1 := prop k
    rw [hm] at h1
    refine Int.eq_of_mul_eq_mul_right pz ?_
    rw [h1]
    grind
  have mn : m ≠ 0 := fun e => yn fun k => by rw [ym k, e, Int.zero_mul]
  have b1 := yb i
  rw [ym i, Int.natAbs_mul] at b1
  have b2 : (p.2.getD i 0).natAbs ≤ m.natAbs * (p.2.getD i 0).natAbs := Nat.le_mul_of_pos_left _ (by omega)
  refine Nat.le_trans (Nat.le_trans b2 b1) (Nat.pow_le_pow_right ?_ ?_)
  · have : 0 < w * R := Nat.mul_pos (by omega) hR
    omega
  · simp only [List.length_append, List.length_map]
    omega
theorem held_facts (w : Nat) (rows : List Vec) {R : Nat} (hR : 0 < R) (hb : ∀ r ∈ rows, ∀ b ∈ r, b.natAbs ≤ R) :
    (heldM w rows).length ≤ w ∧ ∀ h ∈ heldM w rows, h.length = w ∧ ∀ b ∈ h, b.natAbs ≤ (4 * (w * R)) ^ (w - 1) := by
  obtain ⟨P, G, I, e⟩ := good_held w rows
  rw [← e]
  refine ⟨by have := I.cnt; rw [List.length_map]; omega, fun h hh => ?_⟩
  obtain ⟨p, hp, rfl⟩ := List.mem_map.mp hh
  refine ⟨I.wid p hp, fun b hb' => ?_⟩
  obtain ⟨i, hi, rfl⟩ := List.mem_iff_getElem.mp hb'
  have := good_bound I hR hb p hp i
  rwa [List.getD_eq_getElem?_getD, List.getElem?_eq_getElem hi] at this
end K3


set_option linter.all false
namespace K3
theorem getD_mem {l : Vec} {i : Nat} {P : Int → Prop} (h0 : P 0) (h : ∀ b ∈ l, P b) : P (l.getD i 0) := by
  rw [List.getD_eq_getElem?_getD]
  cases e : l[i]? with
  | none => exact h0
  | some x => exact h x (List.mem_of_getElem? e)
theorem ext_get {a b : Vec} (hl : a.length = b.length) (h : ∀ i, a.getD i 0 = b.getD i 0) : a = b := by
  refine List.ext_getElem hl fun i h1 h2 => ?_
  have := h i
  rwa [List.getD_eq_getElem?_getD, List.getD_eq_getElem?_getD, List.getElem?_eq_getElem h1, List.getElem?_eq_getElem h2] at this
/-! ### clearing place after place -/
def ownStep (s : List Vec × Nat) (place : Nat) : List Vec × Nat :=
  match s.1.filter (fun r => r.getD place 0 != 0) with
  | [] => s
  | head :: tl => (s.1.filter (fun r => r.getD place 0 == 0) ++ tl.map (fun row => lin (head.getD place 0) (row.getD place 0) row head), s.2 + 1)
def ownS (rows : List Vec) (p : Nat) : List Vec × Nat := (List.range p).foldl ownStep (rows, 0)
theorem own_aux {w : Nat} : ∀ (n p : Nat) (left : List Vec) (k : Nat), p + n = w → (∀ r ∈ left, r.length = w ∧ ∀ i, i < p → r.getD i 0 = 0) →
    ∃ E, Ech w E ∧ ((List.range' p n).foldl ownStep (left, k)).2 = k + E.length ∧ (∀ e ∈ E, ∀ i, i < p → e.getD i 0 = 0) ∧
      ∀ x : Vec, x.length = w → ((∀ r ∈ left, dot x r = 0) ↔ ∀ e ∈ E, dot x e = 0)
  | 0, p, left, k, hp, h => by
    refine ⟨[], .nil, rfl, fun _ h => absurd h List.not_mem_nil, fun x hx => ⟨fun _ _ h => absurd h List.not_mem_nil, fun _ r hr => ?_⟩⟩
    rw [dot_comm]
    refine dot_zr (fun i => ?_) x
    obtain ⟨h1, h2⟩ := h r hr
    by_cases hi : i < p
    · exact h2 i hi
    · rw [List.getD_eq_getElem?_getD, List.getElem?_eq_none (by omega)]; rfl
  | n + 1, p, left, k, hp, h => by
    simp only [List.range'_succ, List.foldl_cons]
    cases hf : left.filter (fun r => r.getD p 0 != 0) with
    | nil =>
      have e : ownStep (left, k) p = (left, k) := by simp only [ownStep, hf]
      rw [e]
      have allz : ∀ r ∈ left, r.getD p 0 = 0 := fun r hr => by
        have := List.filter_eq_nil_iff.mp hf r hr
        simpa using this
      obtain ⟨E, h1, h2, h3, h4⟩ := own_aux n (p + 1) left k (by omega) fun r hr => ⟨(h r hr).1, fun i hi => by
        by_cases z : i = p
        · rw [z]; exact allz r hr
        · exact (h r hr).2 i (by omega)⟩
      exact ⟨E, h1, h2, fun e he i hi => h3 e he i (by omega), h4⟩
    | cons head tl =>
      have sub : ∀ r, r ∈ head :: tl → r ∈ left ∧ r.getD p 0 ≠ 0 := fun r hr => by
        rw [← hf] at hr
        obtain ⟨a, b⟩ := List.mem_filter.mp hr
        exact ⟨a, by simpa using b⟩
      have sub2 : ∀ r ∈ left, r.getD p 0 ≠ 0 → r ∈ head :: tl := fun r hr n => by
        rw [← hf]
        exact List.mem_filter.mpr ⟨hr, by simpa using n⟩
      obtain ⟨left', hl'⟩ : ∃ l, l = left.filter (fun r => r.getD p 0 == 0) ++ tl.map (fun row => lin (head.getD p 0) (row.getD p 0) row head) := ⟨_, rfl⟩
      have e : ownStep (left, k) p = (left', k + 1) := by simp only [ownStep, hf, hl']
      rw [e]
      obtain ⟨hh1, hh2⟩ := sub head List.mem_cons_self
      have hd := (h head hh1)
      have new : ∀ r ∈ left', r.length = w ∧ ∀ i, i < p + 1 → r.getD i 0 = 0 := by
        intro r hr
        rw [hl'] at hr
        cases List.mem_append.mp hr with
        | inl m =>
          obtain ⟨a, b⟩ := List.mem_filter.mp m
          refine ⟨(h r a).1, fun i hi => ?_⟩
          by_cases z : i = p
          · rw [z]; simpa using b
          · exact (h r a).2 i (by omega)
        | inr m =>
          obtain ⟨row, hm, rfl⟩ := List.mem_map.mp m
          obtain ⟨a, b⟩ := sub row (List.mem_cons_of_mem _ hm)
          refine ⟨lin_len (h row a).1 hd.1, fun i hi => ?_⟩
          rw [lin_get _ _ _ _ (by rw [(h row a).1, hd.1])]
          by_cases z : i = p
          · rw [z, Int.mul_comm]; omega
          · rw [(h row a).2 i (by omega), hd.2 i (by omega)]; omega
      obtain ⟨E, h1, h2, h3, h4⟩ := own_aux n (p + 1) left' (k + 1) (by omega) new
      refine ⟨head :: E, .cons (p := p) hd.1 hh2 (fun e' he' => h3 e' he' p (by omega)) h1, ?_, ?_, fun x hx => ?_⟩
      · rw [h2, List.length_cons]; omega
      · intro e' he' i hi
        cases List.mem_cons.mp he' with
        | inl z => rw [z]; exact hd.2 i hi
        | inr m => exact h3 e' m i (by omega)
      · constructor
        · intro H e' he'
          cases List.mem_cons.mp he' with
          | inl z => rw [z]; exact H head hh1
          | inr m =>
            refine (h4 x hx).mp (fun r hr => ?_) e' m
            rw [hl'] at hr
            cases List.mem_append.mp hr with
            | inl m => exact H r (List.mem_filter.mp m).1
            | inr m =>
              obtain ⟨row, hm, rfl⟩ := List.mem_map.mp m
              obtain ⟨a, b⟩ := sub row (List.mem_cons_of_mem _ hm)
              rw [dot_comm, dot_lin _ _ _ _ _ (by rw [(h row a).1, hd.1]), dot_comm row, dot_comm head, H row a, H head hh1]
              omega
        · intro H r hr
          have k1 := H head List.mem_cons_self
          have k2 := (h4 x hx).mpr fun e' he' => H e' (List.mem_cons_of_mem _ he')
          by_cases z : r.getD p 0 = 0
          · exact k2 r (by rw [hl']; exact List.mem_append_left _ (List.mem_filter.mpr ⟨hr, by simpa using z⟩))
          · cases List.mem_cons.mp (sub2 r hr z) with
            | inl e => rw [e]; exact k1
            | inr m =>
              have := k2 _ (by rw [hl']; exact List.mem_append_right _ (List.mem_map.mpr ⟨r, m, rfl⟩))
              rw [dot_comm, dot_lin _ _ _ _ _ (by rw [(h r hr).1, hd.1]), dot_comm head, k1] at this
              rw [dot_comm]
              have t2 : head.getD p 0 * dot r x = 0 := by omega
              exact (Int.mul_eq_zero.mp t2).resolve_left hh2
theorem own_ech {w : Nat} {rows : List Vec} (h : ∀ r ∈ rows, r.length = w) : ∃ E, Ech w E ∧ (ownS rows w).2 = E.length ∧
    ∀ x : Vec, x.length = w → ((∀ r ∈ rows, dot x r = 0) ↔ ∀ e ∈ E, dot x e = 0) := by
  obtain ⟨E, h1, h2, _, h4⟩ := own_aux w 0 rows 0 (by omega) fun r hr => ⟨h r hr, fun i hi => absurd hi (Nat.not_lt_zero _)⟩
  refine ⟨E, h1, ?_, h4⟩
  unfold ownS
  rw [List.range_eq_range', h2, Nat.zero_add]
theorem ownS_succ (rows : List Vec) (p : Nat) : ownS rows (p + 1) = ownStep (ownS rows p) p := by
  unfold ownS
  rw [List.range_succ, List.foldl_append]
  rfl
theorem filt2 {α : Type} (f : α → Int) : ∀ l : List α, l.length = (l.filter (fun r => f r != 0)).length + (l.filter (fun r => f r == 0)).length
  | [] => rfl
  | a :: l => by
    have ih := filt2 f l
    by_cases h : f a = 0
    · simp [h]; omega
    · simp [h]; omega
/-- how great the numbers get -/
theorem own_bound {w : Nat} {rows : List Vec} (h : ∀ r ∈ rows, r.length = w ∧ ∀ b ∈ r, b.natAbs < 2 ^ 90) : ∀ p, (ownS rows p).1.length ≤ rows.length ∧
    ∀ r ∈ (ownS rows p).1, r.length = w ∧ ∀ b ∈ r, b.natAbs < 2 ^ (91 * 2 ^ p - 1)
  | 0 => ⟨Nat.le_refl _, fun r hr => h r hr⟩
  | p + 1 => by
    obtain ⟨h1, h2⟩ := own_bound h p
    rw [ownS_succ]
    generalize ownS rows p = s at h1 h2 ⊢
    have pp : 0 < 2 ^ p := Nat.pow_pos (by decide)
    have big : 91 * 2 ^ (p + 1) - 1 = (91 * 2 ^ p - 1) + (91 * 2 ^ p - 1) + 1 := by rw [Nat.pow_succ]; omega
    have mono : 2 ^ (91 * 2 ^ p - 1) ≤ 2 ^ (91 * 2 ^ (p + 1) - 1) := Nat.pow_le_pow_right (by decide) (by omega)
    cases hf : s.1.filter (fun r => r.getD p 0 != 0) with
    | nil =>
      simp only [ownStep, hf]
      exact ⟨h1, fun r hr => ⟨(h2 r hr).1, fun b hb => Nat.lt_of_lt_of_le ((h2 r hr).2 b hb) mono⟩⟩
    | cons head tl =>
      simp only [ownStep, hf]
      have sub : ∀ r, r ∈ head :: tl → r ∈ s.1 := fun r hr => by
        rw [← hf] at hr
        exact (List.mem_filter.mp hr).1
      constructor
      · have e : s.1.length = (s.1.filter (fun r => r.getD p 0 != 0)).length + (s.1.filter (fun r => r.getD p 0 == 0)).length := by
          exact filt2 (fun r : Vec => r.getD p 0) s.1
        rw [hf, List.length_cons] at e
        rw [List.length_append, List.length_map]
        omega
      · intro r hr
        cases List.mem_append.mp hr with
        | inl m =>
          have m' := (List.mem_filter.mp m).1
          exact ⟨(h2 r m').1, fun b hb => Nat.lt_of_lt_of_le ((h2 r m').2 b hb) mono⟩
        | inr m =>
          obtain ⟨row, hm, rfl⟩ := List.mem_map.mp m
          have a := h2 row (sub row (List.mem_cons_of_mem _ hm))
          have b := h2 head (sub head List.mem_cons_self)
          refine ⟨lin_len a.1 b.1, fun z hz => ?_⟩
          obtain ⟨i, hi, rfl⟩ := List.mem_iff_getElem.mp hz
          have e := lin_get (head.getD p 0) (row.getD p 0) row head (by rw [a.1, b.1]) i
          rw [List.getD_eq_getElem?_getD, List.getElem?_eq_getElem hi, Option.getD_some] at e
          rw [e, big]
          have q0 : (0 : Int).natAbs < 2 ^ (91 * 2 ^ p - 1) := Nat.pow_pos (by decide)
          have x1 := getD_mem (i := i) (P := fun v => v.natAbs < 2 ^ (91 * 2 ^ p - 1)) q0 a.2
          have x2 := getD_mem (i := p) (P := fun v => v.natAbs < 2 ^ (91 * 2 ^ p - 1)) q0 a.2
          have x3 := getD_mem (i := i) (P := fun v => v.natAbs < 2 ^ (91 * 2 ^ p - 1)) q0 b.2
          have x4 := getD_mem (i := p) (P := fun v => v.natAbs < 2 ^ (91 * 2 ^ p - 1)) q0 b.2
          have y1 := Nat.mul_lt_mul'' x1 x4
          have y2 := Nat.mul_lt_mul'' x3 x2
          rw [← Int.natAbs_mul] at y1 y2
          rw [Nat.pow_succ, Nat.pow_add]
          omega
/-! ### rows of a rank that is known -/
structure Ranked (w r : Nat) (M : List Vec) : Prop where
  ex : ∃ E, Ech w E ∧ E.length = r ∧ (∀ row ∈ M, ∃ g : Vec, g.length = r ∧ row = comb w g E) ∧ ∀ e ∈ E, e ∈ M
theorem Ranked.ker {w r : Nat} {M : List Vec} (h : Ranked w r M) : ∃ E, Ech w E ∧ E.length = r ∧ ∀ x : Vec, x.length = w → ((∀ r ∈ M, dot x r = 0) ↔ ∀ e ∈ E, dot x e = 0) := by
  obtain ⟨E, hE, hl, h1, h2⟩ := h.ex
  refine ⟨E, hE, hl, fun x hx => ⟨fun H e he => H e (h2 e he), fun H row hr => ?_⟩⟩
  obtain ⟨g, gl, rfl⟩ := h1 row hr
  rw [dot_comm, dot_comb w x g E hE.len]
  refine dot_noughts (n := 0) _ fun b hb => ?_
  obtain ⟨e, he, rfl⟩ := List.mem_map.mp hb
  rw [dot_comm]
  exact H e he
theorem Ranked.len {w r : Nat} {M : List Vec} (h : Ranked w r M) : ∀ row ∈ M, row.length = w := fun row hr => by
  obtain ⟨E, hE, _, h1, _⟩ := h.ex
  obtain ⟨g, _, rfl⟩ := h1 row hr
  exact comb_len w g E hE.len
theorem Ranked.rank {w r : Nat} {M : List Vec} (h : Ranked w r M) : (heldM w M).length + r = w := by
  obtain ⟨E, hE, hl, k⟩ := h.ker
  rw [← hl]
  exact rank_eq hE k
theorem comb_unit {w r i : Nat} {E : List Vec} (hE : ∀ e ∈ E, e.length = w) (hl : E.length = r) {e : Vec} (h : E[i]? = some e) : comb w (unit r i) E = e := by
  refine ext_get (by rw [comb_len w _ _ hE, hE e (List.mem_of_getElem? h)]) fun j => ?_
  rw [get_comb w j _ _ hE, dot_comm, dot_unit (by rw [List.length_map, hl])]
  rw [List.getD_eq_getElem?_getD, List.getElem?_map, h]
  rfl
theorem ech_ind {w : Nat} : ∀ {E : List Vec}, Ech w E → ∀ a : Vec, a.length = E.length → (∀ j, dot a (E.map fun h => h.getD j 0) = 0) → Zr a
  | _, .nil, a, h, _ => by
    have : a = [] := List.eq_nil_of_length_eq_zero (by simpa using h)
    intro i
    simp [this]
  | e :: es, .cons (p := p) len nz z r, a :: as, h, H => by
    have z0 : dot as (es.map fun h => h.getD p 0) = 0 := dot_noughts (n := 0) _ fun b hb => by
      obtain ⟨e', he', rfl⟩ := List.mem_map.mp hb
      exact z e' he'
    have a0 : a = 0 := by
      have := H p
      simp only [List.map_cons, dot, z0] at this
      have t : a * e.getD p 0 = 0 := by omega
      exact (Int.mul_eq_zero.mp t).resolve_right nz
    have ih := ech_ind r as (by simpa using h) fun j => by
      have := H j
      simp only [List.map_cons, dot, a0] at this
      omega
    intro i
    cases i with
    | zero => simpa using a0
    | succ i => simpa using ih i
  | e :: es, .cons _ _ _ _, [], h, _ => by simp at h
theorem choose_list {α : Type} {M : List Vec} {Q : α → Prop} {f : α → Vec} (h : ∀ row ∈ M, ∃ g, Q g ∧ row = f g) : ∃ Gs : List α, M = Gs.map f ∧ ∀ g ∈ Gs, Q g := by
  induction M with
  | nil => exact ⟨[], rfl, fun _ h => absurd h List.not_mem_nil⟩
  | cons a M ih =>
    obtain ⟨Gs, e, q⟩ := ih fun row hr => h row (List.mem_cons_of_mem _ hr)
    obtain ⟨g, qg, eg⟩ := h a List.mem_cons_self
    refine ⟨g :: Gs, by rw [List.map_cons, ← e, ← eg], fun g' hg' => ?_⟩
    cases List.mem_cons.mp hg' with
    | inl z => rw [z]; exact qg
    | inr m => exact q g' m
theorem Ranked.cols {w r : Nat} {M : List Vec} (h : Ranked w r M) : (heldM M.length ((List.range w).map fun j => M.map fun row => row.getD j 0)).length + r = M.length := by
  obtain ⟨E, hE, hl, h1, h2⟩ := h.ex
  obtain ⟨Gs, eM, hG⟩ := choose_list h1
  have lenM : M.length = Gs.length := by rw [eM, List.length_map]
  have hGl : ∀ g ∈ Gs, g.length = r := hG
  let F : Nat → Vec := fun i => Gs.map fun g => g.getD i 0
  -- each F i has a place of its own
  have own : ∀ i, i < r → ∃ k, ∀ i', i' < r → (F i').getD k 0 = if i' = i then 1 else 0 := by
    intro i hi
    have hEi := List.getElem?_eq_getElem (l := E) (i := i) (by omega)
    generalize E[i]'(by omega) = e at hEi
    have hm : e ∈ M := h2 e (List.mem_of_getElem? hEi)
    rw [eM] at hm
    obtain ⟨g, hg, eg⟩ := List.mem_map.mp hm
    obtain ⟨k, hk⟩ := List.mem_iff_getElem?.mp hg
    have gu : Zr (lin 1 1 g (unit r i)) := by
      refine ech_ind hE _ (by rw [lin_len (hGl g hg) (unit_len r i), hl]) fun j => ?_
      rw [dot_lin _ _ _ _ _ (by rw [hGl g hg, unit_len]), ← get_comb w j g E hE.len, ← get_comb w j (unit r i) E hE.len, comb_unit hE.len hl hEi, eg]
      omega
    refine ⟨k, fun i' hi' => ?_⟩
    have e1 : (F i').getD k 0 = g.getD i' 0 := by
      rw [List.getD_eq_getElem?_getD, List.getElem?_map, hk]
      rfl
    have e2 := gu i'
    rw [lin_get _ _ _ _ (by rw [hGl g hg, unit_len]), unit_get] at e2
    rw [e1]
    by_cases z : i' = i
    · rw [if_pos ⟨hi', z⟩] at e2; rw [if_pos z]; omega
    · rw [if_neg fun q => z q.2] at e2; rw [if_neg z]; omega
  have ech : ∀ n s, s + n = r → Ech M.length ((List.range' s n).map F) := by
    intro n
    induction n with
    | zero => intro s _; exact .nil
    | succ n ih =>
      intro s hs
      obtain ⟨k, hk⟩ := own s (by omega)
      rw [List.range'_succ, List.map_cons]
      refine .cons (p := k) (by rw [lenM]; simp [F]) (by rw [hk s (by omega), if_pos rfl]; decide) (fun e' he' => ?_) (ih (s + 1) (by omega))
      obtain ⟨i', hi', rfl⟩ := List.mem_map.mp he'
      rw [List.mem_range'_1] at hi'
      rw [hk i' (by omega), if_neg (by omega)]
  have fin := rank_eq (rows := (List.range w).map fun j => M.map fun row => row.getD j 0) (ech r 0 (by omega)) fun y hy => by
    have key : ∀ j, dot y (M.map fun row => row.getD j 0) = dot (comb r y Gs) (E.map fun h => h.getD j 0) := fun j => by
      rw [eM, List.map_map, dot_comb r _ y Gs hGl]
      congr 1
      refine List.map_congr_left fun g hg => ?_
      exact get_comb w j g E hE.len
    have fk : ∀ i, dot y (F i) = (comb r y Gs).getD i 0 := fun i => (get_comb r i y Gs hGl).symm
    constructor
    · intro H e he
      obtain ⟨i, hi, rfl⟩ := List.mem_map.mp he
      rw [fk i]
      refine ech_ind hE _ (by rw [comb_len r y Gs hGl, hl]) (fun j => ?_) i
      by_cases hj : j < w
      · rw [← key j]
        exact H _ (List.mem_map.mpr ⟨j, List.mem_range.mpr hj, rfl⟩)
      · refine dot_noughts (n := 0) _ fun b hb => ?_
        obtain ⟨e, he, rfl⟩ := List.mem_map.mp hb
        rw [List.getD_eq_getElem?_getD, List.getElem?_eq_none (by rw [hE.len e he]; omega)]
        rfl
    · intro H c hc
      obtain ⟨j, hj, rfl⟩ := List.mem_map.mp hc
      rw [key j]
      refine dot_zr (fun i => ?_) _
      by_cases hi : i < r
      · rw [← fk i]
        exact H _ (List.mem_map.mpr ⟨i, by rw [List.mem_range'_1]; omega, rfl⟩)
      · rw [List.getD_eq_getElem?_getD, List.getElem?_eq_none (by rw [comb_len r y Gs hGl]; omega)]
        rfl
  rw [List.length_map, List.length_range'] at fin
  exact fin
/-! ### points with a 1 behind -/
theorem dot_snoc : ∀ (x p : Vec) (t c : Int), x.length = p.length → dot (x ++ [t]) (p ++ [c]) = dot x p + t * c
  | [], [], t, c, _ => by simp [dot]
  | a :: as, b :: bs, t, c, h => by
    have ih := dot_snoc as bs t c (by simpa using h)
    simp only [List.cons_append, dot, ih]
    omega
def addV (a b : Vec) : Vec := List.zipWith (· + ·) a b
theorem dot_add : ∀ (a b x : Vec), a.length = b.length → dot x (addV a b) = dot x a + dot x b
  | [], [], x, _ => by simp [addV, dot_nil_r]
  | a :: as, b :: bs, [], _ => by simp [dot_nil_l]
  | a :: as, b :: bs, x :: xs, h => by
    have ih := dot_add as bs xs (by simpa using h)
    simp only [addV] at ih
    simp only [addV, List.zipWith_cons_cons, dot, ih]
    grind
theorem ech_snoc {w : Nat} : ∀ {E : List Vec}, Ech w E → Ech (w + 1) (E.map (· ++ [0]))
  | _, .nil => .nil
  | e :: es, .cons (p := p) len nz z r => by
    have hp : p < w := by
      refine Nat.lt_of_not_le fun h => nz ?_
      rw [List.getD_eq_getElem?_getD, List.getElem?_eq_none (by omega)]
      rfl
    have g : ∀ v : Vec, v.length = w → (v ++ [0]).getD p 0 = v.getD p 0 := fun v hv => by
      rw [List.getD_eq_getElem?_getD, List.getD_eq_getElem?_getD, List.getElem?_append_left (by omega)]
    rw [List.map_cons]
    refine .cons (p := p) (by simp [len]) (by rw [g e len]; exact nz) (fun e' he' => ?_) (ech_snoc r)
    obtain ⟨e0, h0, rfl⟩ := List.mem_map.mp he'
    rw [g e0 (r.len e0 h0)]
    exact z e0 h0
theorem span_eq {w : Nat} {pts D E : List Vec} {p0 : Vec} (hE : Ech w E) (h0 : p0.length = w) (hD : ∀ d ∈ D, d.length = w)
    (hk : ∀ x : Vec, x.length = w → ((∀ r ∈ D, dot x r = 0) ↔ ∀ e ∈ E, dot x e = 0))
    (m0 : p0 ∈ pts) (m1 : ∀ p ∈ pts, p = p0 ∨ ∃ d ∈ D, p = addV p0 d) (m2 : ∀ d ∈ D, addV p0 d ∈ pts) :
    (heldM (w + 1) (pts.map (· ++ [1]))).length + (E.length + 1) = w + 1 := by
  have ech : Ech (w + 1) ((p0 ++ [1]) :: E.map (· ++ [0])) := by
    refine .cons (p := w) (by simp [h0]) ?_ (fun e' he' => ?_) (ech_snoc hE)
    · rw [List.getD_eq_getElem?_getD, List.getElem?_append_right (by omega), h0]
      simp
    · obtain ⟨e0, h0, rfl⟩ := List.mem_map.mp he'
      rw [List.getD_eq_getElem?_getD, List.getElem?_append_right (by rw [hE.len e0 h0]; omega), hE.len e0 h0]
      simp
  have := rank_eq (rows := pts.map (· ++ [1])) ech fun x hx => by
    obtain ⟨x', t, rfl⟩ : ∃ x' t, x = x' ++ [t] := ⟨x.dropLast, x.getLast (fun z => by rw [z] at hx; simp at hx), (List.dropLast_concat_getLast _).symm⟩
    have hx' : x'.length = w := by simpa using hx
    have f : ∀ p : Vec, p.length = w → ∀ c, dot (x' ++ [t]) (p ++ [c]) = dot x' p + t * c := fun p hp c => dot_snoc x' p t c (by rw [hx', hp])
    have fa : ∀ d ∈ D, dot (x' ++ [t]) (addV p0 d ++ [1]) = dot (x' ++ [t]) (p0 ++ [1]) + dot x' d := fun d hd => by
      rw [f _ (by simp [addV, h0, hD d hd]), f _ h0, dot_add p0 d x' (by rw [h0, hD d hd])]
      omega
    constructor
    · intro H e he
      have k0 := H _ (List.mem_map.mpr ⟨p0, m0, rfl⟩)
      cases List.mem_cons.mp he with
      | inl z => rw [z]; exact k0
      | inr m =>
        obtain ⟨e0, he0, rfl⟩ := List.mem_map.mp m
        rw [f e0 (hE.len e0 he0), (hk x' hx').mp (fun d hd => ?_) e0 he0]
        · omega
        · have := H _ (List.mem_map.mpr ⟨_, m2 d hd, rfl⟩)
          rw [fa d hd, k0] at this
          omega
    · intro H p hp
      obtain ⟨q, hq, rfl⟩ := List.mem_map.mp hp
      have k0 := H _ List.mem_cons_self
      cases m1 q hq with
      | inl z => rw [z]; exact k0
      | inr m =>
        obtain ⟨d, hd, rfl⟩ := m
        rw [fa d hd, k0]
        have := (hk x' hx').mpr (fun e he => ?_) d hd
        · rw [this]; omega
        · have := H _ (List.mem_cons_of_mem _ (List.mem_map.mpr ⟨e, he, rfl⟩))
          rw [f e (hE.len e he)] at this
          omega
  rw [List.length_cons, List.length_map] at this
  exact this
end K3


set_option linter.all false
namespace K3
theorem ech_of {w : Nat} : ∀ (E : List Vec) (P : List Nat), E.length ≤ P.length → (∀ (t : Nat) (e : Vec) (p : Nat), E[t]? = some e → P[t]? = some p → e.length = w ∧ e.getD p 0 ≠ 0) →
    (∀ (s t : Nat) (e : Vec) (p : Nat), s < t → E[t]? = some e → P[s]? = some p → e.getD p 0 = 0) → Ech w E
  | [], _, _, _, _ => .nil
  | e :: es, [], h, _, _ => by simp at h
  | e :: es, p :: ps, h, h1, h2 => by
    obtain ⟨l, n⟩ := h1 0 e p rfl rfl
    refine .cons (p := p) l n (fun e' he' => ?_) (ech_of es ps (by simpa using h) (fun t e' p' a b => h1 (t + 1) e' p' a b) fun s t e' p' hs a b => h2 (s + 1) (t + 1) e' p' (by omega) a b)
    obtain ⟨t, ht⟩ := List.mem_iff_getElem?.mp he'
    exact h2 0 (t + 1) e' p (by omega) ht rfl
theorem dot_snoc' : ∀ (x p : Vec) (t c : Int), x.length = p.length → dot (x ++ [t]) (p ++ [c]) = dot x p + t * c := dot_snoc
theorem comb_snoc {w : Nat} {g : Vec} {E : List Vec} {e : Vec} {by_ : Int} (hE : ∀ v ∈ E, v.length = w) (he : e.length = w) (hl : g.length = E.length) :
    List.zipWith (fun mine its => mine + by_ * its) (comb w g E) e = comb w (g ++ [by_]) (E ++ [e]) := by
  have hE' : ∀ v ∈ E ++ [e], v.length = w := fun v hv => by
    rcases List.mem_append.mp hv with m | m
    · exact hE v m
    · rw [List.mem_singleton.mp m]; exact he
  have l1 := comb_len w g E hE
  refine ext_get (by rw [comb_len w _ _ hE', List.length_zipWith, l1, he]; omega) fun i => ?_
  rw [get_comb w i _ _ hE', List.map_append, List.map_singleton, dot_snoc g _ by_ _ (by rw [List.length_map, hl]), ← get_comb w i g E hE]
  by_cases hi : i < w
  · have h1 : i < (comb w g E).length := by omega
    have h2 : i < e.length := by omega
    simp only [List.getD_eq_getElem?_getD, List.getElem?_zipWith, List.getElem?_eq_getElem h1, List.getElem?_eq_getElem h2, Option.getD_some]
  · have h1 : (comb w g E).length ≤ i := by omega
    have h2 : e.length ≤ i := by omega
    simp only [List.getD_eq_getElem?_getD, List.getElem?_zipWith, List.getElem?_eq_none h1, List.getElem?_eq_none h2, Option.getD_none]
    simp
theorem comb_nil (w : Nat) : comb w [] [] = List.replicate w 0 := rfl
theorem zip_bound {w B C D : Nat} {x e : Vec} {b : Int} (hb : b.natAbs ≤ 2) (hx : ∀ v ∈ x, v.natAbs ≤ B) (he : ∀ v ∈ e, v.natAbs ≤ C) (hD : B + 2 * C ≤ D) : ∀ v ∈ List.zipWith (fun mine its => mine + b * its) x e, v.natAbs ≤ D := by
  intro v hv
  obtain ⟨i, hi, rfl⟩ := List.mem_iff_getElem.mp hv
  rw [List.length_zipWith] at hi
  rw [List.getElem_zipWith]
  have a1 := hx _ (List.getElem_mem (by omega : i < x.length))
  have a2 := he _ (List.getElem_mem (by omega : i < e.length))
  have a3 : (b * e[i]).natAbs ≤ 2 * C := by rw [Int.natAbs_mul]; exact Nat.mul_le_mul hb a2
  have a4 := Int.natAbs_add_le x[i] (b * e[i])
  omega
theorem set_get {x : Vec} {p i : Nat} {v : Int} : (x.set p v).getD i 0 = if i = p ∧ p < x.length then v else x.getD i 0 := by
  simp only [List.getD_eq_getElem?_getD, List.getElem?_set]
  by_cases h : p = i
  · subst h
    by_cases h2 : p < x.length
    · simp [h2]
    · simp [h2]
  · have : ¬ (i = p ∧ p < x.length) := fun z => h z.1.symm
    rw [if_neg h, if_neg this]
theorem set_bound {x : Vec} {p : Nat} {v : Int} {B : Nat} (hv : v.natAbs ≤ B) (hx : ∀ b ∈ x, b.natAbs ≤ B) : ∀ b ∈ x.set p v, b.natAbs ≤ B := fun b hb => by
  rcases List.mem_or_eq_of_mem_set hb with m | e
  · exact hx b m
  · rw [e]; exact hv
def zeroAt (x : Vec) (ps : List Nat) : Vec := ps.foldl (fun x p => x.set p 0) x
theorem zeroAt_len : ∀ (ps : List Nat) (x : Vec), (zeroAt x ps).length = x.length
  | [], x => rfl
  | p :: ps, x => by
    show (zeroAt (x.set p 0) ps).length = _
    rw [zeroAt_len ps, List.length_set]
theorem zeroAt_snoc (x : Vec) (ps : List Nat) (p : Nat) : zeroAt x (ps ++ [p]) = (zeroAt x ps).set p 0 := by
  unfold zeroAt
  rw [List.foldl_append]
  rfl
theorem zeroAt_bound {B : Nat} : ∀ (ps : List Nat) (x : Vec), (∀ b ∈ x, b.natAbs ≤ B) → ∀ b ∈ zeroAt x ps, b.natAbs ≤ B
  | [], x, h => h
  | p :: ps, x, h => zeroAt_bound ps (x.set p 0) (set_bound (Nat.zero_le _) h)
theorem zeroAt_keep : ∀ (ps : List Nat) (x : Vec) (i : Nat), x.getD i 0 = 0 → (zeroAt x ps).getD i 0 = 0
  | [], x, i, h => h
  | p :: ps, x, i, h => zeroAt_keep ps (x.set p 0) i (by
    rw [set_get]
    split
    · rfl
    · exact h)
theorem zeroAt_get : ∀ (ps : List Nat) (x : Vec) (i : Nat), i ∈ ps → (zeroAt x ps).getD i 0 = 0
  | p :: ps, x, i, h => by
    cases List.mem_cons.mp h with
    | inl e =>
      subst e
      refine zeroAt_keep ps _ i ?_
      rw [set_get]
      split
      · rfl
      · rename_i n
        have : ¬ i < x.length := fun z => n ⟨rfl, z⟩
        rw [List.getD_eq_getElem?_getD, List.getElem?_eq_none (by omega)]
        rfl
    | inr m => exact zeroAt_get ps _ i m
end K3


set_option Elab.async false
set_option linter.all false
set_option maxRecDepth 100000
set_option maxHeartbeats 2000000
namespace K0
open PySem PySem.Spec PyProof.Rows L2

/-- a def's promise where no repr is under way around the call -/
structure FnG (P : Program) (w : World) (K : PySem.W.Frag) (mg : Str → Option Value) (base : Heap)
    (k : Nat) (f : Addr) (fd : FuncData) (ps : List Str) (sp : Sp) : Prop where
  len : ∀ vs H Q E, sp vs H Q E → vs.length = ps.length
  go : ∀ (A : Around) (outer : List Env) (s : Shared) (H : Hp) (args : Args) (us : List Value)
    (vs : List V) (Q : VK) (E : XK), A.guards = some [] → Room k A → Env0 P w K mg base A outer s H →
    BindsTo s fd args (ps.zip us) → Vals vs us → sp vs H Q E →
    codeAny (model P w) A (.call (.ref f) args) (CR CX0 outer P w H s Q E) s

theorem FnG.of {P : Program} {w : World} {K : PySem.W.Frag} {mg : Str → Option Value} {base : Heap}
    {k : Nat} {f : Addr} {fd : FuncData} {ps : List Str} {sp : Sp}
    (F : FnOk P w K mg base CX0 k f fd ps sp) : FnG P w K mg base k f fd ps sp :=
  ⟨F.len, fun A outer s H args us vs Q E _ => F.run A outer s H args us vs Q E⟩

theorem Fun_okG {P : Program} {w : World} {K : PySem.W.Frag} {mg : Str → Option Value} {base : Heap}
    {x qual : Str} {st : Stmt} {f : Addr} {fd : FuncData} {N ps : List Str} {k : Nat} {sp : Sp}
    (F : Fun K x qual st f fd) (S : FnScope N ps (defScope st))
    (len : ∀ vs H Q E, sp vs H Q E → vs.length = ps.length)
    (hbody : ∀ (cdv : Value) (A : Around) (outer : List Env) (s : Shared) (H : Hp) (vs : List V) (Q : VK) (E : XK),
      A.guards = some [] → Room k (A.deeper (envOfC qual (defScope st) s.heap.objs.size f cdv)) → sp vs H Q E →
      ∃ t, PSs (cxOf CX0 P w K mg base N qual (defScope st) f cdv A outer s H E) (defBody st) t ∧
        t { nx := fun _ H' => Q .non H', rt := Q } (start N vs) H) :
    FnG P w K mg base (k + 1) f fd ps sp := by
  obtain ⟨oc, od, kV, doc, pm, an, cdv, ct, osl, rfl, lk, hcd⟩ := F.ex
  refine ⟨len, ?_⟩
  intro A outer s H args us vs Q E hg hr e0 hb r hsp
  have kept : ∀ b o, base.get? b = some o → s.heap.get? b = some o := fun b o e => (e0.bs b o e).1
  have KX : K.In s.heap := e0.mod.kin.keeps kept
  have lim : s.heap.NoLimit := e0.mod.nolimit.keeps kept
  refine codeAny_call_function hr.depth (KX _ _ lk) rfl S.co S.gen rfl
    (PySem.W.codeRec_of KX hcd) (hb _ _ _ _ ?_)
  refine wpAny_newFunctionEnv_cells S.kind ?_ ?_
  · rintro ⟨n, v⟩ hy
    cases S.par n (List.of_mem_zip hy).1 with
    | inl q => exact Or.inl q
    | inr q => exact Or.inr ⟨q, PySem.W.cellsFrom_some _ _ _ (Or.inl q)⟩
  · intro env he s1 x
    subst he
    obtain ⟨t, ht, hq⟩ := hbody cdv A outer s H vs Q E hg (hr.deeper _) hsp
    refine ⟨lim.keeps x.toInCall.keep, codeAny_func ?_⟩
    have I := inv_start (CX := CX0) (E := E) (N := N) (cd := cdv) S hr.hd e0 (len _ _ _ _ hsp) r x
    refine wpAny_mono (ht.run [] s1 (start N vs) H _ I hq) ?_ (fun _ _ z => z)
    intro fl s' hs
    cases fl with
    | ret u =>
      obtain ⟨v, σ', H', J, rv, q⟩ := hs
      exact ⟨v, H', J.os, J.bare, J.base, J.hok, rv, q⟩
    | next =>
      obtain ⟨σ', H', J, q⟩ := hs
      exact ⟨.non, H', J.os, J.bare, J.base, J.hok, rfl, q⟩
    | brk =>
      obtain ⟨_, _, _, q⟩ := hs
      cases q
    | cont =>
      obtain ⟨_, _, _, q⟩ := hs
      cases q

section
variable {X : Cx} {k : Nat} {f : Addr} {fd : FuncData} {ps : List Str} {sp : Sp} {x : Str} {p pos : Pos} {e : Expr} {es : List Expr} {t : TA}
/-- a call of such a def, by place -/
theorem pe_callG (F : FnG X.prog X.w X.K X.mg X.base k f fd ps sp) (hG : X.A.guards = some []) (hr : Room k X.A) (hg : Gl X x)
    (hm : X.mg x = some (.ref f)) (hk : PySem.W.keepIn X.K (.ref f) = true) (hb : Binds X.K fd ps []) (ha : PA X (e :: es) t)
    (hdb : (x == ("__debug__" : Str)) = false := by decide)
    (he : starEach (e :: es) X.env = (false, eval e X.env) :: starEach es X.env := by rfl)
    (hpl : (backTo pos (starEach es X.env)).any (·.1) = false := by rfl) :
    PE X (.Call (.Name x p) (e :: es) [] pos) (fun σ H Q => t σ H fun vs H1 => sp vs H1 Q E0) := by
  refine ⟨fun pins s σ H Q I h => wpAny_Call_Name_kw (ld_glob I hg hm ?_ hdb)⟩
  refine PySem.W.callWith_K (h₀ := X.base) I.ok.mod.kin hk
    (thn (ha.run pos pins s σ H _ I h) ?_) he hpl
  rintro us s1 ⟨vs, H1, I1, r, q⟩
  have hl : us.length = ps.length := r.length.symm.trans (F.len _ _ _ _ q)
  have hb1 := hb s1 us I1.kIn (by rw [List.append_nil]; exact hl)
  rw [List.append_nil] at hb1
  refine ⟨I1.kIn, wpAny_call (codeAny_mono (F.go X.A X.stack s1 H1 ⟨us, []⟩ us vs Q E0 hG hr I1.env0 hb1 r q) ?_)⟩
  intro r' s' hq
  cases r' with
  | error e' => cases hq
  | ok fl =>
    cases fl with
    | ret u => exact I1.after hq
    | next => cases hq
    | brk => cases hq
    | cont => cases hq
end
end K0


set_option Elab.async false
set_option linter.all false
set_option maxRecDepth 100000
set_option maxHeartbeats 2000000
namespace K0
open PySem PySem.Spec PyProof.Rows L2

/-- what a value of the law's own draws shows: data without dicts, or a dict of no or one pair -/
inductive It (K : PySem.W.Frag) (H : Hp) : V → PyData → Prop
  | dp {v : V} {d : PyData} (h : Dp K H v d) (n : d.hasDict = false) : It K H v d
  | d0 {a : Addr} (h : H a = some (.dK [])) : It K H (.ref a) (.dict [])
  | d1 {a : Addr} {n : Int} {x : Str} (h : H a = some (.dK [(Sum.inl n, .str x)])) : It K H (.ref a) (.dict [(.int n, .str x)])

section
variable {X : Cx} {pins : List (Addr × Obj)} {σ : L2.St} {H : Hp} {s : Shared}
theorem It.rd (I : Inv X pins σ H s) {v : V} {d : PyData} {u : Value} (h : It X.K H v d) (r : RelV v u) :
    ∃ as, Reads s.heap u d as ∧ (d.hasDict = true → sysModules ∉ as) := by
  cases h with
  | dp hd hn =>
    obtain ⟨as, q⟩ := Dp.reads I d v u hd r
    exact ⟨as, q, fun z => by rw [hn] at z; cases z⟩
  | @d0 a h =>
    cases r
    obtain ⟨_, hsm, vs, kv, o, es, ep, ho, hx, hd, _, hp, _⟩ := I.hok a _ h
    cases kv
    have e : es.toList = [] := List.eq_nil_of_length_eq_zero hp.length
    refine ⟨_, Reads.dict (kvs := []) (as := []) (bs := []) ho hx.1 hd (by rw [e]; exact .nil) (by rw [e]; exact .nil), fun _ => ?_⟩
    have hne : a ≠ sysModules := by simpa using hsm
    simpa using Ne.symm hne
  | @d1 a n x h =>
    cases r
    obtain ⟨_, hsm, vs, kv, o, es, ep, ho, hx, hd, _, hp, _⟩ := I.hok a _ h
    have hne : a ≠ sysModules := by simpa using hsm
    cases kv with
    | @cons _ y _ _ q qs =>
      cases qs
      obtain ⟨q1, q2⟩ := q
      have q1' : y.1 = Sum.inl n := q1.symm
      obtain ⟨t, q2'⟩ := q2
      obtain ⟨l⟩ := es
      cases hp with
      | @cons en _ _ _ p1 p2 p3 =>
        cases p3
        rw [q1', mixKind_is] at p1
        obtain ⟨t', e'⟩ := Value.isInt_shape (k := n) (v := en.key) p1
        refine ⟨_, Reads.dict (kvs := [(.int n, .str x)]) (as := []) (bs := []) ho hx.1 hd ?_ ?_, fun _ => ?_⟩
        · show ReadsAll s.heap [en.key] [.int n] []
          rw [e']
          exact ReadsAll.cons (as := []) (bs := []) (.int n t') .nil
        · show ReadsAll s.heap [en.val] [.str x] []
          rw [p2, q2']
          exact ReadsAll.cons (as := []) (bs := []) (.str x t) .nil
        · simpa using Ne.symm hne
end

/-- what a shown value asks: its numbers not too long, not too deep, its text not too long -/
structure Short (d : PyData) : Prop where
  sh : d.showable = true
  dp : d.depth ≤ 20
  ln : d.shown.length ≤ 1000000

theorem lineOk : 1000000 ≤ sizeLine := by rw [sizeLine_eq]; decide

/-- repr(x), x as told -/
def rRepr (K : PySem.W.Frag) : List V → Hp → VK → Prop := fun xs H Q => ∃ (v : V) (d : PyData), xs = [v] ∧ It K H v d ∧ Short d ∧ Q (.str d.shown) H
/-- repr of a list of two -/
def rRepr2 (K : PySem.W.Frag) : List V → Hp → VK → Prop := fun xs H Q => ∃ (l : Addr) (v1 v2 : V) (d1 d2 : PyData), xs = [.ref l] ∧ H l = some (.lst [v1, v2]) ∧
  It K H v1 d1 ∧ It K H v2 d2 ∧ Short d1 ∧ Short d2 ∧ Q (.str (listText [d1.shown, d2.shown])) H

section
variable {X : Cx}
theorem call_repr (hg : X.A.guards = some []) (hu : X.A.units + 64 < cLine) : CallR X (.builtin "repr") (rRepr X.K) := by
  intro pins s σ H xs us Q I r h
  obtain ⟨v, d, rfl, hd, ⟨hs, hdp, hz⟩, q⟩ := h
  have hz' : d.shown.length ≤ sizeLine := Nat.le_trans hz lineOk
  obtain ⟨u, rfl, ru⟩ := vals1 r
  have fin : ∀ tk t, EP X pins σ Q (.str d.shown t) { s with toks := tk } := fun tk t => ⟨.str d.shown, H, I.tok tk, ⟨t, rfl⟩, q⟩
  obtain ⟨as, rd, hn⟩ := It.rd I hd ru
  have big : ∀ a, u = .ref a → wpAny (model X.prog X.w) X.A (call (.builtin "repr") [u]) (EP X pins σ Q) X.xe s := by
    intro a e
    subst e
    refine PySem.repr_of_reads' rd hs hn hg (by omega) (fun _ _ z => z) (fun h' t tk hk => ?_) hz'
    exact ⟨.str d.shown, H, I.kept (t' := tk) hk, ⟨t, rfl⟩, q⟩
  cases rd with
  | none => exact PySem.P.repr_of_none (by simpa only [PyData.shown] using fin _ _)
  | bool b => exact PySem.P.repr_of_bool (by simpa only [PyData.shown] using fin _ _)
  | int i t =>
    refine PySem.P.repr_of_int ?_ (by simpa only [PyData.shown] using fin _ _)
    simpa only [PyData.showable, decide_eq_true_eq] using hs
  | str x t => exact PySem.P.repr_of_str (by simpa only [PyData.shown] using fin _ _) (by simpa only [PyData.shown] using hz')
  | list => exact big _ rfl
  | tuple => exact big _ rfl
  | dict => exact big _ rfl

theorem pair_len (x y : Str) : (listText [x, y]).length = x.length + y.length + 4 := by
  show (((Str.ofString "[" ++ Str.ofString "" ++ x) ++ Str.ofString ", " ++ y) ++ Str.ofString "]").length = _
  have e0 : (Str.ofString "").length = 0 := by decide
  have e1 : (Str.ofString "[").length = 1 := by decide
  have e2 : (Str.ofString "]").length = 1 := by decide
  have e3 : (Str.ofString ", ").length = 2 := by decide
  simp only [Str.length_append, e0, e1, e2, e3]
  omega

theorem call_repr2 (hg : X.A.guards = some []) (hu : X.A.units + 64 < cLine) : CallR X (.builtin "repr") (rRepr2 X.K) := by
  intro pins s σ H xs us Q I r h
  obtain ⟨l, v1, v2, d1, d2, rfl, hl, t1, t2, ⟨a1, a2, a3⟩, ⟨b1, b2, b3⟩, q⟩ := h
  obtain ⟨u, rfl, ru⟩ := vals1 r
  cases ru
  obtain ⟨its, rv, ⟨o, n, ho, hc, _, hd⟩, _⟩ := I.list (SqL.of hl)
  obtain ⟨u1, u2, rfl, r1, r2⟩ := vals2 rv
  obtain ⟨as1, rd1, n1⟩ := It.rd I t1 r1
  obtain ⟨as2, rd2, n2⟩ := It.rd I t2 r2
  have z1 : d1.shown.length ≤ sizeLine := Nat.le_trans a3 lineOk
  have z2 : d2.shown.length ≤ sizeLine := Nat.le_trans b3 lineOk
  obtain ⟨bs1, m1, k1⟩ := ReprK.of_reads (prog := X.prog) (w := X.w) rd1 a1 n1 z1
  obtain ⟨bs2, m2, k2⟩ := ReprK.of_reads (prog := X.prog) (w := X.w) rd2 b1 n2 z2
  have rl : Reads s.heap (.ref l) (.list [d1, d2]) _ := Reads.list ho hc hd (.cons rd1 (.cons rd2 .nil))
  have hm : ReadAtMost s.heap (max d1.depth d2.depth) (bs1 ++ bs2) := by
    intro b hb
    cases List.mem_append.mp hb with
    | inl e =>
      obtain ⟨d', as', r', le⟩ := m1 b e
      exact ⟨d', as', r', Nat.le_trans le (Nat.le_max_left _ _)⟩
    | inr e =>
      obtain ⟨d', as', r', le⟩ := m2 b e
      exact ⟨d', as', r', Nat.le_trans le (Nat.le_max_right _ _)⟩
  have hna : l ∉ bs1 ++ bs2 := not_mem_of_deeper rl (by simp only [PyData.depth, PyData.depthAll]; omega) hm
  have ka : ReprK X.prog X.w (bs1 ++ bs2) s.heap (max d1.depth d2.depth) u1 d1.shown :=
    (k1.more fun b hb => List.mem_append_left _ hb).level_le (Nat.le_max_left _ _)
  have kb : ReprK X.prog X.w (bs1 ++ bs2) s.heap (max d1.depth d2.depth) u2 d2.shown :=
    (k2.more fun b hb => List.mem_append_right _ hb).level_le (Nat.le_max_right _ _)
  have hsz : (listText [d1.shown, d2.shown]).length ≤ sizeLine := by
    rw [pair_len, sizeLine_eq]
    omega
  have hmax : max d1.depth d2.depth ≤ 20 := Nat.max_le.mpr ⟨a2, b2⟩
  refine call_repr_slot (by omega) ⟨o, ho, hc⟩ F.slot_list_repr.toG ?_
  refine call_list_reprK (A := X.A.in1) (as := bs1 ++ bs2) (d := max d1.depth d2.depth) (ts := [d1.shown, d2.shown]) ho hc hd hna (by simp) ?_ hg
    (fun b _ => Clear.nil b) (by show X.A.units + 1 + _ < cLine; omega) (fun _ _ z => z) (fun h' t tk hk => ⟨_, _, rfl, ⟨.str _, H, I.kept (t' := tk) hk, ⟨t, rfl⟩, q⟩⟩) hsz
  intro i y hy
  match i, hy with
  | 0, hy =>
    have e : u1 = y := by simpa using hy
    exact ⟨_, rfl, e ▸ ka⟩
  | 1, hy =>
    have e : u2 = y := by simpa using hy
    exact ⟨_, rfl, e ▸ kb⟩
  | i + 2, hy => simp at hy
end
end K0


set_option Elab.async false
set_option linter.all false
set_option maxRecDepth 100000
set_option maxHeartbeats 4000000
namespace PySem
namespace K0x
open PySem.W PySem.Calls PyProof.Rows PySem.HandSPX
section
variable {M : Model} {prog : Program} {w : World} {A : Around} {E : Value → Shared → Prop} {R : Result → Shared → Prop}
  {h : Heap} {g : Array GenState} {d : Drawn} {t : Nat} {os : OsState}
variable {nm q : Str} {C N : Addr} {bs bm bmB : List Value} {hdct : Bool} {sn : List Str} {sub : List Value} {ab : Bool}
  {col : Option Bool} {dd : Option Addr} {k0 k1 k2 k3 k5 : Option Value} {B newId initId : String}

/-- an own exception class asked to make one, with keywords: the check of the built-in maker -/
theorem chk_new (F : ExcBaseFacts B newId initId bmB) (hT : ∀ X : String, bm.contains (.type X) = bmB.contains (.type X))
    {rest : List Value} {kw : List (Str × Value)} {Q : Unit → Shared → Prop}
    (hC : h.get? C = some (excClassObj nm q C N bs bm hdct sn sub ab col dd k0 k1 k2 k3 k5 newId)) (hq : Q () ⟨h, g, d, t, os⟩) :
    wpAny M A (checkBuiltinCall newId ⟨.ref C :: rest, kw⟩) Q E ⟨h, g, d, t, os⟩ := by
  have c1 : (Value.ref C :: bm).contains (.type B) = true := by
    rw [List.contains_cons, hT, F.hasB, Bool.or_true]
  have c2 := F.noStar
  simp only [checkBuiltinCall, F.newKind, F.newSplit, F.newRow]
  repeat (first
    | refine wpAny_loadPart_at hC ?_
    | (refine wpAny_isSubtype_exc hC ?_
       rw [c1])
    | refine wpAny_staticBase_exc hC ?_
    | refine wpAny_madeBy_exc hC ?_
    | simp only [bne_self_eq_false, Bool.false_eq_true, if_false]
    | wp_step)
  exact hq

theorem new_kw (F : ExcBaseFacts B newId initId bmB) (hT : ∀ X : String, bm.contains (.type X) = bmB.contains (.type X))
    {rest : List Value} {kw : List (Str × Value)}
    (hC : h.get? C = some (excClassObj nm q C N bs bm hdct sn sub ab col dd k0 k1 k2 k3 k5 newId))
    (hq : R (.ok (.ret (.ref (h.objs.size + 1)))) ⟨(h.push (kdv_tup rest)).push (excO C h.objs.size), g, d, t, os⟩)
    (hrest : rest.length ≤ sizeLine) :
    codeAny (model prog w) A (.builtin newId ⟨.ref C :: rest, kw⟩) R ⟨h, g, d, t, os⟩ := by
  have ends := F.ends
  have i1 : (Value.ref C :: bm).contains (.type B) = true := by
    rw [List.contains_cons, hT, F.hasB, Bool.or_true]
  have i2 : (Value.ref C :: bm).contains (.type "AttributeError") = false := by
    rw [List.contains_cons, hT, F.noAttr]
    rfl
  have i3 : (Value.ref C :: bm).contains (.type "NameError") = false := by
    rw [List.contains_cons, hT, F.noName]
    rfl
  refine codeAny_builtinAt F.entry ?_
  unfold Builtin.«BaseException.__new__»
  refine wpAt_bind ?_
  show wpAt _ _ _ (stack >>= _) _ _ _
  refine wpAt_bind (wpAt_stack fun p below => wpAt_of_wpAny ?_)
  wp_walk
  refine wpAt_of_wpAny ?_
  rw [F.owner]
  repeat (first
    | with_reducible refine wpAny_madeHere_exc F.canon hC ?_
    | with_reducible refine wpAny_loadPart_at hC ?_
    | (with_reducible refine wpAny_isSubtype_exc hC ?_
       first | rw [i1] | rw [i2] | rw [i3])
    | wp_step)
  show R _ _
  rw [Heap.size_push]
  exact hq

theorem type_kw (F : ExcBaseFacts B newId initId bmB) (hT : ∀ X : String, bm.contains (.type X) = bmB.contains (.type X))
    {rest : List Value} {kw : List (Str × Value)} {fI : Addr} {Q : Fin → Shared → Prop}
    (hC : h.get? C = some (excClassObj nm q C N bs bm hdct sn sub ab col dd k0 k1 k2 k3 k5 newId))
    (hi : W.Looks (model prog w) h (typeLookup (.ref C) "__init__") (some (.ref fI)))
    (hb : ∀ self, W.Looks (model prog w) h (bindSpecial (.ref fI) self) (.ref fI, [self])) (hrest : rest.length ≤ sizeLine)
    (hq : codeAny (model prog w) A (.call (.ref fI) ⟨.ref (h.objs.size + 1) :: rest, kw⟩)
      (fun r s' => match r with
        | .ok (.ret v) => v = .none ∧ Q (.done (.ret (.ref (h.objs.size + 1)))) s'
        | .ok _ => False
        | .error e => E e s')
      ⟨(h.push (kdv_tup rest)).push (excO C h.objs.size), g, d, t, os⟩) :
    wpAny (model prog w) A (Builtin.«type.__call__» ⟨.ref C :: rest, kw⟩) Q E ⟨h, g, d, t, os⟩ := by
  repeat (first
    | with_reducible refine wpAny_loadPart_at hC ?_
    | with_reducible refine wpAny_madeBy_exc hC ?_
    | wp_step)
  refine codeAny_call_builtin_code (Code.quiet_builtin _ F.quiet) (chk_new F hT hC ?_)
  refine new_kw F hT hC ?_ hrest
  show wpAny _ _ _ _ _ _
  have kp : ∀ b o, h.get? b = some o → ((h.push (kdv_tup rest)).push (excO C h.objs.size)).get? b = some o :=
    fun b o e => Heap.get?_push_of_some _ (Heap.get?_push_of_some _ e)
  have hC1 := kp _ _ hC
  have hx : ((h.push (kdv_tup rest)).push (excO C h.objs.size)).get? (h.objs.size + 1) = some (excO C h.objs.size) := by
    heap_get
  have self_in : (Value.ref C :: bm).contains (.ref C) = true := by
    simp
  have j1 := hi.keeps kp
  have j2 := (hb (.ref (h.objs.size + 1))).keeps kp
  unfold isInstance
  repeat (first
    | with_reducible refine wpAny_loadPart_at hx ?_
    | (with_reducible refine wpAny_isSubtype_exc hC1 ?_
       rw [self_in])
    | wp_step)
  show wpAny _ _ (typeLookup (.ref C) _) _ _ _
  refine j1.at ?_
  refine wpAny_holding (wpAny_bind (j2.at ?_))
  refine wpAny_bind (wpAny_call (codeAny_mono hq ?_))
  intro r s' z
  rcases r with e | (v | _ | _ | _) <;> first | exact z | exact z.elim | skip
  obtain ⟨rfl, z⟩ := z
  first
    | exact wpAny_pure (wpAny_pure z)
    | (wp_walk
       exact z)

theorem chk_type {rest : List Value} {kw : List (Str × Value)} {Q : Unit → Shared → Prop}
    (hC : h.get? C = some (excClassObj nm q C N bs bm hdct sn sub ab col dd k0 k1 k2 k3 k5 newId)) (hq : Q () ⟨h, g, d, t, os⟩) :
    wpAny M A (checkBuiltinCall "type.__call__" ⟨.ref C :: rest, kw⟩) Q E ⟨h, g, d, t, os⟩ := by
  have f3 := tc_sub
  have hTy : (⟨h, g, d, t, os⟩ : Shared).TypeIs (.ref C) "type" := ⟨_, hC, rfl⟩
  simp only [checkBuiltinCall, tc_kind, tc_split]
  repeat (any_goals (first
    | assumption
    | with_reducible refine wpAny_loadPart_at hC ?_
    | with_reducible refine wpAny_onRaise ?_
    | with_reducible refine wpAny_map ?_
    | wp_step))

theorem call_kw (F : ExcBaseFacts B newId initId bmB) (hT : ∀ X : String, bm.contains (.type X) = bmB.contains (.type X))
    {rest : List Value} {kw : List (Str × Value)} {fI : Addr}
    (hC : h.get? C = some (excClassObj nm q C N bs bm hdct sn sub ab col dd k0 k1 k2 k3 k5 newId))
    (hi : W.Looks (model prog w) h (typeLookup (.ref C) "__init__") (some (.ref fI)))
    (hb : ∀ self, W.Looks (model prog w) h (bindSpecial (.ref fI) self) (.ref fI, [self])) (hrest : rest.length ≤ sizeLine)
    (hq : codeAny (model prog w) (A.under (.builtin "type.__call__" ⟨.ref C :: rest, kw⟩))
      (.call (.ref fI) ⟨.ref (h.objs.size + 1) :: rest, kw⟩) (W.InitBack (h.objs.size + 1) R)
      ⟨(h.push (kdv_tup rest)).push (excO C h.objs.size), g, d, t, os⟩) :
    codeAny (model prog w) A (.call (.ref C) ⟨rest, kw⟩) R ⟨h, g, d, t, os⟩ := by
  have f1 := tc_lookup
  have f2 := tc_bind (.ref C)
  have hTy : (⟨h, g, d, t, os⟩ : Shared).TypeIs (.ref C) "type" := ⟨_, hC, rfl⟩
  refine codeAny_of_tree ?_
  show wpAny _ _ (callAny (.ref C) _) _ _ _
  repeat (any_goals (first
    | assumption
    | with_reducible refine wpAny_loadPart_at hC ?_
    | wp_step))
  refine ⟨rfl, ?_⟩
  refine codeAny_call_builtin_at (Code.quiet_builtin _ (by decide +kernel)) entry_typeCall (chk_type hC ?_)
  refine type_kw F hT hC hi hb hrest (codeAny_mono hq ?_)
  intro r s' z
  rcases r with e | (v | _ | _ | _) <;> exact z
end
end K0x
end PySem


set_option Elab.async false
set_option linter.all false
set_option maxRecDepth 100000
set_option maxHeartbeats 4000000
namespace PySem
namespace K0x
open PySem.W PySem.Calls PyProof.Rows PySem.HandSPX
section
variable {prog : Program} {w : World} {A : Around} {E : Value → Shared → Prop} {s : Shared} {K : Frag} {x D : Addr} {ox : Obj} {od : Option Obj}
/-- x.__class__ of an instance of an own exception class, whatever its own dict holds -/
theorem cls_asked {Q : Option Value → Shared → Prop}
    (h1 : findIn K (.ref D) "__getattribute__" = some (some (.builtin "BaseException.__getattribute__")))
    (h2 : findIn K (.ref D) "__getattr__" = some none) (h3 : subIn K (.ref D) (.type "BaseException") = some true)
    (h4 : hasDictIn K D = true) (h5 : findIn K (.ref D) "__class__" = some (some (.builtin "object.__class__")))
    (h6 : specialIn K (.builtin "object.__class__") "__get__" = some (some (.builtin "getset_descriptor.__get__")))
    (h7 : takesIn K (.builtin "object.__class__") = some true) (h8 : mroIn K D (.type "object") = some true)
    (X : K.In s.heap) (I : W.InstAt s.heap x ox D od) (h : Q (some (.ref D)) { s with toks := s.toks + 1 }) :
    wpAny (model prog w) A (getAttr? (.ref x) "__class__") Q E s := by
  have found : findObj K D od "__class__" = some (.bind (.builtin "getset_descriptor.__get__") (.builtin "object.__class__")) := by
    obtain ⟨cd, hc, _⟩ := any_some h4
    unfold findObj
    rw [hc, Option.bind_some, h5, Option.bind_some]
    simp [h6, h7]
  obtain ⟨hp, g, d, t, os⟩ := s
  have l0 := I.type (M := model prog w)
  have l1 := looks_findIn (M := model prog w) X h1
  have l2 := looks_findIn (M := model prog w) X h2
  have l3 := looks_find (M := model prog w) X I found
  have under : Looks (model prog w) hp (isInstance (.ref x) (.type "BaseException")) true :=
    l0.andThen (looks_subIn X h3)
  have n0 : (false && onTheHeap (Value.builtin "BaseException.__getattribute__")) = false := rfl
  have n2 : (Value.builtin "BaseException.__getattribute__" == Value.builtin "object.__getattribute__") = false := by
    decide +kernel
  have n1 : (onTheHeap (Value.ref D) &&
      Value.builtin "BaseException.__getattribute__" == Value.builtin "object.__getattribute__") = false := by
    rw [n2]
    rfl
  unfold getAttr? getAttrBy? getAttrBy
  refine wpAny_bind (wpAny_mkText (wpAny_bind (wpAny_attempt (wpAny_holding
    (wpAny_bind (l0.at (wpAny_bind (l1.at ?_))))))))
  show wpAny _ _ (if (onTheHeap (Value.ref D) &&
    Value.builtin "BaseException.__getattribute__" == Value.builtin "object.__getattribute__") = true then _ else _) _ _ _
  rw [n1, if_neg Bool.false_ne_true]
  unfold getAttrByItsOwn hookBefore
  refine wpAny_bind ?_
  rw [if_pos (show onTheHeap (Value.ref D) = true from rfl)]
  refine l2.at (wpAny_bind (wpAny_attempt (wpAny_holding ?_)))
  unfold callGetattribute
  rw [n0, if_neg Bool.false_ne_true]
  unfold boundAndCalled
  rw [PySem.F.excAttr_ValueError.ga.bind (.ref x)]
  refine wpAny_bind (wpAny_pure ?_)
  show wpAny _ _ (call (.builtin "BaseException.__getattribute__") [.ref x, .str "__class__" t]) _ _ _
  refine wpAny_call (codeAny_call_builtin PySem.F.excAttr_ValueError.ga.plain
    PySem.F.entry_bexc_ga ?_)
  refine @check_slot (model prog w) _ _ ⟨hp, g, d, t + 1, os⟩ "BaseException.__getattribute__" "BaseException"
    "__getattribute__" (.ref x) [.str "__class__" t] [] _ (by decide +kernel) (by decide +kernel) under
    (PySem.F.args_bexc_ga (.ref x) (.str "__class__" t)) ?_
  unfold Builtin.«object.__getattribute__»
  refine wpAny_bind (wpAny_of_eq (a := ((Value.ref x : Value), [Value.str "__class__" t]))
    (by first | rfl | (simp only [slotArgs]; rfl)) ?_)
  refine wpAny_bind (wpAny_pure (wpAny_bind (l0.at (wpAny_bind (l3.at ?_)))))
  show wpAny _ _ (holding [Value.builtin "object.__class__"]
    (call (.builtin "getset_descriptor.__get__") [.builtin "object.__class__", .ref x, .ref D]) >>= ret) _ _ _
  refine wpAny_bind (wpAny_holding (wpAny_call
    (class_get (s := ⟨hp, g, d, t + 1, os⟩) (ox := ox) (od := od) X I h8 ?_)))
  refine wpAny_pure ?_
  show wpAny _ _ (handedOut (.ref D)) _ _ _
  rw [handedOut_of (v := .ref D) rfl]
  first
    | exact wpAny_pure (wpAny_pure h)
    | exact wpAny_pure h
    | exact wpAny_pure (wpAny_bind (wpAny_pure (wpAny_pure h)))

theorem kit_exc
    (h1 : findIn K (.ref D) "__getattribute__" = some (some (.builtin "BaseException.__getattribute__")))
    (h2 : findIn K (.ref D) "__getattr__" = some none) (h3 : subIn K (.ref D) (.type "BaseException") = some true)
    (h4 : hasDictIn K D = true) (h5 : findIn K (.ref D) "__class__" = some (some (.builtin "object.__class__")))
    (h6 : specialIn K (.builtin "object.__class__") "__get__" = some (some (.builtin "getset_descriptor.__get__")))
    (h7 : takesIn K (.builtin "object.__class__") = some true) (h8 : mroIn K D (.type "object") = some true) :
    KitX K (.ref x) (.ref D) (fun h => ∃ ox od, W.InstAt h x ox D od) := by
  obtain ⟨cd, hcd, _⟩ := any_some h4
  have data : ∃ c' d' sl', K.lookup D = some ⟨c', d', .cls cd, sl'⟩ := by
    unfold clsIn at hcd
    split at hcd
    · rename_i c' d' cd' sl' ho
      cases hcd
      exact ⟨c', d', sl', ho⟩
    · cases hcd
  obtain ⟨c', d', sl', ho⟩ := data
  refine ⟨fun M h X I => ?_, fun M h X I => ?_, fun h tp dd its n sl X htp => ?_, fun X I k => ?_⟩
  · obtain ⟨ox, od, I⟩ := I
    exact I.type
  · intro A' Q' E' s' k q
    unfold isType loadHead
    exact wpAny_bind (wpAny_loadPart (k _ _ (X _ _ ho)) (wpAny_pure q))
  · refine Bool.eq_false_iff.mpr fun q => ?_
    have e : D = tp := Value.ref.inj (beq_iff_eq.mp q)
    subst e
    have z := (X _ _ ho).symm.trans htp
    cases z
  · obtain ⟨ox, od, I⟩ := I
    exact cls_asked h1 h2 h3 h4 h5 h6 h7 h8 X I k
end
end K0x
end PySem


set_option Elab.async false
set_option linter.all false
set_option maxRecDepth 100000
set_option maxHeartbeats 4000000
namespace K0
open PySem PySem.Spec PyProof.Rows L2

/-- a value's class, the instances of own exception classes among them -/
inductive TyE (K : PySem.W.Frag) (H : Hp) : V → Value → Prop where
  | base {x : V} {t : Value} (h : TyX K H x t) : TyE K H x t
  | err {a C : Addr} {d : Option Addr} (e : H a = some (exo a C d)) (hd : ∀ dd, d = some dd → ∃ o, H dd = some o) (T : ExcC K C) : TyE K H (.ref a) (.ref C)
  | err0 {a C : Addr} (e : H a = some (ExO (.ref C) a)) (T : ExcC K C) : TyE K H (.ref a) (.ref C)

section
variable {X : Cx} {pins : List (Addr × Obj)} {σ : L2.St} {H : Hp} {s : Shared}
theorem inst_exo {a C : Addr} {d : Option Addr} (I : Inv X pins σ H s) (e : H a = some (exo a C d)) (hd : ∀ dd, d = some dd → ∃ o, s.heap.get? dd = some o) :
    ∃ ox od, PySem.W.InstAt s.heap a ox C od := by
  obtain ⟨t1, ho⟩ := exo_at I.hok e
  cases d with
  | none => exact ⟨_, none, ho, rfl, rfl, trivial⟩
  | some dd =>
    obtain ⟨o, q⟩ := hd dd rfl
    exact ⟨_, some o, ho, rfl, rfl, q⟩
theorem obj_there {dd : Addr} {o : HO} (I : Inv X pins σ H s) (q : H dd = some o) : ∃ u, s.heap.get? dd = some u := by
  have hlt := (I.hok dd o q)
  cases o with
  | lst xs => obtain ⟨_, its, n, _, z⟩ := hlt; exact ⟨_, z⟩
  | tup xs => obtain ⟨_, its, _, o, z, _⟩ := hlt; exact ⟨_, z⟩
  | dK kvs => obtain ⟨_, _, vs, _, o, es, ep, z, _⟩ := hlt; exact ⟨_, z⟩
  | dT kvs => obtain ⟨_, _, vs, _, o, es, ep, z, _⟩ := hlt; exact ⟨_, z⟩
  | set S n => obtain ⟨o, _, _, _, z, _⟩ := hlt; exact ⟨_, z⟩
  | ins C' dx fs => obtain ⟨_, _, _, z, _⟩ := hlt; exact ⟨_, z⟩
  | own y => exact hlt
  | xd fs => obtain ⟨_, ⟨o, _, _, z, _⟩, _⟩ := hlt; exact ⟨_, z⟩
  | rng lo hi => obtain ⟨_, _, _, z⟩ := hlt; exact ⟨_, z⟩
  | frz o u => exact ⟨_, hlt.1⟩
  | tbl ps => exact ⟨_, hlt⟩
  | met f y => exact ⟨_, hlt⟩
  | ext φ => exact hlt.2.1
theorem kit_of' {x : V} {u t : Value} (I : Inv X pins σ H s) (rx : RelV x u) (ty : TyE X.K H x t) :
    ∃ P : Heap → Prop, PySem.W.KitX X.K u t P ∧ P s.heap ∧ u ≠ .builtin "__main__.__loader__#opaque" := by
  cases ty with
  | base h => exact kit_of I rx h
  | @err a C d e hd T =>
    cases rx
    refine ⟨_, PySem.K0x.kit_exc T.hg T.hk T.hs T.hd T.ha T.hn T.ht T.hm, ?_, fun z => nomatch z⟩
    refine inst_exo I e fun dd q => ?_
    obtain ⟨o, h⟩ := hd dd q
    exact obj_there I h
  | @err0 a C e T =>
    cases rx
    refine ⟨_, PySem.K0x.kit_exc T.hg T.hk T.hs T.hd T.ha T.hn T.ht T.hm, ?_, fun z => nomatch z⟩
    obtain ⟨⟨oe, vs, ho, hz, hv, _⟩, _, _⟩ := I.hok a _ e
    obtain ⟨oc, od, oda, osl⟩ := oe
    obtain ⟨z1, z2⟩ := hz
    dsimp only at z1 z2 hv
    subst z1 z2 hv
    exact ⟨_, none, ho, rfl, rfl, trivial⟩
end

def rIsA (K : PySem.W.Frag) : List V → Hp → VK → Prop := fun xs H Q => ∃ (x c : V) (t u : Value) (b : Bool),
  xs = [x, c] ∧ ClsV c u ∧ TyE K H x t ∧ PySem.W.kitOne K t u = some b ∧ Q (.bl b) H
def rIsT (K : PySem.W.Frag) : List V → Hp → VK → Prop := fun xs H Q => ∃ (x : V) (tp : Addr) (cs : List V) (t : Value) (us : List Value) (b : Bool),
  xs = [x, .ref tp] ∧ H tp = some (.tup cs) ∧ Paired ClsV cs us ∧ TyE K H x t ∧ PySem.W.kitAny K t us = some b ∧ Q (.bl b) H
section
variable {X : Cx}
theorem call_isA : CallR X (.builtin "isinstance") (rIsA X.K) := by
  intro pins s σ H xs us Q I r h
  obtain ⟨x, c, t, u, b, rfl, k, ty, e, q⟩ := h
  obtain ⟨u1, u2, rfl, r1, r2⟩ := vals2 r
  have e2 := k.eq r2
  subst e2
  obtain ⟨P, Z, p, hx⟩ := kit_of' I r1 ty
  exact PySem.W.kia_one Z I.kIn p e hx fun tk => ⟨.bl b, H, I.tok tk, rfl, q⟩
theorem call_isT : CallR X (.builtin "isinstance") (rIsT X.K) := by
  intro pins s σ H xs us Q I r h
  obtain ⟨x, tp, cs, t, ws, b, rfl, hT, k, ty, e, q⟩ := h
  obtain ⟨u1, u2, rfl, r1, r2⟩ := vals2 r
  cases (show u2 = Value.ref tp from r2)
  obtain ⟨P, Z, p, hx⟩ := kit_of' I r1 ty
  obtain ⟨_, its, rv, o, g1, g2, n, g3⟩ := I.hok tp _ hT
  have e3 := ClsV.all k rv
  subst e3
  obtain ⟨oc, od, dt, sl⟩ := o
  simp only at g2 g3
  subst g2 g3
  exact PySem.W.kia_tup Z I.kIn p g1 e hx fun tk => ⟨.bl b, H, I.tok tk, rfl, q⟩
end

/-! ### making an exception of an own class with an __init__ of its own -/
/-- C(e, ..) or C(k = v, ..) as a value; sp: what its __init__ promises -/
def tMkE (C : Addr) (sp : Sp) (g : List V → List V → List V) (t tk : TA) (n m : Nat) : TE := fun σ H Q => t σ H fun vs H1 => tk σ H1 fun zs H2 =>
  vs.length = n ∧ zs.length = m ∧ n ≤ 1000 ∧ ∀ a, H2 a = none → sp (g (.ref a :: vs) zs) (upd H2 a (exo a C none)) (fun v H3 => v = .non ∧ Q (.ref a) H3) E0
section
variable {X : Cx} {C fI : Addr} {k n : Nat} {fd : FuncData} {ps ks : List Str} {sp : Sp} {x : Str} {p pos : Pos} {e : Expr} {es : List Expr} {kws : List Keyword} {t tk : TA}
  {g : List Value → List Value → List Value} {gV : List V → List V → List V}
theorem run_mkE {pins : List (Addr × Obj)} {σ : L2.St} {H : Hp} {s : Shared} {Q : VK} {us ws : List Value} {vs zs : List V} (T : OexC X.K C)
    (iC : PySem.W.findIn X.K (.ref C) "__init__" = some (some (.ref fI))) (tI : PySem.W.typeIn X.K (.ref fI) = some (.type "function"))
    (F : FnOk X.prog X.w X.K X.mg X.base CX0 k fI fd ps sp) (hr : Room (k + 1) X.A) (hb : KBn X.K fd ps (n + 1) ks g gV)
    (I : Inv X pins σ H s) (r : Vals vs us) (rz : Vals zs ws) (l1 : vs.length = n) (l2 : zs.length = ks.length) (ln : n ≤ 1000)
    (h : ∀ a, H a = none → sp (gV (.ref a :: vs) zs) (upd H a (exo a C none)) (fun v H3 => v = .non ∧ Q (.ref a) H3) E0) :
    wpAny (model X.prog X.w) X.A (call (.ref C) us (ks.zip ws)) (EP X pins σ Q) X.xe s := by
  obtain ⟨nm, q, N, bs, bm, sn, sub, ab, col, dd, k0, k1, k2, k3, k5, hC, hbm⟩ := T.cls
  obtain ⟨hp, gg, dr, tk, os⟩ := s
  have hsz : hp.objs.size ≤ hp.objs.size + 1 := Nat.le_succ _
  have hq := h (hp.objs.size + 1) (I.hok.fresh hsz)
  have kk : ∀ b o, hp.get? b = some o →
      ((hp.push (PySem.W.kdv_tup us)).push (PySem.HandSPX.excO C hp.objs.size)).get? b = some o :=
    fun b o e => Heap.get?_push_of_some _ (Heap.get?_push_of_some _ e)
  have hget : ((hp.push (PySem.W.kdv_tup us)).push (PySem.HandSPX.excO C hp.objs.size)).get? (hp.objs.size + 1) =
      some (PySem.HandSPX.excO C hp.objs.size) := by
    heap_get
  have I2 : Inv X pins σ (upd H (hp.objs.size + 1) (exo (hp.objs.size + 1) C none))
      ⟨(hp.push (PySem.W.kdv_tup us)).push (PySem.HandSPX.excO C hp.objs.size), gg, dr, tk, os⟩ :=
    I.laid (t' := tk) (h' := (hp.push (PySem.W.kdv_tup us)).push (PySem.HandSPX.excO C hp.objs.size)) kk hsz (exo_ok hget)
  have ra : Vals (V.ref (hp.objs.size + 1) :: vs) (Value.ref (hp.objs.size + 1) :: us) := .cons rfl r
  have r2 := hb.rel ra rz
  have lu : us.length ≤ sizeLine := by
    have := Paired.length r
    rw [sizeLine_eq]
    omega
  have lu1 : (Value.ref (hp.objs.size + 1) :: us).length = n + 1 := by
    rw [List.length_cons, ← Paired.length r, l1]
  refine wpAny_call (PySem.K0x.call_kw PySem.F.excBase_ValueError (fun Y => PySem.HandSPX.refsVE_contains Y bm hbm) (I.kIn _ _ hC)
    (PySem.W.looks_findIn I.kIn iC) (fun self => PySem.W.bind_fn I.kIn self tI) lu
    (codeAny_mono (F.run _ X.stack _ _ ⟨Value.ref (hp.objs.size + 1) :: us, ks.zip ws⟩ _ _ _ E0 (hr.make C us (ks.zip ws))
      (I2.env0.make C us (ks.zip ws)) (hb.to _ _ ws I2.kIn lu1 ((Paired.length rz).symm.trans l2)) r2 hq) ?_))
  intro r' s' hq'
  cases r' with
  | error er => cases hq'
  | ok fl =>
    cases fl with
    | ret u =>
      obtain ⟨v, H3, I3, rv, ev, q3⟩ := I2.after hq'
      subst ev
      exact ⟨rv, V.ref (hp.objs.size + 1), H3, I3, rfl, q3⟩
    | next => cases hq'
    | brk => cases hq'
    | cont => cases hq'

/-- C(e, ..) -/
theorem pe_mkE (T : OexC X.K C)
    (iC : PySem.W.findIn X.K (.ref C) "__init__" = some (some (.ref fI))) (tI : PySem.W.typeIn X.K (.ref fI) = some (.type "function"))
    (F : FnOk X.prog X.w X.K X.mg X.base CX0 k fI fd ps sp) (hr : Room (k + 1) X.A) (hb : KBn X.K fd ps (n + 1) [] g gV)
    (hg : Gl X x) (hm : X.mg x = some (.ref C)) (ha : PA X (e :: es) t)
    (hdb : (x == ("__debug__" : Str)) = false := by decide)
    (he : starEach (e :: es) X.env = (false, eval e X.env) :: starEach es X.env := by rfl)
    (hpl : (backTo pos (starEach es X.env)).any (·.1) = false := by rfl) :
    PE X (.Call (.Name x p) (e :: es) [] pos) (tMkE C sp gV t tNil n 0) := by
  refine ⟨fun pins s σ H Q I h => wpAny_Call_Name_kw (ld_glob I hg hm ?_ hdb)⟩
  refine PySem.W.callWith_K (h₀ := X.base) I.ok.mod.kin T.kC
    (thn (ha.run pos pins s σ H _ I h) ?_) he hpl
  rintro us s1 ⟨vs, H1, I1, r, l1, _, ln, q⟩
  exact ⟨I1.kIn, run_mkE (ws := []) (zs := []) (ks := []) T iC tI F hr hb I1 r .nil l1 rfl ln q⟩
/-- C(k = v, ..) -/
theorem pe_mkEK (T : OexC X.K C)
    (iC : PySem.W.findIn X.K (.ref C) "__init__" = some (some (.ref fI))) (tI : PySem.W.typeIn X.K (.ref fI) = some (.type "function"))
    (F : FnOk X.prog X.w X.K X.mg X.base CX0 k fI fd ps sp) (hr : Room (k + 1) X.A) (hb : KBn X.K fd ps 1 ks g gV)
    (hg : Gl X x) (hm : X.mg x = some (.ref C)) (hkw : PK X kws tk)
    (hall : (backToKw pos (keywordEach kws X.env)).all (·.1.isSome) = true := by rfl)
    (hks : (backToKw pos (keywordEach kws X.env)).filterMap (·.1) = ks := by rfl)
    (hdb : (x == ("__debug__" : Str)) = false := by decide)
    (hpl : ((backTo pos (starEach [] X.env)).any (·.1) || (backToKw pos (keywordEach kws X.env)).any (·.1.isNone)) = false := by rfl) :
    PE X (.Call (.Name x p) [] kws pos) (tMkE C sp gV tNil tk 0 ks.length) := by
  refine ⟨fun pins s σ H Q I h => wpAny_Call_Name_kw (ld_glob I hg hm ?_ hdb)⟩
  refine PySem.W.callWith_KW0 (h₀ := X.base) I.ok.mod.kin T.kC hall
    (thn (hkw.run pos pins s σ H _ I h) ?_) hpl
  rintro ws s2 ⟨zs, H2, I2, rz, l1, l2, ln, q2⟩
  refine ⟨I2.kIn, ?_⟩
  rw [hks]
  exact run_mkE (us := []) (vs := []) T iC tI F hr hb I2 .nil rz rfl l2 ln q2
/-- f(k = v, ..) of a def, no value by place -/
theorem pe_kw0 {f : Addr} (F : FnOk X.prog X.w X.K X.mg X.base CX0 k f fd ps sp) (hr : Room k X.A) (hg : Gl X x) (hm : X.mg x = some (.ref f))
    (hk : PySem.W.keepIn X.K (.ref f) = true) (hb : KBn X.K fd ps 0 ks g gV) (hkw : PK X kws tk)
    (hall : (backToKw pos (keywordEach kws X.env)).all (·.1.isSome) = true := by rfl)
    (hks : (backToKw pos (keywordEach kws X.env)).filterMap (·.1) = ks := by rfl)
    (hdb : (x == ("__debug__" : Str)) = false := by decide)
    (hpl : ((backTo pos (starEach [] X.env)).any (·.1) || (backToKw pos (keywordEach kws X.env)).any (·.1.isNone)) = false := by rfl) :
    PE X (.Call (.Name x p) [] kws pos) (fun σ H Q => tk σ H fun zs H1 => zs.length = ks.length ∧ sp (gV [] zs) H1 Q E0) := by
  refine ⟨fun pins s σ H Q I h => wpAny_Call_Name_kw (ld_glob I hg hm ?_ hdb)⟩
  refine PySem.W.callWith_KW0 (h₀ := X.base) I.ok.mod.kin hk hall
    (thn (hkw.run pos pins s σ H _ I h) ?_) hpl
  rintro ws s2 ⟨zs, H2, I2, rz, l2, q2⟩
  refine ⟨I2.kIn, ?_⟩
  rw [hks]
  exact run_fnN (us := []) (vs := []) F hr hb pass0 I2 .nil rz rfl l2 q2
/-- e.f, e an exception that is held as a value -/
theorem pe_fldE {te : TE} {f : Str} {pos : Pos} {o : Expr} (he : PE X o te) (hb : attributeBase o f X.env (eval o X.env) = eval o X.env := by rfl) :
    PE X (.Attribute o f pos) (fun σ H Q => te σ H fun y H1 => ∃ (a C d : Addr) (fs : List (Str × V)) (v : V), y = .ref a ∧ H1 a = some (exo a C (some d)) ∧ H1 d = some (exd d fs) ∧
      XfC X.K C ∧ PySem.W.findIn X.K (.ref C) f = some none ∧ fs.lookup f = some v ∧ Q v H1) := by
  refine ⟨fun pins s σ H Q I h => attr_of hb (thn (he.run pins s σ H _ I h) ?_)⟩
  rintro u s1 ⟨y, H1, I1, rx, a, C, d, fs, v, rfl, ea, ed, T, hno, l, q⟩
  obtain rfl : u = Value.ref a := rx
  obtain ⟨t1, ho⟩ := exo_at I1.hok ea
  obtain ⟨mA, hns, hr⟩ := exd_at I1.hok ed
  obtain ⟨od, hod, hl⟩ := lookIn_ns hns
  obtain ⟨u, hu, ru⟩ := RelO.some_of (v := v) (o := mA f) (by rw [← l]; exact hr f)
  have J : PySem.W.InstAt s1.heap a _ C (some od) := ⟨ho, rfl, rfl, hod⟩
  exact HandSPX.exc_get I1.kIn J T.ga T.gg T.exC
    (PySem.W.findObj_own T.hdC hno rfl (by rw [hl, hu])) (handed_of ru) ⟨v, H1, I1.tok _, ru, q⟩
end
end K0


set_option Elab.async false
set_option linter.all false
set_option maxRecDepth 100000
set_option maxHeartbeats 4000000
namespace K0
open PySem PySem.Spec PyProof.Rows L2

/-! ### defs, bundled -/
/-- the def x of the module stands at f and keeps sp -/
structure Dn (P : Program) (w : World) (K : PySem.W.Frag) (mg : Str → Option Value) (base : Heap) (k : Nat) (x : Str) (f : Addr) (ps : List Str) (sp : Sp) : Prop where
  ex : ∃ fd, FnOk P w K mg base CX0 k f fd ps sp ∧ Binds K fd ps []
  mg : mg x = some (.ref f)
  kp : PySem.W.keepIn K (.ref f) = true
/-- .. and what is bound where keywords ks are given -/
structure DnK (P : Program) (w : World) (K : PySem.W.Frag) (mg : Str → Option Value) (base : Heap) (k : Nat) (x : Str) (f : Addr) (ps ks : List Str) (gV : List V → List V → List V) (sp : Sp) : Prop where
  ex : ∃ fd g, FnOk P w K mg base CX0 k f fd ps sp ∧ KBn K fd ps 0 ks g gV
  mg : mg x = some (.ref f)
  kp : PySem.W.keepIn K (.ref f) = true
structure DnG (P : Program) (w : World) (K : PySem.W.Frag) (mg : Str → Option Value) (base : Heap) (k : Nat) (x : Str) (f : Addr) (ps : List Str) (sp : Sp) : Prop where
  ex : ∃ fd, FnG P w K mg base k f fd ps sp ∧ Binds K fd ps []
  mg : mg x = some (.ref f)
  kp : PySem.W.keepIn K (.ref f) = true
section
variable {X : Cx} {k : Nat} {f : Addr} {ps ks : List Str} {sp : Sp} {x : Str} {p pos : Pos} {e : Expr} {es : List Expr} {kws : List Keyword} {t tk : TA} {gV : List V → List V → List V}
def tDn (sp : Sp) (t : TA) : TE := fun σ H Q => t σ H fun vs H1 => sp vs H1 Q E0
theorem pe_dn (D : Dn X.prog X.w X.K X.mg X.base k x f ps sp) (hr : Room k X.A) (hg : Gl X x) (ha : PA X (e :: es) t)
    (hdb : (x == ("__debug__" : Str)) = false := by decide)
    (he : starEach (e :: es) X.env = (false, eval e X.env) :: starEach es X.env := by rfl)
    (hpl : (backTo pos (starEach es X.env)).any (·.1) = false := by rfl) :
    PE X (.Call (.Name x p) (e :: es) [] pos) (tDn sp t) := by
  obtain ⟨⟨fd, F, B⟩, m, kp⟩ := D
  have h := pe_call (p := p) F hr hg m kp B .nil pass0 ha hdb he hpl
  refine ⟨fun pins s σ H Q I q => h.run pins s σ H Q I ?_⟩
  have e1 : tCall sp [] E0 t σ H Q = tDn sp t σ H Q := by
    show t σ H (fun vs H1 => sp (vs ++ []) H1 Q E0) = _
    simp only [List.append_nil]
    rfl
  rw [e1]
  exact q
theorem pe_dk (D : DnK X.prog X.w X.K X.mg X.base k x f ps ks gV sp) (hr : Room k X.A) (hg : Gl X x) (hkw : PK X kws tk)
    (hall : (backToKw pos (keywordEach kws X.env)).all (·.1.isSome) = true := by rfl)
    (hks : (backToKw pos (keywordEach kws X.env)).filterMap (·.1) = ks := by rfl)
    (hdb : (x == ("__debug__" : Str)) = false := by decide)
    (hpl : ((backTo pos (starEach [] X.env)).any (·.1) || (backToKw pos (keywordEach kws X.env)).any (·.1.isNone)) = false := by rfl) :
    PE X (.Call (.Name x p) [] kws pos) (fun σ H Q => tk σ H fun zs H1 => zs.length = ks.length ∧ sp (gV [] zs) H1 Q E0) := by
  obtain ⟨⟨fd, g, F, B⟩, m, kp⟩ := D
  exact pe_kw0 F hr hg m kp B hkw hall hks hdb hpl
theorem pe_dg (D : DnG X.prog X.w X.K X.mg X.base k x f ps sp) (hG : X.A.guards = some []) (hr : Room k X.A) (hg : Gl X x) (ha : PA X (e :: es) t)
    (hdb : (x == ("__debug__" : Str)) = false := by decide)
    (he : starEach (e :: es) X.env = (false, eval e X.env) :: starEach es X.env := by rfl)
    (hpl : (backTo pos (starEach es X.env)).any (·.1) = false := by rfl) :
    PE X (.Call (.Name x p) (e :: es) [] pos) (tDn sp t) := by
  obtain ⟨⟨fd, F, B⟩, m, kp⟩ := D
  exact pe_callG F hG hr hg m kp B ha hdb he hpl
end

/-! ### exceptions, bundled -/
/-- an exception of the class at C with these fields stands at a -/
def ErrAt (H : Hp) (a C : Addr) (fs : List (Str × V)) : Prop := ∃ d, H a = some (exo a C (some d)) ∧ H d = some (exd d fs)
theorem ErrAt.same {H H' : Hp} {a C : Addr} {fs : List (Str × V)} (h : ErrAt H a C fs) (s : Same H H') : ErrAt H' a C fs := by
  obtain ⟨d, h1, h2⟩ := h
  exact ⟨d, s _ _ h1, s _ _ h2⟩
/-- what __init__ promises: the fields named are stored -/
def spI (C : Addr) (n : Nat) (fs : List V → List (Str × V)) : Sp := fun vs H Q _ => ∃ (a : Addr) (ws : List V), vs = .ref a :: ws ∧ ws.length = n ∧ H a = some (exo a C none) ∧
  ∀ (d : Addr) (H' : Hp), H d = none → d ≠ a → H' a = some (exo a C (some d)) → H' d = some (exd d (fs ws)) → (∀ b o, b ≠ a → H b = some o → H' b = some o) → Q .non H'
/-- the class x of the module stands at C; its maker binds by place, and by the keywords ks -/
structure Ec (P : Program) (w : World) (K : PySem.W.Frag) (mg : Str → Option Value) (base : Heap) (x : Str) (C : Addr) (n : Nat) (ks : List Str) (gV : List V → List V) (fs : List V → List (Str × V)) : Prop where
  ox : OexC K C
  xf : XfC K C
  ec : ExcC K C
  ex : ∃ fI fd ps g1 g2, PySem.W.findIn K (.ref C) "__init__" = some (some (.ref fI)) ∧ PySem.W.typeIn K (.ref fI) = some (.type "function") ∧ FnOk P w K mg base CX0 1 fI fd ps (spI C n fs) ∧
    KBn K fd ps (n + 1) [] g1 (fun vs _ => vs) ∧ KBn K fd ps 1 ks g2 (fun vs zs => vs ++ gV zs)
  len : ∀ zs : List V, zs.length = ks.length → (gV zs).length = n
  nk : n ≤ 1000
  mg : mg x = some (.ref C)
  no : ∀ ws : List V, ws.length = n → ∀ q ∈ fs ws, PySem.W.findIn K (.ref C) q.1 = some none
section
variable {X : Cx} {C : Addr} {n : Nat} {ks : List Str} {x : Str} {p pos : Pos} {e : Expr} {es : List Expr} {kws : List Keyword} {t tk : TA} {gV : List V → List V} {fs : List V → List (Str × V)}
/-- the reading of C(e, ..) -/
def tEc (C : Addr) (n : Nat) (fs : List V → List (Str × V)) (t : TA) : TE := fun σ H Q => t σ H fun vs H1 => vs.length = n ∧
  ∀ (a : Addr) (H2 : Hp), H1 a = none → ErrAt H2 a C (fs vs) → Same H1 H2 → Q (.ref a) H2
theorem ini_way {H1 : Hp} {Q : VK} {ws : List V} (hl : ws.length = n) (h : ∀ (a : Addr) (H2 : Hp), H1 a = none → ErrAt H2 a C (fs ws) → Same H1 H2 → Q (.ref a) H2) :
    ∀ a, H1 a = none → spI C n fs (.ref a :: ws) (upd H1 a (exo a C none)) (fun v H3 => v = .non ∧ Q (.ref a) H3) E0 := by
  intro a ha
  refine ⟨a, ws, rfl, hl, upd_same, fun d H' hd hda h1 h2 hk => ⟨rfl, h a H' ha ⟨d, h1, h2⟩ fun b o hb => ?_⟩⟩
  have hba : b ≠ a := ne_of_none hb ha
  exact hk b o hba (by rw [upd_ne hba]; exact hb)
theorem pe_ec (D : Ec X.prog X.w X.K X.mg X.base x C n ks gV fs) (hr : Room 2 X.A) (hg : Gl X x) (ha : PA X (e :: es) t)
    (hdb : (x == ("__debug__" : Str)) = false := by decide)
    (he : starEach (e :: es) X.env = (false, eval e X.env) :: starEach es X.env := by rfl)
    (hpl : (backTo pos (starEach es X.env)).any (·.1) = false := by rfl) :
    PE X (.Call (.Name x p) (e :: es) [] pos) (tEc C n fs t) := by
  obtain ⟨fI, fd, ps, g1, g2, h1, h2, F, b1, b2⟩ := D.ex
  refine ⟨fun pins s σ H Q I q => wpAny_Call_Name_kw (ld_glob I hg D.mg ?_ hdb)⟩
  refine PySem.W.callWith_K (h₀ := X.base) I.ok.mod.kin D.ox.kC
    (thn (ha.run pos pins s σ H _ I q) ?_) he hpl
  rintro us s1 ⟨vs, H1, I1, r, l1, q1⟩
  exact ⟨I1.kIn, run_mkE (ws := []) (zs := []) (ks := []) D.ox h1 h2 F hr b1 I1 r .nil l1 rfl D.nk (ini_way l1 q1)⟩
theorem pe_eck (D : Ec X.prog X.w X.K X.mg X.base x C n ks gV fs) (hr : Room 2 X.A) (hg : Gl X x) (hkw : PK X kws tk)
    (hall : (backToKw pos (keywordEach kws X.env)).all (·.1.isSome) = true := by rfl)
    (hks : (backToKw pos (keywordEach kws X.env)).filterMap (·.1) = ks := by rfl)
    (hdb : (x == ("__debug__" : Str)) = false := by decide)
    (hpl : ((backTo pos (starEach [] X.env)).any (·.1) || (backToKw pos (keywordEach kws X.env)).any (·.1.isNone)) = false := by rfl) :
    PE X (.Call (.Name x p) [] kws pos) (fun σ H Q => tk σ H fun zs H1 => zs.length = ks.length ∧
      ∀ (a : Addr) (H2 : Hp), H1 a = none → ErrAt H2 a C (fs (gV zs)) → Same H1 H2 → Q (.ref a) H2) := by
  obtain ⟨fI, fd, ps, g1, g2, h1, h2, F, b1, b2⟩ := D.ex
  refine ⟨fun pins s σ H Q I h => wpAny_Call_Name_kw (ld_glob I hg D.mg ?_ hdb)⟩
  refine PySem.W.callWith_KW0 (h₀ := X.base) I.ok.mod.kin D.ox.kC hall
    (thn (hkw.run pos pins s σ H _ I h) ?_) hpl
  rintro ws s2 ⟨zs, H2, I2, rz, l2, q2⟩
  refine ⟨I2.kIn, ?_⟩
  rw [hks]
  exact run_mkE (us := []) (vs := []) (n := 0) D.ox h1 h2 F hr b2 I2 .nil rz rfl l2 (Nat.zero_le _) (ini_way (D.len zs l2) q2)
/-- e.f of such an exception -/
theorem fld_err {K : PySem.W.Frag} {H : Hp} {a : Addr} {f : Str} {v : V} {ws : List V} {Q : VK} {P : Program} {w : World} {mg : Str → Option Value} {base : Heap} (D : Ec P w K mg base x C n ks gV fs) (h : ErrAt H a C (fs ws)) (hn : ws.length = n)
    (hl : (fs ws).lookup f = some v) (q : Q v H) :
    ∃ (b C' d : Addr) (fs' : List (Str × V)) (v' : V), V.ref a = .ref b ∧ H b = some (exo b C' (some d)) ∧ H d = some (exd d fs') ∧
      XfC K C' ∧ PySem.W.findIn K (.ref C') f = some none ∧ fs'.lookup f = some v' ∧ Q v' H := by
  obtain ⟨d, h1, h2⟩ := h
  refine ⟨a, C, d, fs ws, v, rfl, h1, h2, D.xf, ?_, hl, q⟩
  have key : ∀ (l : List (Str × V)), l.lookup f = some v → ∃ q ∈ l, q.1 = f := by
    intro l
    induction l with
    | nil => intro h; cases h
    | cons p l ih =>
      intro h
      obtain ⟨f', z⟩ := p
      rw [lookup_put] at h
      by_cases e : f = f'
      · exact ⟨_, List.mem_cons_self, e.symm⟩
      · rw [if_neg e] at h
        obtain ⟨q, hq, hf⟩ := ih h
        exact ⟨q, List.mem_cons_of_mem _ hq, hf⟩
  obtain ⟨q', hq, hf⟩ := key _ hl
  rw [← hf]
  exact D.no ws hn q' hq
end
end K0


set_option Elab.async false
set_option linter.all false
set_option maxRecDepth 100000
set_option maxHeartbeats 4000000
namespace K0
open PySem PySem.Spec PyProof.Rows L2

def topS (i : Nat) : Stmt := PySem.Challenge.pw_spindleway_k03_ranks_and_spans.main.body.getD i (.Pass ⟨0, 0, 0, 0⟩)
abbrev st_divisor_of : Stmt := topS 2
abbrev st_reduced : Stmt := topS 3
abbrev st_product_of : Stmt := topS 4
abbrev st_unit_rows : Stmt := topS 5
abbrev st_narrowed : Stmt := topS 6
abbrev st_without : Stmt := topS 7
abbrev st_rank_among : Stmt := topS 8
abbrev st_lifted_point : Stmt := topS 9
abbrev st_span_among : Stmt := topS 10
abbrev st_is_integer : Stmt := topS 16
abbrev st_is_within : Stmt := topS 17
abbrev st_is_list : Stmt := topS 18
abbrev st_are_integers : Stmt := topS 19
abbrev st_is_point : Stmt := topS 20
abbrev st_are_points : Stmt := topS 21
abbrev st_rank_of : Stmt := topS 25
abbrev st_span_of : Stmt := topS 26
abbrev st__law_purse : Stmt := topS 28
abbrev st__law_coin : Stmt := topS 29
abbrev st__law_one_of : Stmt := topS 30
abbrev st__law_number : Stmt := topS 31
abbrev st__law_stirred : Stmt := topS 32
abbrev st__law_ranked : Stmt := topS 33
abbrev st__law_own_rank : Stmt := topS 34
abbrev st__law_steps : Stmt := topS 35
abbrev st__law_is_integer : Stmt := topS 36
abbrev st__law_are_rows : Stmt := topS 37
abbrev st__law_bent : Stmt := topS 38
abbrev st__law_raised : Stmt := topS 39
abbrev st__law_bent_right : Stmt := topS 40
abbrev st_law : Stmt := topS 41

/-- names of the module that are the built-ins still -/
structure Nm (mg : Str → Option Value) : Prop where
  n_isinstance : mg "isinstance" = none
  n_int : mg "int" = none
  n_bool : mg "bool" = none
  n_list : mg "list" = none
  n_tuple : mg "tuple" = none
  n_len : mg "len" = none
  n_all : mg "all" = none
  n_abs : mg "abs" = none
  n_repr : mg "repr" = none
  n_range : mg "range" = none
  n_enumerate : mg "enumerate" = none
  n_zip : mg "zip" = none
  n_sum : mg "sum" = none
  n_min : mg "min" = none
  m_gcd : mg "gcd" = some (.builtin "math.gcd")
  c_MOST_POINTS : ∃ t, mg "MOST_POINTS" = some (.int 16 t)
  c_MOST_WIDE : ∃ t, mg "MOST_WIDE" = some (.int 8 t)

/-! ### kinds of values -/
def isI : V → Bool
  | .int _ => true
  | _ => false
/-- what isinstance tells of v: of int, of bool, of list and tuple -/
def Asks (K : PySem.W.Frag) (H : Hp) (v : V) (q : Bool) : Prop := ∃ (t : Value) (i b : Bool), TyE K H v t ∧
  PySem.W.kitOne K t (.type "int") = some i ∧ PySem.W.kitOne K t (.type "bool") = some b ∧ (i && !b) = isI v ∧
  PySem.W.kitAny K t [.type "list", .type "tuple"] = some q
section
variable {K : PySem.W.Frag} {H : Hp}
theorem any2 {t : Value} {b1 b2 : Bool} (h1 : PySem.W.kitOne K t (.type "list") = some b1) (h2 : PySem.W.kitOne K t (.type "tuple") = some b2) :
    PySem.W.kitAny K t [.type "list", .type "tuple"] = some (b1 || b2) :=
  kitAny_cons h1 (fun e => by
    subst e
    exact kitAny_cons h2 (fun e => by subst e; exact kitAny_nil) (fun e => by subst e; rfl)) (fun e => by subst e; rfl)
theorem Asks.int (n : Int) : Asks K H (.int n) false :=
  ⟨.type "int", true, false, .base (.base (.int n)), kit_ty (by decide +kernel), kit_ty (by decide +kernel), rfl,
    any2 (kit_ty (r := false) (by decide +kernel)) (kit_ty (r := false) (by decide +kernel))⟩
theorem Asks.bl (b : Bool) : Asks K H (.bl b) false :=
  ⟨.type "bool", true, true, .base (.base (.bl b)), kit_ty (by decide +kernel), kit_ty (by decide +kernel), rfl,
    any2 (kit_ty (r := false) (by decide +kernel)) (kit_ty (r := false) (by decide +kernel))⟩
theorem Asks.non : Asks K H .non false :=
  ⟨.type "NoneType", false, false, .base (.base .non), kit_ty (by decide +kernel), kit_ty (by decide +kernel), rfl,
    any2 (kit_ty (r := false) (by decide +kernel)) (kit_ty (r := false) (by decide +kernel))⟩
theorem Asks.str (x : Str) : Asks K H (.str x) false :=
  ⟨.type "str", false, false, .base (.base (.str x)), kit_ty (by decide +kernel), kit_ty (by decide +kernel), rfl,
    any2 (kit_ty (r := false) (by decide +kernel)) (kit_ty (r := false) (by decide +kernel))⟩
theorem Asks.lst {a : Addr} {xs : List V} (h : H a = some (.lst xs)) : Asks K H (.ref a) true :=
  ⟨.type "list", false, false, .base (.base (.lst h)), kit_ty (by decide +kernel), kit_ty (by decide +kernel), rfl,
    any2 (kit_ty (r := true) (by decide +kernel)) (kit_ty (r := false) (by decide +kernel))⟩
theorem Asks.tup {a : Addr} {xs : List V} (h : H a = some (.tup xs)) : Asks K H (.ref a) true :=
  ⟨.type "tuple", false, false, .base (.base (.tup h)), kit_ty (by decide +kernel), kit_ty (by decide +kernel), rfl,
    any2 (kit_ty (r := false) (by decide +kernel)) (kit_ty (r := true) (by decide +kernel))⟩
theorem Asks.dict {a : Addr} {kvs : List (Key × V)} (h : H a = some (.dK kvs)) : Asks K H (.ref a) false :=
  ⟨.type "dict", false, false, .base (.base (.dK h)), kit_ty (by decide +kernel), kit_ty (by decide +kernel), rfl,
    any2 (kit_ty (r := false) (by decide +kernel)) (kit_ty (r := false) (by decide +kernel))⟩
/-- what an own class of errors, at C, tells of its instances -/
structure KindsC (K : PySem.W.Frag) (C : Addr) : Prop where
  ki : PySem.W.kitOne K (.ref C) (.type "int") = some false
  kb : PySem.W.kitOne K (.ref C) (.type "bool") = some false
  kl : PySem.W.kitOne K (.ref C) (.type "list") = some false
  kt : PySem.W.kitOne K (.ref C) (.type "tuple") = some false
theorem Asks.err0 {a C : Addr} (h : H a = some (ExO (.ref C) a)) (T : ExcC K C) (k : KindsC K C) : Asks K H (.ref a) false :=
  ⟨.ref C, false, false, .err0 h T, k.ki, k.kb, rfl, any2 k.kl k.kt⟩
end
theorem pe_tyn {X : Cx} {x : Str} {pos : Pos} (n : String) (hg : Gl X x) (hm : X.mg x = none) (hv : bootBuiltins x = some (.type n)) (hn : x ≠ "__name__" := by decide)
    (hd : (x == ("__debug__" : Str)) = false := by decide) : PE X (.Name x pos) (tC (.ty n)) := pe_bltn hg hm hv rfl hn hd
end K0


set_option Elab.async false
set_option linter.all false
set_option maxRecDepth 100000
set_option maxHeartbeats 4000000
namespace K0
open PySem PySem.Spec PyProof.Rows L2

theorem TyOf.same {K : PySem.W.Frag} {H H' : Hp} {v : V} {t : Value} (s : Same H H') (h : TyOf K H v t) : TyOf K H' v t := by
  cases h with
  | non => exact .non
  | bl x => exact .bl x
  | int i => exact .int i
  | str x => exact .str x
  | flt x => exact .flt x
  | lst e => exact .lst (s _ _ e)
  | frz e => exact .frz (s _ _ e)
  | tup e => exact .tup (s _ _ e)
  | dK e => exact .dK (s _ _ e)
  | dT e => exact .dT (s _ _ e)
  | ins e cl ha hn htk hm => exact .ins (s _ _ e) cl ha hn htk hm
theorem TyX.same {K : PySem.W.Frag} {H H' : Hp} {v : V} {t : Value} (s : Same H H') (h : TyX K H v t) : TyX K H' v t := by
  cases h with
  | base h => exact .base (TyOf.same s h)
  | byt b => exact .byt b
  | set e => exact .set (s _ _ e)
  | kList e c => exact .kList e c
  | kTuple e c => exact .kTuple e c
  | kDict e c => exact .kDict e c
  | fTuple e => exact .fTuple (s _ _ e)
  | fDict e => exact .fDict (s _ _ e)
theorem TyE.same {K : PySem.W.Frag} {H H' : Hp} {v : V} {t : Value} (s : Same H H') (h : TyE K H v t) : TyE K H' v t := by
  cases h with
  | base h => exact .base (TyX.same s h)
  | err e hd T => exact .err (s _ _ e) (fun dd q => let ⟨o, z⟩ := hd dd q; ⟨o, s _ _ z⟩) T
  | err0 e T => exact .err0 (s _ _ e) T
theorem Asks.same {K : PySem.W.Frag} {H H' : Hp} {v : V} {q : Bool} (s : Same H H') (h : Asks K H v q) : Asks K H' v q := by
  obtain ⟨t, i, b, ty, r⟩ := h
  exact ⟨t, i, b, ty.same s, r⟩

/-! ### is_integer, is_within -/
def spIsInt (K : PySem.W.Frag) : Sp := fun vs H Q _ => ∃ (v : V) (q : Bool), vs = [v] ∧ Asks K H v q ∧ ∀ H', Same H H' → Q (.bl (isI v)) H'
def leB : V → Int → Bool
  | .int k, n => decide (k ≤ n)
  | _, _ => true
def geB : V → Int → Bool
  | .int k, n => decide (n ≤ k)
  | _, _ => true
/-- whether v is an integer from l to m -/
def within : V → V → V → Bool
  | .int n, l, m => leB l n && geB m n
  | _, _, _ => false
def Bd (l : V) : Prop := l = .non ∨ ∃ k, l = .int k
def spWithin (K : PySem.W.Frag) : Sp := fun vs H Q _ => ∃ (v l m : V) (q : Bool), vs = [v, l, m] ∧ Asks K H v q ∧ Bd l ∧ Bd m ∧ ∀ H', Same H H' → Q (.bl (within v l m)) H'

section
variable {P : Program} {w : World} {K : PySem.W.Frag} {mg : Str → Option Value} {base : Heap} {f g : Addr} {fd : FuncData}
theorem sc_is_integer : FnScope ["value"] ["value"] (defScope st_is_integer) := ⟨rfl, rfl, rfl, by decide +kernel, rfl, by decide +kernel, by decide +kernel⟩
theorem ok_is_integer (F : Fun K "is_integer" "is_integer" st_is_integer f fd) (T : Nm mg) : FnOk P w K mg base CX0 1 f fd ["value"] (spIsInt K) := by
  refine F.ok sc_is_integer (fun vs H Q E h => ?_) (fun cdv A outer s H vs Q E hr h => ?_)
  · obtain ⟨v, q, rfl, _⟩ := h
    rfl
  · obtain ⟨v, q, rfl, ⟨t, i, b, ty, hi, hb, hib, _⟩, k⟩ := h
    refine ⟨_, (pss_one (ps_ret (pe_and (pe_callB call_isA (by rfl) T.n_isinstance (by decide +kernel) (pa_cons (pv 0) (pa_cons (pe_tyn "int" (by rfl) T.n_int (by decide +kernel)) pa_nil))) (pe_one (pe_not (pe_callB call_isA (by rfl) T.n_isinstance (by decide +kernel) (pa_cons (pv 0) (pa_cons (pe_tyn "bool" (by rfl) T.n_bool (by decide +kernel)) pa_nil)))))))), ?_⟩
    refine ⟨_, rfl, v, .ty "int", t, .type "int", i, rfl, .ty _, ty, hi, i, rfl, ?_⟩
    cases i with
    | false =>
      refine iteF ?_
      have e : isI v = false := hib.symm
      rw [← e]
      exact k H (Same.refl H)
    | true =>
      refine iteT ?_
      refine ⟨_, rfl, v, .ty "bool", t, .type "bool", b, rfl, .ty _, ty, hb, b, rfl, ?_⟩
      have e : isI v = !b := hib.symm
      rw [← e]
      exact k H (Same.refl H)
theorem sc_is_within : FnScope ["value", "least", "most"] ["value", "least", "most"] (defScope st_is_within) := ⟨rfl, rfl, rfl, by decide +kernel, rfl, by decide +kernel, by decide +kernel⟩
theorem ok_is_within (F : Fun K "is_within" "is_within" st_is_within f fd) (T : Nm mg) (D_is_integer : Dn P w K mg base 1 "is_integer" g ["value"] (spIsInt K)) :
    FnOk P w K mg base CX0 2 f fd ["value", "least", "most"] (spWithin K) := by
  refine F.ok sc_is_within (fun vs H Q E h => ?_) (fun cdv A outer s H vs Q E hr h => ?_)
  · obtain ⟨v, l, m, q, rfl, _⟩ := h
    rfl
  · obtain ⟨v, l, m, q, rfl, av, bl, bm, k⟩ := h
    refine ⟨_, (pss_cons (ps_if (pt_not (pt_val (pe_dn D_is_integer (hr.mono (by decide)) rfl (pa_cons (pv 0) pa_nil)))) (pss_one (ps_ret pe_bl)) pss_nil)
    (pss_one (ps_ret (pe_and (pe_or (pe_cmp (pc_isN (pv 1)) rfl) (pe_one (pe_cmpR op_le (pv 1) (pv 0) (nomark _)))) (pe_one (pe_or (pe_cmp (pc_isN (pv 2)) rfl) (pe_one (pe_cmpR op_le (pv 0) (pv 2) (nomark _))))))))), ?_⟩
    refine ⟨_, rfl, v, q, rfl, av, fun H1 s1 => ⟨_, rfl, ?_⟩⟩
    cases v with
    | int n =>
      refine iteF ?_
      have low : ∀ R : VK, R (.bl (leB l n)) H1 → (tOrV (tIsN (tVar 1)) (tOp (rI0 fun i j => .bl (decide (i ≤ j))) (tVar 1) (tVar 0))) [some (.int n), some l, some m] H1 R := by
        intro R hR
        refine ⟨l, rfl, _, rfl, ?_⟩
        rcases bl with rfl | ⟨k1, rfl⟩
        · exact iteT hR
        · exact iteF ⟨_, rfl, _, rfl, _, _, rfl, rfl, hR⟩
      have high : ∀ R : VK, R (.bl (geB m n)) H1 → (tOrV (tIsN (tVar 2)) (tOp (rI0 fun i j => .bl (decide (i ≤ j))) (tVar 0) (tVar 2))) [some (.int n), some l, some m] H1 R := by
        intro R hR
        refine ⟨m, rfl, _, rfl, ?_⟩
        rcases bm with rfl | ⟨k1, rfl⟩
        · exact iteT hR
        · exact iteF ⟨_, rfl, _, rfl, _, _, rfl, rfl, hR⟩
      refine low _ ⟨_, rfl, ?_⟩
      have hk : Q (.bl (leB l n && geB m n)) H1 := k H1 s1
      cases e : leB l n with
      | false =>
        rw [e] at hk
        exact iteF hk
      | true =>
        rw [e] at hk
        exact iteT (high _ hk)
    | non => exact iteT (k H1 s1)
    | bl b => exact iteT (k H1 s1)
    | str x => exact iteT (k H1 s1)
    | byt x => exact iteT (k H1 s1)
    | flt x => exact iteT (k H1 s1)
    | ref x => exact iteT (k H1 s1)
    | ty x => exact iteT (k H1 s1)
end
end K0


set_option Elab.async false
set_option linter.all false
set_option maxRecDepth 100000
set_option maxHeartbeats 4000000
namespace K0
open PySem PySem.Spec PyProof.Rows L2

theorem same_upd {H : Hp} {p : Addr} {o : HO} (h : H p = none) : Same H (upd H p o) := fun b u e => by
  rw [upd_ne (ne_of_none e h)]
  exact e
theorem same_at {H : Hp} {p : Addr} {o o' : HO} (h : H p = some o) {H0 : Hp} (s : Same H0 H) (hn : H0 p = none) : Same H0 (upd H p o') := fun b u e => by
  rw [upd_ne (ne_of_none e hn)]
  exact s b u e
theorem same_sqT {K : PySem.W.Frag} {H H' : Hp} {a : Addr} {xs : List V} (e : Same H H') (h : SqT K H a xs) : SqT K H' a xs := by
  rcases h with (h | ⟨o, h⟩) | h
  · exact .inl (.inl (e _ _ h))
  · exact .inl (.inr ⟨o, e _ _ h⟩)
  · exact .inr h

/-- what a comprehension holds behind i items, all else as it was -/
def LcI (H1 : Hp) (D : Addr) (l : List V) (H : Hp) : Prop := H D = some (.lst l) ∧ Same H1 H
theorem take_get {α : Type} : ∀ {l : List α} {i : Nat} {x : α}, l[i]? = some x → l.take (i + 1) = l.take i ++ [x]
  | [], i, x, h => by simp at h
  | a :: l, 0, x, h => by
    have e : a = x := Option.some.inj h
    subst e
    rfl
  | a :: l, i + 1, x, h => by
    have ih := take_get (l := l) (i := i) (x := x) h
    show a :: l.take (i + 1) = a :: l.take i ++ [x]
    rw [ih]
    rfl
section
variable {K : PySem.W.Frag} {a D : Addr} {xs : List V} {i0 : Nat} {tt : TT} {te : TE} {vs : List Nat} {σ : L2.St} {H1 : Hp} {Qd : Hp → Prop} (sel : V → Option V)
/-- one turn of a comprehension that only looks -/
theorem lc_turn (hD : H1 D = none) (hz : xs.length < sizeLine) (hw : ∀ x, wipe ((wipe σ vs).set i0 (some x)) vs = wipe σ vs)
    (ht : ∀ x ∈ xs, ∀ H, Same H1 H → ∀ R : Bool → Hp → Prop, (∀ H', Same H H' → R (sel x).isSome H') → tt ((wipe σ vs).set i0 (some x)) H R)
    (he : ∀ x ∈ xs, ∀ y, sel x = some y → ∀ H, Same H1 H → ∀ R : VK, (∀ H', Same H H' → R y H') → te ((wipe σ vs).set i0 (some x)) H R)
    {i : Nat} {x : V} {H : Hp} (hx : xs[i]? = some x) (p : LcI H1 D ((xs.take i).filterMap sel) H) :
    gName i0 x (wipe σ vs) H fun σ2 H2 => wipe σ2 vs = wipe σ vs ∧ tt σ2 H2 fun b H3 =>
      if b = true then te σ2 H3 fun y H4 => ∃ acc, H4 D = some (.lst acc) ∧ acc.length < sizeLine ∧ LcI H1 D ((xs.take (i + 1)).filterMap sel) (upd H4 D (.lst (acc ++ [y])))
      else LcI H1 D ((xs.take (i + 1)).filterMap sel) H3 := by
  have hm : x ∈ xs := List.mem_of_getElem? hx
  obtain ⟨pd, ps⟩ := p
  refine ⟨hw x, ht x hm H ps _ fun H3 s3 => ?_⟩
  rw [take_get hx, List.filterMap_append]
  cases e : sel x with
  | none =>
    refine iteF ⟨?_, ps.trans s3⟩
    simp only [List.filterMap_cons, e, List.filterMap_nil, List.append_nil]
    exact s3 _ _ pd
  | some y =>
    refine iteT (he x hm y e H3 (ps.trans s3) _ fun H4 s4 => ⟨_, s4 _ _ (s3 _ _ pd), ?_, ?_, ?_⟩)
    · refine Nat.lt_of_le_of_lt (List.length_filterMap_le ..) (Nat.lt_of_le_of_lt ?_ hz)
      rw [List.length_take]
      exact Nat.min_le_right _ _
    · rw [upd_same]
      simp only [List.filterMap_cons, e, List.filterMap_nil]
    · exact same_at (s4 _ _ (s3 _ _ pd)) ((ps.trans s3).trans s4) hD
theorem lcl (hD : H1 D = none) (hS : SqL K H1 a xs) (hz : xs.length < sizeLine) (hw : ∀ x, wipe ((wipe σ vs).set i0 (some x)) vs = wipe σ vs)
    (ht : ∀ x ∈ xs, ∀ H, Same H1 H → ∀ R : Bool → Hp → Prop, (∀ H', Same H H' → R (sel x).isSome H') → tt ((wipe σ vs).set i0 (some x)) H R)
    (he : ∀ x ∈ xs, ∀ y, sel x = some y → ∀ H, Same H1 H → ∀ R : VK, (∀ H', Same H H' → R y H') → te ((wipe σ vs).set i0 (some x)) H R)
    (hd : ∀ H, LcI H1 D (xs.filterMap sel) H → Qd H) :
    ∃ W : Nat → Nat → Hp → Prop, (∃ m, W 0 m (upd H1 D (.lst []))) ∧ ∀ i m H, W i m H →
      ((Itl K a).stop i H ∧ Qd H) ∨ ((Itl K a).go i H ∧ ∃ Nx : Hp → Prop, (∀ H', Nx H' → ∃ m', m' < m ∧ W (i + 1) m' H') ∧ ∀ x H', (Itl K a).yld i H x H' →
        gName i0 x (wipe σ vs) H' fun σ2 H2 => wipe σ2 vs = wipe σ vs ∧ tt σ2 H2 fun b H3 =>
          if b = true then te σ2 H3 fun y H4 => ∃ acc, H4 D = some (.lst acc) ∧ acc.length < sizeLine ∧ Nx (upd H4 D (.lst (acc ++ [y]))) else Nx H3) := by
  refine lc_list (xs := xs) (fun i H => LcI H1 D ((xs.take i).filterMap sel) H) ⟨upd_same, same_upd hD⟩ (fun i H _ p => p.2.seq hS)
    (fun i x H hx p => lc_turn sel hD hz hw ht he hx p) fun H p => hd H ?_
  rw [List.take_length] at p
  exact p
theorem lct (hD : H1 D = none) (hS : SqT K H1 a xs) (hz : xs.length < sizeLine) (hw : ∀ x, wipe ((wipe σ vs).set i0 (some x)) vs = wipe σ vs)
    (ht : ∀ x ∈ xs, ∀ H, Same H1 H → ∀ R : Bool → Hp → Prop, (∀ H', Same H H' → R (sel x).isSome H') → tt ((wipe σ vs).set i0 (some x)) H R)
    (he : ∀ x ∈ xs, ∀ y, sel x = some y → ∀ H, Same H1 H → ∀ R : VK, (∀ H', Same H H' → R y H') → te ((wipe σ vs).set i0 (some x)) H R)
    (hd : ∀ H, LcI H1 D (xs.filterMap sel) H → Qd H) :
    ∃ W : Nat → Nat → Hp → Prop, (∃ m, W 0 m (upd H1 D (.lst []))) ∧ ∀ i m H, W i m H →
      ((Itt K a).stop i H ∧ Qd H) ∨ ((Itt K a).go i H ∧ ∃ Nx : Hp → Prop, (∀ H', Nx H' → ∃ m', m' < m ∧ W (i + 1) m' H') ∧ ∀ x H', (Itt K a).yld i H x H' →
        gName i0 x (wipe σ vs) H' fun σ2 H2 => wipe σ2 vs = wipe σ vs ∧ tt σ2 H2 fun b H3 =>
          if b = true then te σ2 H3 fun y H4 => ∃ acc, H4 D = some (.lst acc) ∧ acc.length < sizeLine ∧ Nx (upd H4 D (.lst (acc ++ [y]))) else Nx H3) := by
  refine lc_tup (xs := xs) (fun i H => LcI H1 D ((xs.take i).filterMap sel) H) ⟨upd_same, same_upd hD⟩ (fun i H _ p => same_sqT p.2 hS)
    (fun i x H hx p => lc_turn sel hD hz hw ht he hx p) fun H p => hd H ?_
  rw [List.take_length] at p
  exact p
/-- the ints from lo on, n of them -/
def ups (lo : Int) (n : Nat) : List V := (List.range n).map fun i => V.int (lo + (i : Nat))
theorem ups_len (lo : Int) (n : Nat) : (ups lo n).length = n := by simp [ups]
theorem ups_get (lo : Int) (n : Nat) {i : Nat} (h : i < n) : (ups lo n)[i]? = some (.int (lo + (i : Nat))) := by
  simp [ups, h]
theorem lcr {lo : Int} {n : Nat} (hD : H1 D = none) (hz : n < sizeLine) (hw : ∀ x, wipe ((wipe σ vs).set i0 (some x)) vs = wipe σ vs)
    (ht : ∀ x ∈ ups lo n, ∀ H, Same H1 H → ∀ R : Bool → Hp → Prop, (∀ H', Same H H' → R (sel x).isSome H') → tt ((wipe σ vs).set i0 (some x)) H R)
    (he : ∀ x ∈ ups lo n, ∀ y, sel x = some y → ∀ H, Same H1 H → ∀ R : VK, (∀ H', Same H H' → R y H') → te ((wipe σ vs).set i0 (some x)) H R)
    (hd : ∀ H, LcI H1 D ((ups lo n).filterMap sel) H → Qd H) :
    ∃ W : Nat → Nat → Hp → Prop, (∃ m, W 0 m (upd H1 D (.lst []))) ∧ ∀ i m H, W i m H →
      ((Itr lo n).stop i H ∧ Qd H) ∨ ((Itr lo n).go i H ∧ ∃ Nx : Hp → Prop, (∀ H', Nx H' → ∃ m', m' < m ∧ W (i + 1) m' H') ∧ ∀ x H', (Itr lo n).yld i H x H' →
        gName i0 x (wipe σ vs) H' fun σ2 H2 => wipe σ2 vs = wipe σ vs ∧ tt σ2 H2 fun b H3 =>
          if b = true then te σ2 H3 fun y H4 => ∃ acc, H4 D = some (.lst acc) ∧ acc.length < sizeLine ∧ Nx (upd H4 D (.lst (acc ++ [y]))) else Nx H3) := by
  refine lc_range (fun i H => LcI H1 D (((ups lo n).take i).filterMap sel) H) ⟨upd_same, same_upd hD⟩
    (fun i H hi p => lc_turn sel hD (by rw [ups_len]; exact hz) hw ht he (ups_get lo n hi) p) fun H p => hd H ?_
  have e : (ups lo n).take n = ups lo n := List.take_of_length_le (by rw [ups_len]; exact Nat.le_refl _)
  rw [e] at p
  exact p
end
end K0


set_option Elab.async false
set_option linter.all false
set_option maxRecDepth 100000
set_option maxHeartbeats 4000000
namespace K0
open PySem PySem.Spec PyProof.Rows L2

/-- v is no list or tuple, or one of these items -/
def Seqs (K : PySem.W.Frag) (H : Hp) (v : V) : Option (List V) → Prop
  | none => Asks K H v false
  | some xs => Asks K H v true ∧ xs.length < sizeLine ∧ ∃ a, v = .ref a ∧ (SqL K H a xs ∨ SqT K H a xs)
theorem Seqs.asks {K : PySem.W.Frag} {H : Hp} {v : V} {o : Option (List V)} (h : Seqs K H v o) : Asks K H v o.isSome := by
  cases o with
  | none => exact h
  | some xs => exact h.1
theorem Seqs.same {K : PySem.W.Frag} {H H' : Hp} {v : V} {o : Option (List V)} (s : Same H H') (h : Seqs K H v o) : Seqs K H' v o := by
  cases o with
  | none => exact Asks.same s h
  | some xs =>
    obtain ⟨h1, hz, a, e, h2⟩ := h
    refine ⟨h1.same s, hz, a, e, ?_⟩
    rcases h2 with h2 | h2
    · exact .inl (Same.seq s h2)
    · exact .inr (same_sqT s h2)
/-- whether a list of this length is within the bounds -/
def lenB (o : Option (List V)) (l m : V) : Bool := match o with
  | none => false
  | some xs => within (.int xs.length) l m
def spIsList (K : PySem.W.Frag) : Sp := fun vs H Q _ => ∃ (v l m : V) (o : Option (List V)), vs = [v, l, m] ∧ Seqs K H v o ∧ Bd l ∧ Bd m ∧ ∀ H', Same H H' → Q (.bl (lenB o l m)) H'
/-- whether all of a list are integers -/
def intsB (o : Option (List V)) : Bool := match o with
  | none => false
  | some xs => xs.all isI
/-- the items can be asked -/
def Items (K : PySem.W.Frag) (H : Hp) (o : Option (List V)) : Prop := ∀ xs, o = some xs → ∀ x ∈ xs, ∃ q, Asks K H x q
theorem Items.same {K : PySem.W.Frag} {H H' : Hp} {o : Option (List V)} (s : Same H H') (h : Items K H o) : Items K H' o := fun xs e x hx =>
  let ⟨q, z⟩ := h xs e x hx
  ⟨q, z.same s⟩
def spAreInts (K : PySem.W.Frag) : Sp := fun vs H Q _ => ∃ (v : V) (o : Option (List V)), vs = [v] ∧ Seqs K H v o ∧ Items K H o ∧ ∀ H', Same H H' → Q (.bl (intsB o)) H'
def spIsPoint (K : PySem.W.Frag) : Sp := fun vs H Q _ => ∃ (v : V) (k : Int) (o : Option (List V)), vs = [v, .int k] ∧ Seqs K H v o ∧ Items K H o ∧
  ∀ H', Same H H' → Q (.bl (lenB o (.int k) (.int k) && intsB o)) H'
/-- ascending from lo on below many -/
def ascB : Int → Int → List V → Bool
  | _, _, [] => true
  | lo, many, .int n :: r => decide (lo ≤ n) && decide (n < many) && ascB (n + 1) many r
  | _, _, _ :: _ => false
def lotB (o : Option (List V)) (many : Int) : Bool := match o with
  | none => false
  | some xs => xs.all isI && ascB 0 many xs
def spIsLot (K : PySem.W.Frag) : Sp := fun vs H Q _ => ∃ (v : V) (many : Int) (o : Option (List V)), vs = [v, .int many] ∧ Seqs K H v o ∧ Items K H o ∧
  ∀ H', Same H H' → Q (.bl (lotB o many)) H'

section
variable {P : Program} {w : World} {K : PySem.W.Frag} {mg : Str → Option Value} {base : Heap} {f g g2 : Addr} {fd : FuncData}
theorem sc_is_list : FnScope ["value", "least", "most"] ["value", "least", "most"] (defScope st_is_list) := ⟨rfl, rfl, rfl, by decide +kernel, rfl, by decide +kernel, by decide +kernel⟩
theorem ok_is_list (F : Fun K "is_list" "is_list" st_is_list f fd) (T : Nm mg) (D_is_within : Dn P w K mg base 2 "is_within" g ["value", "least", "most"] (spWithin K)) :
    FnOk P w K mg base CX0 3 f fd ["value", "least", "most"] (spIsList K) := by
  refine F.ok sc_is_list (fun vs H Q E h => ?_) (fun cdv A outer s H vs Q E hr h => ?_)
  · obtain ⟨v, l, m, o, rfl, _⟩ := h
    rfl
  · obtain ⟨v, l, m, o, rfl, hv, bl, bm, k⟩ := h
    refine ⟨_, (pss_one (ps_ret (pe_and (pe_callB call_isT (by rfl) T.n_isinstance (by decide +kernel) (pa_cons (pv 0) (pa_cons (pe_tup (pa_cons (pe_tyn "list" (by rfl) T.n_list (by decide +kernel)) (pa_cons (pe_tyn "tuple" (by rfl) T.n_tuple (by decide +kernel)) pa_nil))) pa_nil))) (pe_one (pe_dn D_is_within (hr.mono (by decide)) rfl (pa_cons (pe_callB call_len_seq (by rfl) T.n_len (by decide +kernel) (pa_cons (pv 0) pa_nil)) (pa_cons (pv 1) (pa_cons (pv 2) pa_nil)))))))), ?_⟩
    refine ⟨_, rfl, (by show 2 ≤ sizeLine; decide), fun p hp => ?_⟩
    have s1 : Same H (upd H p (.tup [.ty "list", .ty "tuple"])) := same_upd hp
    obtain ⟨t, i, b, ty, _, _, _, hq⟩ := (hv.asks).same s1
    refine ⟨v, p, [.ty "list", .ty "tuple"], t, [.type "list", .type "tuple"], o.isSome, rfl, upd_same, .cons (.ty _) (.cons (.ty _) .nil), ty, hq, _, rfl, ?_⟩
    cases o with
    | none => exact iteF (k _ s1)
    | some xs =>
      refine iteT ?_
      obtain ⟨_, hz, a, rfl, hS⟩ := Seqs.same s1 hv
      refine ⟨_, rfl, a, xs, rfl, hS, _, rfl, _, rfl, .int xs.length, l, m, false, rfl, .int _, bl, bm, fun H' s2 => ?_⟩
      exact k H' (s1.trans s2)
theorem sc_are_integers : FnScope ["value", "each"] ["value"] (defScope st_are_integers) := ⟨rfl, rfl, rfl, by decide +kernel, rfl, by decide +kernel, by decide +kernel⟩
theorem all_filterMap_isI (xs : List V) : (xs.filterMap fun x => some (V.bl (isI x))) = (xs.map isI).map V.bl := by
  induction xs with
  | nil => rfl
  | cons x xs ih => simp only [List.filterMap_cons, List.map_cons, ih]
theorem all_id_map (xs : List V) : ((xs.map isI).all id) = xs.all isI := by
  induction xs with
  | nil => rfl
  | cons x xs ih => simp only [List.map_cons, List.all_cons, ih, id]
theorem ok_are_integers (F : Fun K "are_integers" "are_integers" st_are_integers f fd) (T : Nm mg) (D_is_integer : Dn P w K mg base 1 "is_integer" g2 ["value"] (spIsInt K))
    (D_is_list : Dn P w K mg base 3 "is_list" g ["value", "least", "most"] (spIsList K)) :
    FnOk P w K mg base CX0 4 f fd ["value"] (spAreInts K) := by
  refine F.ok sc_are_integers (fun vs H Q E h => ?_) (fun cdv A outer s H vs Q E hr h => ?_)
  · obtain ⟨v, o, rfl, _⟩ := h
    rfl
  · obtain ⟨v, o, rfl, hv, hi, k⟩ := h
    have elt : ∀ {xs : List V}, o = some xs → ∀ {H1 : Hp}, Same H H1 → ∀ x ∈ xs, ∀ y, (fun x => some (V.bl (isI x))) x = some y → ∀ H2, Same H1 H2 → ∀ R : VK, (∀ H', Same H2 H' → R y H') →
        tDn (spIsInt K) (tCons (tVar 1) tNil) ((wipe [some v, none] [1]).set 1 (some x)) H2 R := by
      intro xs e H1 s1 x hx y hy H2 s2 R hR
      obtain ⟨q, aq⟩ := hi xs e x hx
      cases hy
      exact ⟨x, rfl, x, q, rfl, (aq.same s1).same s2, hR⟩
    have way : ∀ (t : TE) (ht : ∀ xs, o = some xs → ∀ H1, Same H H1 → ∀ R : VK, (∀ H' D, Same H1 H' → H' D = some (.lst ((xs.map isI).map V.bl)) → R (.ref D) H') → t [some v, none] H1 R),
        tRet (tAndV (tDn (spIsList K) (tCons (tVar 0) (tCons (tC .non) (tCons (tC .non) tNil)))) (tCB (rAll K) (tCons t tNil))) { nx := fun _ H' => Q .non H', rt := Q } [some v, none] H := by
      intro t ht
      refine ⟨v, rfl, v, .non, .non, o, rfl, hv, .inl rfl, .inl rfl, fun H1 s1 => ⟨_, rfl, ?_⟩⟩
      cases o with
      | none => exact iteF (k H1 s1)
      | some xs =>
        refine iteT (ht xs rfl H1 s1 _ fun H' D s2 hD => ⟨D, _, rfl, .of hD, ?_⟩)
        rw [all_id_map]
        exact k H' (s1.trans s2)
    have fin : ∀ {xs : List V} {H1 : Hp} {D : Addr} {R : VK}, (∀ H' D, Same H1 H' → H' D = some (.lst ((xs.map isI).map V.bl)) → R (.ref D) H') → ∀ H', LcI H1 D (xs.filterMap fun x => some (V.bl (isI x))) H' → R (.ref D) H' := by
      intro xs H1 D R hR H' p
      obtain ⟨p1, p2⟩ := p
      rw [all_filterMap_isI] at p1
      exact hR H' D p2 p1
    by_cases ht : ∃ xs a, o = some xs ∧ v = .ref a ∧ SqT K H a xs
    · obtain ⟨xs0, a, e0, rfl, hT⟩ := ht
      refine ⟨_, (pss_one (ps_ret (pe_and (pe_dn D_is_list (hr.mono (by decide)) rfl (pa_cons (pv 0) (pa_cons pe_non (pa_cons pe_non pa_nil)))) (pe_one (pe_callB (cr_all rfl) (by rfl) T.n_all (by decide +kernel) (pa_cons (pe_lc (own := [("each", 1)]) (g := gName 1) (tt := tYes) rfl sc_are_integers.nd (pi_tup (pv 0)) (blkOk_by (N := ["value", "each"]) (sc := defScope st_are_integers) (by decide +kernel)) (fun _ _ _ _ _ => pg_name (i := 1) sc_are_integers.nd rfl (Or.inl rfl)) (fun _ _ _ _ _ => pts_nil) (fun _ _ _ _ _ => (pe_dn D_is_integer (hr.mono (by decide)) rfl (pa_cons (pv 1) pa_nil)))) pa_nil)))))), way _ ?_⟩
      intro xs e H1 s1 R hR
      have ee : xs0 = xs := Option.some.inj (e0.symm.trans e)
      subst ee
      have hz : xs0.length < sizeLine := by
        rw [e0] at hv
        exact hv.2.1
      refine ⟨_, rfl, a, rfl, ⟨_, same_sqT s1 hT⟩, fun D hD => lct (xs := xs0) (fun x => some (V.bl (isI x))) hD (same_sqT s1 hT) hz (fun _ => rfl) (fun x _ H2 _ R h => h H2 (Same.refl H2)) (elt e s1) (fin hR)⟩
    · refine ⟨_, (pss_one (ps_ret (pe_and (pe_dn D_is_list (hr.mono (by decide)) rfl (pa_cons (pv 0) (pa_cons pe_non (pa_cons pe_non pa_nil)))) (pe_one (pe_callB (cr_all rfl) (by rfl) T.n_all (by decide +kernel) (pa_cons (pe_lc (own := [("each", 1)]) (g := gName 1) (tt := tYes) rfl sc_are_integers.nd (pi_list (pv 0)) (blkOk_by (N := ["value", "each"]) (sc := defScope st_are_integers) (by decide +kernel)) (fun _ _ _ _ _ => pg_name (i := 1) sc_are_integers.nd rfl (Or.inl rfl)) (fun _ _ _ _ _ => pts_nil) (fun _ _ _ _ _ => (pe_dn D_is_integer (hr.mono (by decide)) rfl (pa_cons (pv 1) pa_nil)))) pa_nil)))))), way _ ?_⟩
      intro xs e H1 s1 R hR
      have hv' := hv
      rw [e] at hv'
      obtain ⟨_, hz, a, rfl, hS⟩ := hv'
      rcases hS with hS | hS
      · refine ⟨_, rfl, a, rfl, ⟨_, Same.seq s1 hS⟩, fun D hD => lcl (xs := xs) (fun x => some (V.bl (isI x))) hD (Same.seq s1 hS) hz (fun _ => rfl) (fun x _ H2 _ R h => h H2 (Same.refl H2)) (elt e s1) (fin hR)⟩
      · exact absurd ⟨xs, a, e, rfl, hS⟩ ht
theorem sc_is_point : FnScope ["value", "wide"] ["value", "wide"] (defScope st_is_point) := ⟨rfl, rfl, rfl, by decide +kernel, rfl, by decide +kernel, by decide +kernel⟩
theorem ok_is_point (F : Fun K "is_point" "is_point" st_is_point f fd) (D_are_integers : Dn P w K mg base 4 "are_integers" g2 ["value"] (spAreInts K))
    (D_is_list : Dn P w K mg base 3 "is_list" g ["value", "least", "most"] (spIsList K)) :
    FnOk P w K mg base CX0 5 f fd ["value", "wide"] (spIsPoint K) := by
  refine F.ok sc_is_point (fun vs H Q E h => ?_) (fun cdv A outer s H vs Q E hr h => ?_)
  · obtain ⟨v, n, o, rfl, _⟩ := h
    rfl
  · obtain ⟨v, n, o, rfl, hv, hi, k⟩ := h
    refine ⟨_, (pss_one (ps_ret (pe_and (pe_dn D_is_list (hr.mono (by decide)) rfl (pa_cons (pv 0) (pa_cons (pv 1) (pa_cons (pv 1) pa_nil)))) (pe_one (pe_dn D_are_integers (hr.mono (by decide)) rfl (pa_cons (pv 0) pa_nil)))))), ?_⟩
    refine ⟨v, rfl, _, rfl, _, rfl, v, .int n, .int n, o, rfl, hv, .inr ⟨n, rfl⟩, .inr ⟨n, rfl⟩, fun H1 s1 => ⟨_, rfl, ?_⟩⟩
    cases e : lenB o (.int n) (.int n) with
    | false =>
      refine iteF ?_
      have k1 := k H1 s1
      rw [e] at k1
      exact k1
    | true =>
      refine iteT ⟨v, rfl, v, o, rfl, hv.same s1, hi.same s1, fun H2 s2 => ?_⟩
      have k1 := k H2 (s1.trans s2)
      rw [e] at k1
      exact k1
end
end K0


set_option Elab.async false
set_option linter.all false
set_option maxRecDepth 100000
set_option maxHeartbeats 2000000
/-! zip of two, each a list or a tuple -/
namespace K0z
open PySem RZ
open PySem.Sem (wp)
/-- at l: a tuple (b) or a list of these items -/
def IsSq (b : Bool) (h : Heap) (l : Addr) (xs : Array Value) : Prop := match b with | true => h.IsTuple l xs | false => h.IsList l xs
def IsIt (b : Bool) (h : Heap) (it l : Addr) (i : Nat) : Prop := match b with | true => h.IsTupleIter it l i | false => h.IsListIter it l i
def itName (b : Bool) : String := match b with | true => "tuple_iterator" | false => "list_iterator"
theorem IsSq.extBut {b : Bool} {h h' : Heap} {a c items} (x : IsSq b h a items) (hs : Heap.ExtBut c h h') (hab : a ≠ c) : IsSq b h' a items := by
  cases b
  · exact Heap.IsList.extBut x hs hab
  · exact Heap.IsTuple.extBut x hs hab
theorem IsSq.push {b : Bool} {h : Heap} {a items} (x : IsSq b h a items) (o : Obj) : IsSq b (h.push o) a items := by
  cases b
  · exact Heap.IsList.push x o
  · exact Heap.IsTuple.push x o
theorem IsIt.extBut {b : Bool} {h h' : Heap} {a c l i} (x : IsIt b h a l i) (hs : Heap.ExtBut c h h') (hab : a ≠ c) : IsIt b h' a l i := by
  cases b
  · exact Heap.IsListIter.extBut x hs hab
  · exact Heap.IsTupleIter.extBut x hs hab
theorem IsIt.at {b : Bool} {h h' : Heap} {a l i} (x : IsIt b h a l i) (e : ∀ o, h.get? a = some o → h'.get? a = some o) : IsIt b h' a l i := by
  cases b
  · exact Heap.IsListIter.at x e
  · exact Heap.IsTupleIter.at x e
theorem IsIt.obj {b : Bool} {h : Heap} {a l i} (x : IsIt b h a l i) : ∃ o : Obj, h.get? a = some o ∧ o.data = .fields #[.ref l, .int i 0] := by
  cases b
  · obtain ⟨o, e, _, d⟩ := x
    exact ⟨o, e, d⟩
  · obtain ⟨o, e, _, d⟩ := x
    exact ⟨o, e, d⟩
theorem IsIt.lt {b : Bool} {h : Heap} {a l i} (x : IsIt b h a l i) : a < h.objs.size := by
  obtain ⟨o, e, _⟩ := x.obj
  exact Heap.lt_size e
theorem IsIt.mk {b : Bool} {h : Heap} {a l : Addr} (e : h.get? a = some { cls := .type (itName b), data := .fields #[.ref l, .int 0 0] }) : IsIt b h a l 0 := by
  cases b
  · exact ⟨_, e, rfl, rfl⟩
  · exact ⟨_, e, rfl, rfl⟩
section
variable {prog : Program} {w : World} {A : Around} {E : Value → Shared → Prop} {s : Shared}
theorem nextOf_item {b : Bool} {it l : Addr} {i : Nat} {items} {x : Value} {Q : Value → Shared → Prop} (hit : IsIt b s.heap it l i)
    (hl : IsSq b s.heap l items) (hx : items[i]? = some x)
    (hQ : ∀ h', IsIt b h' it l (i + 1) → Heap.SameBut it s.heap h' → Q x { s with heap := h' }) :
    wpAny (model prog w) A (Builtin.SmallTypes.nextOf (.ref it)) Q E s := by
  cases b
  · exact wpAny_nextOf_list_item hit hl hx hQ
  · exact nextOf_tuple_item hit hl hx hQ
theorem nextOf_end {b : Bool} {it l : Addr} {i : Nat} {items} {Q : Value → Shared → Prop} (hh : A.handled = none)
    (hit : IsIt b s.heap it l i) (hl : IsSq b s.heap l items) (hx : items[i]? = none)
    (hE : ∀ h' e, Heap.ExtBut it s.heap h' → (∃ o, h'.get? e = some o ∧ o.cls = .type "StopIteration") → E (.ref e) { s with heap := h' }) :
    wpAny (model prog w) A (Builtin.SmallTypes.nextOf (.ref it)) Q E s := by
  cases b
  · exact wpAny_nextOf_list_end hh hit hl hx hE
  · exact nextOf_tuple_end hh hit hl hx hE
theorem pyIter_sq {b : Bool} {l : Addr} {xs : Array Value} {Q : Value → Shared → Prop} (hl : IsSq b s.heap l xs)
    (h : Q (.ref s.heap.objs.size) { s with heap := s.heap.push { cls := .type (itName b), data := .fields #[.ref l, .int 0 0] } }) :
    wpAny (model prog w) A (pyIter (.ref l)) Q E s := by
  cases b
  · exact wpAny_pyIter_list hl h
  · exact wpAny_pyIter_tuple hl h
theorem zipM_next_item {z TI TO i1 i2 l1 l2 : Addr} {b1 b2 : Bool} {k1 k2 : Nat} {xs ys : Array Value} {x y a b : Value} {Q : Value → Shared → Prop} (D : ZipApart z TI TO i1 i2 l1 l2)
    (hz : IsZip s.heap z TI TO .none) (hTI : IsPair s.heap TI (.ref i1) (.ref i2)) (hTO : IsPair s.heap TO a b)
    (h1 : IsIt b1 s.heap i1 l1 k1) (h2 : IsIt b2 s.heap i2 l2 k2) (hl1 : IsSq b1 s.heap l1 xs) (hl2 : IsSq b2 s.heap l2 ys) (hx : xs[k1]? = some x) (hy : ys[k2]? = some y)
    (hQ : ∀ h', IsZip h' z TI TO (rawInt s.heap.objs.size) → IsPair h' TO x y → IsIt b1 h' i1 l1 (k1 + 1) → IsIt b2 h' i2 l2 (k2 + 1) → IsPair h' s.heap.objs.size x y → h'.objs.size = s.heap.objs.size + 1 →
      (∀ c o, c ≠ z → c ≠ TO → c ≠ i1 → c ≠ i2 → s.heap.get? c = some o → h'.get? c = some o) → Q (.ref s.heap.objs.size) { s with heap := h' }) :
    wpAny (model prog w) A (Builtin.«zip.__next__» ⟨[.ref z], []⟩) (fun fin s' => ∃ v, fin = .done (.ret v) ∧ Q v s') E s := by
  show wpAny _ _ (field (.ref z) 2 >>= _) _ _ _
  refine wpAny_bind (wpAny_field hz rfl (x := .bool false) rfl ?_)
  show wpAny _ _ (field (.ref z) 3 >>= _) _ _ _
  refine wpAny_bind (wpAny_field hz rfl (x := .ref TI) rfl ?_)
  refine wpAny_bind (wpAny_seqItems hTI rfl ?_)
  show wpAny _ _ (Builtin.SmallTypes.ownedTupleIsFree (.ref z) >>= _) _ _ _
  refine wpAny_bind ?_
  unfold Builtin.SmallTypes.ownedTupleIsFree
  refine wpAny_bind (wpAny_field hz rfl (x := .none) rfl (wpAny_pure ?_))
  simp only [if_true]
  refine wpAny_bind (wpAny_rule ?_)
  refine wpAny_bind (wpAny_field hz rfl (x := .ref TO) rfl ?_)
  refine wpAny_bind (wpAny_setField_rec hz (by simp) fun h₁ hz₁ hs₁ => ?_)
  replace hz₁ : IsZip h₁ z TI TO .ellipsis := hz₁
  refine wpAny_bind ?_
  simp only [List.zipIdx_cons, List.zipIdx_nil, List.forIn_cons, List.forIn_nil]

  refine wpAny_bind (wpAny_bind (wpAny_onRaise ?_))
  show wpAny _ _ (Builtin.SmallTypes.nextOf (.ref i1) >>= _) _ _ _
  refine wpAny_bind (nextOf_item (h1.extBut hs₁.extBut D.i1z) (hl1.extBut hs₁.extBut D.l1z) hx fun h₂ h1₂ hs₂ => wpAny_pure ?_)
  have hTO₂ : IsPair h₂ TO a b := hs₂.extBut _ _ D.TOi1 (hs₁.extBut _ _ D.TOz hTO)
  refine wpAny_bind (wpAny_seqItems hTO₂ rfl ?_)
  refine wpAny_bind (wpAny_updateSeq_pair hTO₂ fun h₃ hTO₃ hs₃ => ?_)
  replace hTO₃ : IsPair h₃ TO x b := hTO₃
  refine wpAny_bind (wpAny_letGo (wpAny_pure ?_))

  refine wpAny_bind (wpAny_bind (wpAny_onRaise ?_))
  show wpAny _ _ (Builtin.SmallTypes.nextOf (.ref i2) >>= _) _ _ _
  refine wpAny_bind (nextOf_item (((h2.extBut hs₁.extBut D.i2z).extBut hs₂.extBut D.i12.symm).extBut hs₃.extBut D.TOi2.symm)
    (((hl2.extBut hs₁.extBut D.l2z).extBut hs₂.extBut D.l2i1).extBut hs₃.extBut D.l2TO) hy fun h₄ h2₄ hs₄ => wpAny_pure ?_)
  have hTO₄ : IsPair h₄ TO x b := hs₄.extBut _ _ D.TOi2 hTO₃
  refine wpAny_bind (wpAny_seqItems hTO₄ rfl ?_)
  refine wpAny_bind (wpAny_updateSeq_pair hTO₄ fun h₅ hTO₅ hs₅ => ?_)
  replace hTO₅ : IsPair h₅ TO x y := hTO₅
  refine wpAny_bind (wpAny_letGo (wpAny_pure (wpAny_pure ?_)))

  refine wpAny_bind (wpAny_seqItems hTO₅ rfl ?_)
  refine wpAny_bind (wpAny_newTuple ?_)
  have hsz : h₅.objs.size = s.heap.objs.size := by rw [hs₅.1, hs₄.1, hs₃.1, hs₂.1, hs₁.1]
  have hz₅ : IsZip h₅ z TI TO .ellipsis := hs₅.extBut _ _ D.TOz.symm (hs₄.extBut _ _ D.i2z.symm (hs₃.extBut _ _ D.TOz.symm (hs₂.extBut _ _ D.i1z.symm hz₁)))
  have hk₅ : ∀ c o, c ≠ z → c ≠ TO → c ≠ i1 → c ≠ i2 → s.heap.get? c = some o → h₅.get? c = some o := fun c o c1 c2 c3 c4 e =>
    hs₅.extBut _ _ c2 (hs₄.extBut _ _ c4 (hs₃.extBut _ _ c2 (hs₂.extBut _ _ c3 (hs₁.extBut _ _ c1 e))))
  have h1₅ : IsIt b1 h₅ i1 l1 (k1 + 1) := ((h1₂.extBut hs₃.extBut D.TOi1.symm).extBut hs₄.extBut D.i12).extBut hs₅.extBut D.TOi1.symm
  have h2₅ : IsIt b2 h₅ i2 l2 (k2 + 1) := h2₄.extBut hs₅.extBut D.TOi2.symm
  have hzlt : z < h₅.objs.size := Heap.lt_size hz₅
  have hTOlt : TO < h₅.objs.size := Heap.lt_size hTO₅
  have hi1lt : i1 < h₅.objs.size := h1₅.lt
  have hi2lt : i2 < h₅.objs.size := h2₅.lt
  show wpAny _ _ (Builtin.SmallTypes.ownedTupleHandOut (.ref z) (.ref h₅.objs.size) >>= _) _ _ _
  refine wpAny_bind ?_
  unfold Builtin.SmallTypes.ownedTupleHandOut
  have hz₆ : IsZip (h₅.push { cls := .type "tuple", data := .seq #[x, y] }) z TI TO .ellipsis := Heap.get?_push_of_some _ hz₅
  refine wpAny_bind (wpAny_setField_rec hz₆ (by simp) fun h₇ hz₇ hs₇ => ?_)
  replace hz₇ : IsZip h₇ z TI TO (rawInt h₅.objs.size) := hz₇
  refine wpAny_setField_rec hz₇ (by simp) fun h₈ hz₈ hs₈ => ?_
  replace hz₈ : IsZip h₈ z TI TO (rawInt h₅.objs.size) := hz₈
  have up : ∀ c o, c ≠ z → h₅.get? c = some o → h₈.get? c = some o := fun c o c1 e => hs₈.extBut _ _ c1 (hs₇.extBut _ _ c1 (Heap.get?_push_of_some _ e))
  have hT₈ : IsPair h₈ h₅.objs.size x y := hs₈.extBut _ _ (Nat.ne_of_gt hzlt) (hs₇.extBut _ _ (Nat.ne_of_gt hzlt) (Heap.get?_push_size _ rfl))
  have hz8 : h₈.objs.size = h₅.objs.size + 1 := by rw [hs₈.1, hs₇.1, Heap.size_push]
  rw [hsz] at hz₈ hT₈ hz8
  refine wpAny_pure ⟨_, rfl, ?_⟩
  show Q (.ref h₅.objs.size) _
  rw [hsz]
  exact hQ h₈ hz₈ (up _ _ D.TOz hTO₅) (h1₅.at fun o e => up _ o D.i1z e) (h2₅.at fun o e => up _ o D.i2z e) hT₈ hz8 fun c o c1 c2 c3 c4 e => up c o c1 (hk₅ c o c1 c2 c3 c4 e)

theorem zipM_next_end {z TI TO i1 i2 l1 l2 : Addr} {b1 b2 : Bool} {k1 k2 : Nat} {xs ys : Array Value} {a b : Value} {Q : Fin → Shared → Prop} (hh : A.handled = none) (D : ZipApart z TI TO i1 i2 l1 l2)
    (hz : IsZip s.heap z TI TO .none) (hTI : IsPair s.heap TI (.ref i1) (.ref i2)) (hTO : IsPair s.heap TO a b)
    (h1 : IsIt b1 s.heap i1 l1 k1) (h2 : IsIt b2 s.heap i2 l2 k2) (hl1 : IsSq b1 s.heap l1 xs) (hl2 : IsSq b2 s.heap l2 ys) (hend : xs[k1]? = none ∨ ys[k2]? = none)
    (hE : ∀ h' e, (∀ c o, c ≠ z → c ≠ TO → c ≠ i1 → c ≠ i2 → s.heap.get? c = some o → h'.get? c = some o) → (∃ o, h'.get? e = some o ∧ o.cls = .type "StopIteration") → E (.ref e) { s with heap := h' }) :
    wpAny (model prog w) A (Builtin.«zip.__next__» ⟨[.ref z], []⟩) Q E s := by
  show wpAny _ _ (field (.ref z) 2 >>= _) _ _ _
  refine wpAny_bind (wpAny_field hz rfl (x := .bool false) rfl ?_)
  show wpAny _ _ (field (.ref z) 3 >>= _) _ _ _
  refine wpAny_bind (wpAny_field hz rfl (x := .ref TI) rfl ?_)
  refine wpAny_bind (wpAny_seqItems hTI rfl ?_)
  show wpAny _ _ (Builtin.SmallTypes.ownedTupleIsFree (.ref z) >>= _) _ _ _
  refine wpAny_bind ?_
  unfold Builtin.SmallTypes.ownedTupleIsFree
  refine wpAny_bind (wpAny_field hz rfl (x := .none) rfl (wpAny_pure ?_))
  simp only [if_true]
  refine wpAny_bind (wpAny_rule ?_)
  refine wpAny_bind (wpAny_field hz rfl (x := .ref TO) rfl ?_)
  refine wpAny_bind (wpAny_setField_rec hz (by simp) fun h₁ hz₁ hs₁ => ?_)
  replace hz₁ : IsZip h₁ z TI TO .ellipsis := hz₁
  refine wpAny_bind ?_
  simp only [List.zipIdx_cons, List.zipIdx_nil, List.forIn_cons, List.forIn_nil]
  refine wpAny_bind (wpAny_bind (wpAny_onRaise ?_))
  show wpAny _ _ (Builtin.SmallTypes.nextOf (.ref i1) >>= _) _ _ _
  cases hx : xs[k1]? with
  | none =>
    refine wpAny_bind (nextOf_end hh (h1.extBut hs₁.extBut D.i1z) (hl1.extBut hs₁.extBut D.l1z) hx fun h₂ e hs₂ he => ?_)
    obtain ⟨oe, hoe, hce⟩ := he
    have hz₂ : IsZip h₂ z TI TO .ellipsis := hs₂ _ _ D.i1z.symm hz₁
    have hez : e ≠ z := fun x => by subst x; rw [hz₂] at hoe; cases hoe; simp at hce
    refine wpAny_setField_rec hz₂ (by simp) fun h₃ _ hs₃ => hE h₃ e (fun c o c1 _ c3 _ x => hs₃.extBut _ _ c1 (hs₂ _ _ c3 (hs₁.extBut _ _ c1 x))) ⟨oe, hs₃.extBut _ _ hez hoe, hce⟩
  | some x =>
    have hy : ys[k2]? = none := by rcases hend with h | h; rw [hx] at h; cases h; exact h
    refine wpAny_bind (nextOf_item (h1.extBut hs₁.extBut D.i1z) (hl1.extBut hs₁.extBut D.l1z) hx fun h₂ h1₂ hs₂ => wpAny_pure ?_)
    have hTO₂ : IsPair h₂ TO a b := hs₂.extBut _ _ D.TOi1 (hs₁.extBut _ _ D.TOz hTO)
    refine wpAny_bind (wpAny_seqItems hTO₂ rfl ?_)
    refine wpAny_bind (wpAny_updateSeq_pair hTO₂ fun h₃ hTO₃ hs₃ => ?_)
    refine wpAny_bind (wpAny_letGo (wpAny_pure ?_))
    refine wpAny_bind (wpAny_bind (wpAny_onRaise ?_))
    show wpAny _ _ (Builtin.SmallTypes.nextOf (.ref i2) >>= _) _ _ _
    refine wpAny_bind (nextOf_end hh (((h2.extBut hs₁.extBut D.i2z).extBut hs₂.extBut D.i12.symm).extBut hs₃.extBut D.TOi2.symm)
      (((hl2.extBut hs₁.extBut D.l2z).extBut hs₂.extBut D.l2i1).extBut hs₃.extBut D.l2TO) hy fun h₄ e hs₄ he => ?_)
    obtain ⟨oe, hoe, hce⟩ := he
    have hz₄ : IsZip h₄ z TI TO .ellipsis := hs₄ _ _ D.i2z.symm (hs₃.extBut _ _ D.TOz.symm (hs₂.extBut _ _ D.i1z.symm hz₁))
    have hez : e ≠ z := fun x => by subst x; rw [hz₄] at hoe; cases hoe; simp at hce
    refine wpAny_setField_rec hz₄ (by simp) fun h₅ _ hs₅ => hE h₅ e (fun c o c1 c2 c3 c4 x => hs₅.extBut _ _ c1 (hs₄ _ _ c4 (hs₃.extBut _ _ c2 (hs₂.extBut _ _ c3 (hs₁.extBut _ _ c1 x))))) ⟨oe, hs₅.extBut _ _ hez hoe, hce⟩

theorem pyNext_zipM_item {z TI TO i1 i2 l1 l2 : Addr} {b1 b2 : Bool} {k1 k2 : Nat} {xs ys : Array Value} {x y a b : Value} {Q : Option Value → Shared → Prop} (D : ZipApart z TI TO i1 i2 l1 l2)
    (hz : IsZip s.heap z TI TO .none) (hTI : IsPair s.heap TI (.ref i1) (.ref i2)) (hTO : IsPair s.heap TO a b)
    (h1 : IsIt b1 s.heap i1 l1 k1) (h2 : IsIt b2 s.heap i2 l2 k2) (hl1 : IsSq b1 s.heap l1 xs) (hl2 : IsSq b2 s.heap l2 ys) (hx : xs[k1]? = some x) (hy : ys[k2]? = some y)
    (hQ : ∀ h', IsZip h' z TI TO (rawInt s.heap.objs.size) → IsPair h' TO x y → IsIt b1 h' i1 l1 (k1 + 1) → IsIt b2 h' i2 l2 (k2 + 1) → IsPair h' s.heap.objs.size x y → h'.objs.size = s.heap.objs.size + 1 →
      (∀ c o, c ≠ z → c ≠ TO → c ≠ i1 → c ≠ i2 → s.heap.get? c = some o → h'.get? c = some o) → Q (some (.ref s.heap.objs.size)) { s with heap := h' }) :
    wpAny (model prog w) A (pyNext (.ref z)) Q E s := by
  have hT : s.TypeIs (.ref z) "zip" := ⟨_, hz, rfl⟩
  unfold pyNext
  exact wpAny_bind (wpAny_attempt (wpAny_callSpecial?_slot (name := Str.ofString "__next__") hT F.slot_zip_next
    (wpAny_call_entry F.slot_zip_next hT F.entry_zip_next
      (zipM_next_item D hz hTI hTO h1 h2 hl1 hl2 hx hy fun h' a1 a2 a3 a4 a5 a6 a7 => wpAny_pure (hQ h' a1 a2 a3 a4 a5 a6 a7)) (F.args_zip_next_1 _))))

theorem pyNext_zipM_end {z TI TO i1 i2 l1 l2 : Addr} {b1 b2 : Bool} {k1 k2 : Nat} {xs ys : Array Value} {a b : Value} {Q : Option Value → Shared → Prop} (hh : A.handled = none) (D : ZipApart z TI TO i1 i2 l1 l2)
    (hz : IsZip s.heap z TI TO .none) (hTI : IsPair s.heap TI (.ref i1) (.ref i2)) (hTO : IsPair s.heap TO a b)
    (h1 : IsIt b1 s.heap i1 l1 k1) (h2 : IsIt b2 s.heap i2 l2 k2) (hl1 : IsSq b1 s.heap l1 xs) (hl2 : IsSq b2 s.heap l2 ys) (hend : xs[k1]? = none ∨ ys[k2]? = none)
    (hQ : ∀ h', (∀ c o, c ≠ z → c ≠ TO → c ≠ i1 → c ≠ i2 → s.heap.get? c = some o → h'.get? c = some o) → Q none { s with heap := h' }) : wpAny (model prog w) A (pyNext (.ref z)) Q E s := by
  have hT : s.TypeIs (.ref z) "zip" := ⟨_, hz, rfl⟩
  unfold pyNext
  refine wpAny_bind (wpAny_attempt (wpAny_callSpecial?_slot (name := Str.ofString "__next__") hT F.slot_zip_next
    (wpAny_call_entry F.slot_zip_next hT F.entry_zip_next (zipM_next_end hh D hz hTI hTO h1 h2 hl1 hl2 hend fun h' e hk he => ?_) (F.args_zip_next_1 _))))
  obtain ⟨o, ho, hc⟩ := he
  refine wpAny_bind (wpAny_isInstance (T := "StopIteration") (b := true) ⟨o, ho, hc⟩ isSubtype_stop ?_)
  exact wpAny_pure (hQ _ hk)
end

abbrev zipMH1 (b1 : Bool) (h : Heap) (l1 : Addr) : Heap := h.push { cls := .type (itName b1), data := .fields #[.ref l1, .int 0 0] }
abbrev zipMH2 (b1 b2 : Bool) (h : Heap) (l1 l2 : Addr) : Heap := (zipMH1 b1 h l1).push { cls := .type (itName b2), data := .fields #[.ref l2, .int 0 0] }
abbrev zipMH3 (b1 b2 : Bool) (h : Heap) (l1 l2 : Addr) : Heap := (zipMH2 b1 b2 h l1 l2).push { cls := .type "tuple", data := .seq #[.ref h.objs.size, .ref (zipMH1 b1 h l1).objs.size] }
abbrev zipMH4 (b1 b2 : Bool) (h : Heap) (l1 l2 : Addr) : Heap := (zipMH3 b1 b2 h l1 l2).push { cls := .type "tuple", data := .seq #[.none, .none] }
abbrev zipMH5 (b1 b2 : Bool) (h : Heap) (l1 l2 : Addr) : Heap := (zipMH4 b1 b2 h l1 l2).push { cls := .type "zip", data := .fields #[.none, .bool false, .bool false, .ref (zipMH2 b1 b2 h l1 l2).objs.size, .ref (zipMH3 b1 b2 h l1 l2).objs.size] }

theorem meets_zipM_new (b1 b2 : Bool) (l1 l2 : Addr) (xs ys : Array Value) :
    Meets (Builtin.«zip.__new__» ⟨[.type "zip", .ref l1, .ref l2], []⟩) (fun _ R s => IsSq b1 s.heap l1 xs ∧ IsSq b2 s.heap l2 ys ∧
      R (.ok (.ret (.ref (zipMH4 b1 b2 s.heap l1 l2).objs.size))) { s with heap := zipMH5 b1 b2 s.heap l1 l2 }) :=
  .of_wp fun prog w A R s h => by
    obtain ⟨hp, g, d, tk, os⟩ := s; obtain ⟨hl1, hl2, h⟩ := h
    have hsub := sub_zip
    have hL1 : IsSq b1 (Shared.heap ⟨hp, g, d, tk, os⟩) l1 xs := hl1
    have hL2 : IsSq b2 (Shared.heap ⟨hp.push { cls := .type (itName b1), data := .fields #[.ref l1, .int 0 0] }, g, d, tk, os⟩) l2 ys := IsSq.push hl2 _
    wp_walk using pyIter_sq hL1, pyIter_sq hL2
    exact ⟨_, rfl, h⟩

section
variable {prog : Program} {w : World} {A : Around} {E : Value → Shared → Prop} {s : Shared}

theorem call_zipM {b1 b2 : Bool} {l1 l2 : Addr} {xs ys : Array Value} {Q : Value → Shared → Prop} (hl1 : IsSq b1 s.heap l1 xs) (hl2 : IsSq b2 s.heap l2 ys)
    (h : ∀ h', IsZip h' (s.heap.objs.size + 4) (s.heap.objs.size + 2) (s.heap.objs.size + 3) .none → IsPair h' (s.heap.objs.size + 2) (.ref s.heap.objs.size) (.ref (s.heap.objs.size + 1)) →
      IsPair h' (s.heap.objs.size + 3) .none .none → IsIt b1 h' s.heap.objs.size l1 0 → IsIt b2 h' (s.heap.objs.size + 1) l2 0 → h'.objs.size = s.heap.objs.size + 5 →
      (∀ c o, s.heap.get? c = some o → h'.get? c = some o) → Q (.ref (s.heap.objs.size + 4)) { s with heap := h' }) :
    wpAny (model prog w) A (call (.type "zip") [.ref l1, .ref l2]) Q E s := by
  refine callType_new F.called_zip (by decide) (F.typeCall_zip_2 _ _) (F.newCall_zip_2 _ _) (fun obj => F.args_object_init_3 obj _ _) F.entry_zip_new
    (meets_zipM_new b1 b2 l1 l2 xs ys) ⟨hl1, hl2, ?_⟩
  have z1 : (zipMH1 b1 s.heap l1).objs.size = s.heap.objs.size + 1 := Heap.size_push ..
  have z2 : (zipMH2 b1 b2 s.heap l1 l2).objs.size = s.heap.objs.size + 2 := by rw [Heap.size_push, z1]
  have z3 : (zipMH3 b1 b2 s.heap l1 l2).objs.size = s.heap.objs.size + 3 := by rw [Heap.size_push, z2]
  have z4 : (zipMH4 b1 b2 s.heap l1 l2).objs.size = s.heap.objs.size + 4 := by rw [Heap.size_push, z3]
  have z5 : (zipMH5 b1 b2 s.heap l1 l2).objs.size = s.heap.objs.size + 5 := by rw [Heap.size_push, z4]
  have g5 : (zipMH5 b1 b2 s.heap l1 l2).get? (zipMH4 b1 b2 s.heap l1 l2).objs.size = some _ := Heap.get?_push_size _ rfl
  have g4 : (zipMH5 b1 b2 s.heap l1 l2).get? (zipMH3 b1 b2 s.heap l1 l2).objs.size = some _ := Heap.get?_push_of_some _ (Heap.get?_push_size _ rfl)
  have g3 : (zipMH5 b1 b2 s.heap l1 l2).get? (zipMH2 b1 b2 s.heap l1 l2).objs.size = some _ := Heap.get?_push_of_some _ (Heap.get?_push_of_some _ (Heap.get?_push_size _ rfl))
  have g2 : (zipMH5 b1 b2 s.heap l1 l2).get? (zipMH1 b1 s.heap l1).objs.size = some _ := Heap.get?_push_of_some _ (Heap.get?_push_of_some _ (Heap.get?_push_of_some _ (Heap.get?_push_size _ rfl)))
  have g1 : (zipMH5 b1 b2 s.heap l1 l2).get? s.heap.objs.size = some _ := Heap.get?_push_of_some _ (Heap.get?_push_of_some _ (Heap.get?_push_of_some _ (Heap.get?_push_of_some _ (Heap.get?_push_size _ rfl))))
  show _ ∧ _
  rw [z2, z3, z4] at g5
  rw [z1, z2] at g3
  rw [z3] at g4
  rw [z1] at g2
  rw [z4]
  exact ⟨⟨_, g5, rfl⟩, h _ g5 g3 g4 (IsIt.mk g1) (IsIt.mk g2) z5 fun c o x =>
    Heap.get?_push_of_some _ (Heap.get?_push_of_some _ (Heap.get?_push_of_some _ (Heap.get?_push_of_some _ (Heap.get?_push_of_some _ x))))⟩
end
end K0z


set_option Elab.async false
set_option linter.all false
set_option maxRecDepth 100000
set_option maxHeartbeats 4000000
namespace K0
open PySem PySem.Spec PyProof.Rows L2 RZ K0z

/-! ### a list or a tuple -/
def SqB (K : PySem.W.Frag) (b : Bool) (H : Hp) (a : Addr) (xs : List V) : Prop := match b with | true => SqT K H a xs | false => SqL K H a xs
theorem SqB.same {K : PySem.W.Frag} {b : Bool} {H H' : Hp} {a : Addr} {xs : List V} (s : Same H H') (h : SqB K b H a xs) : SqB K b H' a xs := by
  cases b
  · exact Same.seq s h
  · exact same_sqT s h
theorem SqB.or {K : PySem.W.Frag} {H : Hp} {a : Addr} {xs : List V} (h : SqL K H a xs ∨ SqT K H a xs) : ∃ b, SqB K b H a xs := by
  rcases h with h | h
  · exact ⟨false, h⟩
  · exact ⟨true, h⟩
theorem SqB.to {K : PySem.W.Frag} {b : Bool} {H : Hp} {a : Addr} {xs : List V} (h : SqB K b H a xs) : SqL K H a xs ∨ SqT K H a xs := by
  cases b
  · exact .inl h
  · exact .inr h
section
variable {X : Cx} {pins : List (Addr × Obj)} {σ : L2.St} {H : Hp} {s : Shared}
theorem SqB.got {b : Bool} {a : Addr} {xs : List V} (I : Inv X pins σ H s) (h : SqB X.K b H a xs) : ∃ its : List Value, Vals xs its ∧ IsSq b s.heap a its.toArray ∧ a < s.heap.objs.size := by
  cases b
  · obtain ⟨its, rv, p, _⟩ := I.list h
    exact ⟨its, rv, p.isList, p.lt⟩
  · obtain ⟨its, rv, p, _⟩ := I.tuple h
    obtain ⟨o1, ho1, _⟩ := id p
    exact ⟨its, rv, p, Heap.lt_size ho1⟩
theorem SqB.inj {b : Bool} {a : Addr} {xs ys : List V} (I : Inv X pins σ H s) (h : SqB X.K b H a xs) (h' : SqB X.K b H a ys) : xs = ys := by
  cases b
  · exact I.list_inj h h'
  · exact I.tuple_inj h h'
end
def Itb (K : PySem.W.Frag) (b : Bool) (a : Addr) : L2.It := match b with | true => Itt K a | false => Itl K a
def iSeq (K : PySem.W.Frag) (tl : TE) : TI := fun σ H R => tl σ H fun x H1 => ∃ b a, x = .ref a ∧ (∃ xs, SqB K b H1 a xs) ∧ R (Itb K b a) H1
theorem pi_seq {X : Cx} {tg l : Expr} {tl : TE} (hl : PE X l tl) : PI X tg l (iSeq X.K tl) := by
  refine ⟨fun pins s σ H R I h => ?_⟩
  refine thn (hl.run pins s σ H _ I h) fun v s1 ⟨x, H1, I1, r1, q1⟩ => ?_
  obtain ⟨b, a, e, ⟨xs, hq⟩, q⟩ := q1
  subst e
  cases r1
  cases b with
  | false =>
    obtain ⟨its, rv, p, hz⟩ := I1.list hq
    refine wpAny_pyIter_list p.isList ?_
    refine ⟨s1.heap.objs.size, [s1.heap.objs.size], _, _, H1, rfl, I1.kept (t' := s1.toks) fun b o e => Heap.get?_push_of_some _ e, turn_list a _, ⟨_, Heap.get?_push_size _ rfl, rfl, rfl⟩, fun b hb => ?_, q⟩
    have e : b = s1.heap.objs.size := by simpa using hb
    subst e
    exact I1.fpOk (Nat.le_refl _) (I1.hok.fresh (Nat.le_refl _))
  | true =>
    obtain ⟨its, rv, p, hz⟩ := I1.tuple hq
    refine wpAny_pyIter_tuple (show s1.heap.IsTuple a its.toArray from p) ?_
    refine ⟨s1.heap.objs.size, [s1.heap.objs.size], _, _, H1, rfl, I1.kept (t' := s1.toks) fun b o e => Heap.get?_push_of_some _ e, turn_tuple a _, ⟨_, Heap.get?_push_size _ rfl, rfl, rfl⟩, fun b hb => ?_, q⟩
    have e : b = s1.heap.objs.size := by simpa using hb
    subst e
    exact I1.fpOk (Nat.le_refl _) (I1.hok.fresh (Nat.le_refl _))
theorem walk_seq {K : PySem.W.Frag} {b : Bool} {a : Addr} {xs : List V} : Walk (Itb K b a) xs.length (fun H => SqB K b H a xs) (YAt xs) := by
  cases b
  · exact walk_list
  · exact walk_tup

/-! ### zip of two, each a list or a tuple -/
def ItzM (K : PySem.W.Frag) (b1 b2 : Bool) (a b : Addr) : L2.It :=
  ⟨fun i H => ∃ (xs ys : List V) (x y : V), SqB K b1 H a xs ∧ SqB K b2 H b ys ∧ xs[i]? = some x ∧ ys[i]? = some y,
    fun i H v H' => ∃ T x y, v = .ref T ∧ H T = none ∧ H' = upd H T (.tup [x, y]) ∧ (∀ xs, SqB K b1 H a xs → xs[i]? = some x) ∧ ∀ ys, SqB K b2 H b ys → ys[i]? = some y,
    fun i H => ∃ xs ys : List V, SqB K b1 H a xs ∧ SqB K b2 H b ys ∧ (xs.length ≤ i ∨ ys.length ≤ i)⟩
theorem turn_zipM {P : Program} {w : World} {K : PySem.W.Frag} {elts : List Expr} {kk : Nat} {tpos : Pos} {b1 b2 : Bool} {a b z TI TO i1 i2 : Addr} (D : ZipApart z TI TO i1 i2 a b) :
    Turn P w K (.Tuple elts kk tpos) (ItzM K b1 b2 a b) [z, TI, TO, i1, i2] z (fun i h => IsZip h z TI TO .none ∧ IsPair h TI (.ref i1) (.ref i2) ∧ (∃ x y, IsPair h TO x y) ∧ IsIt b1 h i1 a i ∧ IsIt b2 h i2 b i) where
  mem := by simp
  obj := fun i h st c hc => by
    obtain ⟨hz, hTI, ⟨x, y, hTO⟩, h1, h2⟩ := st
    obtain ⟨o1, e1, d1⟩ := h1.obj
    obtain ⟨o2, e2, d2⟩ := h2.obj
    have e' : c = z ∨ c = TI ∨ c = TO ∨ c = i1 ∨ c = i2 := by simpa using hc
    rcases e' with q | q | q | q | q
    · rw [q]; exact ⟨_, hz, fun v q => nomatch q⟩
    · rw [q]; exact ⟨_, hTI, fun v q => nomatch q⟩
    · rw [q]; exact ⟨_, hTO, fun v q => nomatch q⟩
    · rw [q]; exact ⟨o1, e1, fun v q => by rw [d1] at q; cases q⟩
    · rw [q]; exact ⟨o2, e2, fun v q => by rw [d2] at q; cases q⟩
  keep := fun i h h' st k => by
    obtain ⟨hz, hTI, ⟨x, y, hTO⟩, h1, h2⟩ := st
    exact ⟨k z (by simp) _ hz, k TI (by simp) _ hTI, ⟨x, y, k TO (by simp) _ hTO⟩, h1.at fun o q => k i1 (by simp) o q, h2.at fun o q => k i2 (by simp) o q⟩
  item := by
    intro X hP hw hK hc i pins s σ H E I hf st hg
    subst hP hw hK
    obtain ⟨hz, hTI, ⟨x0, y0, hTO⟩, h1, h2⟩ := st
    obtain ⟨xs, ys, x, y, hqx, hqy, hx, hy⟩ := hg
    obtain ⟨its, rv, p, _⟩ := SqB.got I hqx
    obtain ⟨its2, rv2, p2, _⟩ := SqB.got I hqy
    obtain ⟨u, hu, ru⟩ := rv.get hx
    obtain ⟨u2, hu2, ru2⟩ := rv2.get hy
    have hzl : z < s.heap.objs.size := Heap.lt_size hz
    refine pyNext_zipM_item D hz hTI hTO h1 h2 p p2 (x := u) (y := u2) (by simpa using hu) (by simpa using hu2) fun h' z' TO' h1' h2' hT hsz hk => ?_
    refine ⟨_, rfl, wpAny_letOwnedTupleGo_zip (s := { s with heap := h' }) z' fun h'' z'' sb => ?_⟩
    have hT2 : h''.get? s.heap.objs.size = some { cls := .type "tuple", data := .seq #[u, u2] } := (sb.2 _ (Nat.ne_of_gt hzl)).trans hT
    have new : ObjOk X.prog X.w (upd H s.heap.objs.size (.tup [x, y])) h'' s.heap.objs.size (.tup [x, y]) :=
      ⟨by show 2 ≤ sizeLine; decide, [u, u2], .cons ru (.cons ru2 .nil), ⟨_, hT2, rfl, _, rfl⟩⟩
    have I1 : Inv X pins σ (upd H s.heap.objs.size (.tup [x, y])) { s with heap := h'' } :=
      I.turnedNew (t' := s.toks) (ch := [z, TI, TO, i1, i2]) (fun c o hb q => (sb.2 c (fun q' => hb (by simp [q']))).trans (hk c o (fun q' => hb (by simp [q'])) (fun q' => hb (by simp [q'])) (fun q' => hb (by simp [q'])) (fun q' => hb (by simp [q'])) q)) hf (Nat.le_refl _) new
    refine ⟨.ref s.heap.objs.size, _, I1, rfl, ⟨_, x, y, rfl, I.hok.fresh (Nat.le_refl _), rfl, fun l hl => by rw [SqB.inj I hl hqx]; exact hx, fun l hl => by rw [SqB.inj I hl hqy]; exact hy⟩, ⟨z'', ?_, ⟨u, u2, ?_⟩, ?_, ?_⟩, fun c hcm => ?_⟩
    · exact (sb.2 _ D.TIz).trans (hk _ _ D.TIz D.TITO D.TIi1 D.TIi2 hTI)
    · exact (sb.2 _ D.TOz).trans TO'
    · exact h1'.at fun o q => (sb.2 _ D.i1z).trans q
    · exact h2'.at fun o q => (sb.2 _ D.i2z).trans q
    · have hlt : c < s.heap.objs.size := by
        have e' : c = z ∨ c = TI ∨ c = TO ∨ c = i1 ∨ c = i2 := by simpa using hcm
        rcases e' with q | q | q | q | q
        · rw [q]; exact hzl
        · rw [q]; exact Heap.lt_size hTI
        · rw [q]; exact Heap.lt_size hTO
        · rw [q]; exact h1.lt
        · rw [q]; exact h2.lt
      rw [upd_ne (Nat.ne_of_lt hlt)]
      exact (hf c hcm).1
  done := by
    intro X hP hw hK hc i pins s σ H E I hf st hg
    subst hP hw hK
    obtain ⟨hz, hTI, ⟨x0, y0, hTO⟩, h1, h2⟩ := st
    obtain ⟨xs, ys, hqx, hqy, hend⟩ := hg
    obtain ⟨its, rv, p, _⟩ := SqB.got I hqx
    obtain ⟨its2, rv2, p2, _⟩ := SqB.got I hqy
    have l1 := rv.length
    have l2 := rv2.length
    have he : its.toArray[i]? = none ∨ its2.toArray[i]? = none := by
      rcases hend with q | q
      · exact .inl (by simp; omega)
      · exact .inr (by simp; omega)
    exact pyNext_zipM_end (I.ok.hd hc) D hz hTI hTO h1 h2 p p2 he fun h' hk => ⟨rfl, I.turnedL (t' := s.toks) (ch := [z, TI, TO, i1, i2]) (fun c o hb q =>
      hk c o (fun q' => hb (by simp [q'])) (fun q' => hb (by simp [q'])) (fun q' => hb (by simp [q'])) (fun q' => hb (by simp [q'])) q) hf⟩
  self := fun A i s Q E st h => wpAny_pyIter_zip st.1 h
def iZipM (K : PySem.W.Frag) (ta : TA) : TI := fun σ H R => ta σ H fun vs H1 => ∃ b1 b2 a b xs ys, vs = [.ref a, .ref b] ∧ SqB K b1 H1 a xs ∧ SqB K b2 H1 b ys ∧ R (ItzM K b1 b2 a b) H1
theorem pi_zipM {X : Cx} {e e2 : Expr} {ta : TA} {p pos tpos : Pos} {elts : List Expr} {kk : Nat} (hg : Gl X "zip") (hm : X.mg "zip" = none) (ha : PA X [e, e2] ta)
    (hs : starEach [e, e2] X.env = (false, eval e X.env) :: starEach [e2] X.env := by rfl) (hpl : (backTo pos (starEach [e2] X.env)).any (·.1) = false := by rfl) :
    PI X (.Tuple elts kk tpos) (.Call (.Name "zip" p) [e, e2] [] pos) (iZipM X.K ta) := by
  refine ⟨fun pins s σ H R I h => ?_⟩
  refine Call_ (ld_blt I hg hm PyProof.Rows.boot_zip (PyProof.Rows.callWith_type1 (thn (ha.run pos pins s σ H _ I h) fun us s1 ⟨vs, H1, I1, r1, q1⟩ => ?_) hs hpl))
  obtain ⟨b1, b2, a, b, xs, ys, ex, hqx, hqy, q⟩ := q1
  subst ex
  obtain ⟨u1, u2, rfl, r, r'⟩ := vals2 r1
  cases r
  cases r'
  have fresh5 : ∀ c, c ∈ [s1.heap.objs.size + 4, s1.heap.objs.size + 2, s1.heap.objs.size + 3, s1.heap.objs.size, s1.heap.objs.size + 1] → FpOk X pins H1 c := fun c hcm => by
    have e' : c = s1.heap.objs.size + 4 ∨ c = s1.heap.objs.size + 2 ∨ c = s1.heap.objs.size + 3 ∨ c = s1.heap.objs.size ∨ c = s1.heap.objs.size + 1 := by simpa using hcm
    have hle : s1.heap.objs.size ≤ c := by
      rcases e' with z | z | z | z | z
      · rw [z]; exact Nat.le_add_right _ _
      · rw [z]; exact Nat.le_add_right _ _
      · rw [z]; exact Nat.le_add_right _ _
      · rw [z]; exact Nat.le_refl _
      · rw [z]; exact Nat.le_add_right _ _
    exact I1.fpOk hle (I1.hok.fresh hle)
  obtain ⟨its, rv, p1, l1⟩ := SqB.got I1 hqx
  obtain ⟨its2, rv2, p2, l2⟩ := SqB.got I1 hqy
  refine call_zipM p1 p2 fun h' hz hTI hTO h1 h2 hsz hk => wpAny_pyIter_zip hz ?_
  have I2 : Inv X pins σ H1 { s1 with heap := h' } := I1.kept (t' := s1.toks) hk
  exact ⟨s1.heap.objs.size + 4, [s1.heap.objs.size + 4, s1.heap.objs.size + 2, s1.heap.objs.size + 3, s1.heap.objs.size, s1.heap.objs.size + 1], _, _, H1, rfl, I2, turn_zipM (PySem.W.ktu_apart s1.heap.objs.size a b l1 l2), ⟨hz, hTI, ⟨_, _, hTO⟩, h1, h2⟩, fresh5, q⟩
theorem walk_zipM {K : PySem.W.Frag} {b1 b2 : Bool} {a b : Addr} {xs ys : List V} {n : Nat} (hn : n = min xs.length ys.length) : Walk (ItzM K b1 b2 a b) n (fun H => SqB K b1 H a xs ∧ SqB K b2 H b ys) (YPair (fun i => xs[i]?) (fun i => ys[i]?)) := by
  subst hn
  refine ⟨fun i _ hi q => ?_, fun _ q => ⟨xs, ys, q.1, q.2, by omega⟩, fun i H v H' _ q y => ?_⟩
  · have h1 : i < xs.length := by omega
    have h2 : i < ys.length := by omega
    exact ⟨xs, ys, xs[i], ys[i], q.1, q.2, by simp [h1], by simp [h2]⟩
  · obtain ⟨T, x, z, h1, h2, h3, h4, h5⟩ := y
    exact ⟨T, x, z, h1, h2, h3, h4 xs q.1, h5 ys q.2⟩

/-! ### the heap but for one address -/
def Off (c : Addr) (H : Hp) : Hp := fun b => if b = c then none else H b
theorem off_ne {c b : Addr} {H : Hp} (h : b ≠ c) : Off c H b = H b := if_neg h
theorem off_self {c : Addr} {H : Hp} : Off c H c = none := if_pos rfl
theorem off_same (c : Addr) (H : Hp) : Same (Off c H) H := fun b o e => by
  unfold Off at e
  split at e
  · cases e
  · exact e
theorem same_off {c : Addr} {H H' : Hp} (h : ∀ b o, b ≠ c → H b = some o → H' b = some o) : Same (Off c H) (Off c H') := fun b o e => by
  unfold Off at e ⊢
  split at e
  · cases e
  · rename_i n
    rw [if_neg n]
    exact h b o n e
theorem same_off' {c : Addr} {H H' : Hp} (h : Same H H') : Same (Off c H) (Off c H') := same_off fun b o _ e => h b o e
theorem to_off {c : Addr} {H H' : Hp} (h : Same H H') (hc : H c = none) : Same H (Off c H') := fun b o e => by
  rw [off_ne (ne_of_none e hc)]
  exact h b o e
theorem off_upd {c : Addr} {H : Hp} {o : HO} : Off c (upd H c o) = Off c H := by
  funext b
  unfold Off
  by_cases h : b = c
  · rw [if_pos h, if_pos h]
  · rw [if_neg h, if_neg h, upd_ne h]

/-! ### a comprehension without a test, over anything that is walked; what is made holds R, told off the list itself -/
def LcR (H1 : Hp) (D : Addr) (R : Nat → V → Hp → Prop) (n : Nat) (H : Hp) : Prop := ∃ acc : List V, acc.length = n ∧ H D = some (.lst acc) ∧ Same H1 H ∧ ∀ i y, acc[i]? = some y → R i y (Off D H)
section
variable {J : L2.It} {n : Nat} {G : Hp → Prop} {Y : Nat → Hp → V → Hp → Prop} {D : Addr} {te : TE} {g : TG} {vs : List Nat} {σ : L2.St} {H1 : Hp} {Qd : Hp → Prop} (R : Nat → V → Hp → Prop)
theorem lc_rel (w : Walk J n G Y) (hD : H1 D = none) (hz : n < sizeLine) (hG : ∀ H, Same H1 H → G H) (hR : ∀ i y H H', Same H H' → R i y H → R i y H')
    (hs : ∀ i x H H', i < n → Same H1 H → (∃ acc, H D = some (.lst acc)) → Y i H x H' → ∀ Rk : VK, (∀ y H4, Same H H4 → R i y (Off D H4) → Rk y H4) → g x (wipe σ vs) H' fun σ2 H2 => wipe σ2 vs = wipe σ vs ∧ te σ2 H2 Rk)
    (hd : ∀ H, LcR H1 D R n H → Qd H) :
    ∃ W : Nat → Nat → Hp → Prop, (∃ m, W 0 m (upd H1 D (.lst []))) ∧ ∀ i m H, W i m H →
      (J.stop i H ∧ Qd H) ∨ (J.go i H ∧ ∃ Nx : Hp → Prop, (∀ H', Nx H' → ∃ m', m' < m ∧ W (i + 1) m' H') ∧ ∀ x H', J.yld i H x H' → g x (wipe σ vs) H' fun σ2 H2 => wipe σ2 vs = wipe σ vs ∧ tYes σ2 H2 fun b H3 =>
        if b = true then te σ2 H3 fun y H4 => ∃ acc, H4 D = some (.lst acc) ∧ acc.length < sizeLine ∧ Nx (upd H4 D (.lst (acc ++ [y]))) else Nx H3) := by
  refine lc_it w (fun i H => LcR H1 D R i H) ⟨[], rfl, upd_same, same_upd hD, fun i y e => by cases e⟩ (fun i H _ p => hG H (by obtain ⟨_, _, _, s, _⟩ := p; exact s)) ?_ hd
  rintro i x H H' hi ⟨acc, la, hDa, s1, hr⟩ hy
  refine hs i x H H' hi s1 ⟨acc, hDa⟩ hy (fun y H4 => ∃ acc, H4 D = some (.lst acc) ∧ acc.length < sizeLine ∧ LcR H1 D R (i + 1) (upd H4 D (.lst (acc ++ [y])))) fun y H4 s4 r => ?_
  have hD4 := s4 _ _ hDa
  refine ⟨acc, hD4, by omega, acc ++ [y], by rw [List.length_append, la]; rfl, upd_same, same_at hD4 (s1.trans s4) hD, fun k z hk => ?_⟩
  rw [off_upd]
  by_cases hlt : k < acc.length
  · rw [List.getElem?_append_left hlt] at hk
    exact hR k z _ _ (same_off' s4) (hr k z hk)
  · rw [List.getElem?_append_right (by omega)] at hk
    have e0 : k - acc.length = 0 := by
      refine Nat.eq_zero_of_not_pos fun q => ?_
      rw [List.getElem?_eq_none (by show 1 ≤ k - acc.length; omega)] at hk
      cases hk
    rw [e0] at hk
    have ek : k = i := by omega
    rw [ek]
    cases hk
    exact r
/-- .. what is made is told ahead -/
theorem lc_fun (f : Nat → V) (w : Walk J n G Y) (hD : H1 D = none) (hz : n < sizeLine) (hG : ∀ H, Same H1 H → G H)
    (hs : ∀ i x H H', i < n → Same H1 H → (∃ acc, H D = some (.lst acc)) → Y i H x H' → ∀ Rk : VK, (∀ H4, Same H H4 → Rk (f i) H4) → g x (wipe σ vs) H' fun σ2 H2 => wipe σ2 vs = wipe σ vs ∧ te σ2 H2 Rk)
    (hd : ∀ H, H D = some (.lst ((List.range n).map f)) → Same H1 H → Qd H) :
    ∃ W : Nat → Nat → Hp → Prop, (∃ m, W 0 m (upd H1 D (.lst []))) ∧ ∀ i m H, W i m H →
      (J.stop i H ∧ Qd H) ∨ (J.go i H ∧ ∃ Nx : Hp → Prop, (∀ H', Nx H' → ∃ m', m' < m ∧ W (i + 1) m' H') ∧ ∀ x H', J.yld i H x H' → g x (wipe σ vs) H' fun σ2 H2 => wipe σ2 vs = wipe σ vs ∧ tYes σ2 H2 fun b H3 =>
        if b = true then te σ2 H3 fun y H4 => ∃ acc, H4 D = some (.lst acc) ∧ acc.length < sizeLine ∧ Nx (upd H4 D (.lst (acc ++ [y]))) else Nx H3) := by
  refine lc_rel (R := fun i y _ => y = f i) w hD hz hG (fun _ _ _ _ _ h => h) (fun i x H H' hi s1 ha hy Rk k => hs i x H H' hi s1 ha hy Rk fun H4 s4 => k (f i) H4 s4 rfl) fun H ⟨acc, la, hDa, s1, hr⟩ => hd H ?_ s1
  rw [hDa]
  congr 2
  refine List.ext_getElem (by simp [la]) fun k k1 k2 => ?_
  have := hr k acc[k] (List.getElem?_eq_getElem k1)
  rw [this]
  simp
end
end K0


set_option Elab.async false
set_option linter.all false
set_option maxRecDepth 100000
set_option maxHeartbeats 4000000
/-! rules with the written part told, so that they stand within comprehensions -/
namespace K0
open PySem PySem.Spec PyProof.Rows L2 RZ K0z
def rTupOf (K : PySem.W.Frag) : List V → Hp → VK → Prop := fun xs H Q => ∃ b p ys, xs = [.ref p] ∧ SqB K b H p ys ∧ (b = false → ∀ l, H l = none → Q (.ref l) (upd H l (.tup ys))) ∧ (b = true → Q (.ref p) H)
def rListOf (K : PySem.W.Frag) : List V → Hp → VK → Prop := fun xs H Q => ∃ b p ys, xs = [.ref p] ∧ SqB K b H p ys ∧ ∀ l, H l = none → Q (.ref l) (upd H l (.lst ys))
def rLen (K : PySem.W.Frag) : List V → Hp → VK → Prop := fun xs H Q => ∃ b p ys, xs = [.ref p] ∧ SqB K b H p ys ∧ Q (.int ys.length) H
def rIxB (K : PySem.W.Frag) : R2 := fun x y H Q => ∃ b p xs i v, x = .ref p ∧ y = .int i ∧ SqB K b H p xs ∧ atI xs i = some v ∧ Q v H
section
variable {X : Cx} {K : PySem.W.Frag}
theorem call_tupK (K : PySem.W.Frag) (e : X.K = K := by rfl) : CallR X (.type "tuple") (rTupOf K) := by
  subst e
  intro pins s σ H xs us Q I r h
  obtain ⟨b, p, ys, rfl, h, h1, h2⟩ := h
  refine call_tuple_of pins s σ H _ us Q I r ⟨p, ys, rfl, ?_⟩
  cases b
  · exact .inl ⟨h, h1 rfl⟩
  · exact .inr ⟨h, h2 rfl⟩
theorem call_listK (K : PySem.W.Frag) (e : X.K = K := by rfl) : CallR X (.type "list") (rListOf K) := by
  subst e
  intro pins s σ H xs us Q I r h
  obtain ⟨b, p, ys, rfl, h, h1⟩ := h
  exact call_list_of pins s σ H _ us Q I r ⟨p, ys, rfl, h.to, h1⟩
theorem call_lenK (K : PySem.W.Frag) (e : X.K = K := by rfl) : CallR X (.builtin "len") (rLen K) := by
  subst e
  intro pins s σ H xs us Q I r h
  obtain ⟨b, p, ys, rfl, h, h1⟩ := h
  exact call_len_seq pins s σ H _ us Q I r ⟨p, ys, rfl, h.to, h1⟩
theorem ix_K (K : PySem.W.Frag) (e : X.K = K := by rfl) : IxR X (rIxB K) := by
  subst e
  intro value slice pins s σ H x y v u Q I rx ry h hs
  obtain ⟨b, p, xs, i, z, e1, e2, h, e3, q⟩ := h
  cases b
  · exact ix_list _ _ pins s σ H x y v u Q I rx ry ⟨p, xs, i, z, e1, e2, h, e3, q⟩ hs
  · exact ix_tup _ _ pins s σ H x y v u Q I rx ry ⟨p, xs, i, z, e1, e2, h, e3, q⟩ hs
theorem call_isTK (K : PySem.W.Frag) (e : X.K = K := by rfl) : CallR X (.builtin "isinstance") (rIsT K) := by subst e; exact call_isT
theorem call_isAK (K : PySem.W.Frag) (e : X.K = K := by rfl) : CallR X (.builtin "isinstance") (rIsA K) := by subst e; exact call_isA
theorem pi_seqK {tg l : Expr} {tl : TE} (K : PySem.W.Frag) (hl : PE X l tl) (e : X.K = K := by rfl) : PI X tg l (iSeq K tl) := by subst e; exact pi_seq hl
theorem pi_zipMK {e e2 : Expr} {ta : TA} {p pos tpos : Pos} {elts : List Expr} {kk : Nat} (K : PySem.W.Frag) (hg : Gl X "zip") (hm : X.mg "zip" = none) (ha : PA X [e, e2] ta) (eK : X.K = K := by rfl)
    (hs : starEach [e, e2] X.env = (false, eval e X.env) :: starEach [e2] X.env := by rfl) (hpl : (backTo pos (starEach [e2] X.env)).any (·.1) = false := by rfl) :
    PI X (.Tuple elts kk tpos) (.Call (.Name "zip" p) [e, e2] [] pos) (iZipM K ta) := by subst eK; exact pi_zipM hg hm ha hs hpl
/-- xs != [], whatever the items -/
def rNeNil (K : PySem.W.Frag) : R2 := fun x y H Q => ∃ a b xs, x = .ref a ∧ y = .ref b ∧ SqL K H a xs ∧ SqL K H b [] ∧ Q (.bl (!xs.isEmpty)) H
theorem op_neNil (K : PySem.W.Frag) (hu : X.A.units + 64 < cLine) (e : X.K = K := by rfl) : OpR X (compareOp .NotEq) (rNeNil K) := by
  subst e
  intro pins s σ H x y v u Q I rx ry h
  obtain ⟨a, b, xs, rfl, rfl, hx, hy, q⟩ := h
  cases xs with
  | nil => exact op_neD hu pins s σ H _ _ _ _ Q I rx ry ⟨.list [], .list [], .lst hx .nil, .lst hy .nil, by decide, by decide, q⟩
  | cons z zs =>
    cases rx
    cases ry
    obtain ⟨its, rv, p1, _⟩ := I.list hx
    obtain ⟨its2, rv2, p2, _⟩ := I.list hy
    cases rv2
    cases rv with
    | cons r1 r2 => exact PySem.SeqAt.RcNeAt.lists_lengths p1.isList p2.isList (by simp) (by omega) X.prog X.w X.xe (EP X pins σ Q) ⟨.bl _, H, I, rfl, q⟩
end
end K0


set_option Elab.async false
set_option linter.all false
set_option maxRecDepth 100000
set_option maxHeartbeats 4000000
namespace K0
open PySem PySem.Spec PyProof.Rows L2 RZ K0z K3
/-- what a comprehension with a test has made: of the turns that c tells, in order -/
def LcF (H1 : Hp) (D : Addr) (R : Nat → V → Hp → Prop) (c : Nat → Bool) (n : Nat) (H : Hp) : Prop := ∃ acc : List V, acc.length = ((List.range n).filter c).length ∧ H D = some (.lst acc) ∧ Same H1 H ∧
  ∀ (k : Nat) (y : V) (i : Nat), acc[k]? = some y → ((List.range n).filter c)[k]? = some i → R i y (Off D H)
section
variable {J : L2.It} {n : Nat} {G : Hp → Prop} {Y : Nat → Hp → V → Hp → Prop} {D : Addr} {te : TE} {tt : TT} {g : TG} {vs : List Nat} {σ : L2.St} {H1 : Hp} {Qd : Hp → Prop} (R : Nat → V → Hp → Prop)
theorem lc_relF (c : Nat → Bool) (w : Walk J n G Y) (hD : H1 D = none) (hz : n < sizeLine) (hG : ∀ H, Same H1 H → G H) (hR : ∀ i y H H', Same H H' → R i y H → R i y H')
    (hs : ∀ i x H H', i < n → Same H1 H → (∃ acc, H D = some (.lst acc)) → Y i H x H' → ∀ Rt : Hp → Prop, ∀ Rk : VK, (c i = false → ∀ H3, Same H H3 → Rt H3) → (c i = true → ∀ y H4, Same H H4 → R i y (Off D H4) → Rk y H4) →
      g x (wipe σ vs) H' fun σ2 H2 => wipe σ2 vs = wipe σ vs ∧ tt σ2 H2 fun b H3 => if b = true then te σ2 H3 Rk else Rt H3)
    (hd : ∀ H, LcF H1 D R c n H → Qd H) :
    ∃ W : Nat → Nat → Hp → Prop, (∃ m, W 0 m (upd H1 D (.lst []))) ∧ ∀ i m H, W i m H →
      (J.stop i H ∧ Qd H) ∨ (J.go i H ∧ ∃ Nx : Hp → Prop, (∀ H', Nx H' → ∃ m', m' < m ∧ W (i + 1) m' H') ∧ ∀ x H', J.yld i H x H' → g x (wipe σ vs) H' fun σ2 H2 => wipe σ2 vs = wipe σ vs ∧ tt σ2 H2 fun b H3 =>
        if b = true then te σ2 H3 fun y H4 => ∃ acc, H4 D = some (.lst acc) ∧ acc.length < sizeLine ∧ Nx (upd H4 D (.lst (acc ++ [y]))) else Nx H3) := by
  refine lc_it w (fun i H => LcF H1 D R c i H) ⟨[], rfl, upd_same, same_upd hD, fun k y i e => by cases e⟩ (fun i H _ p => hG H (by obtain ⟨_, _, _, s, _⟩ := p; exact s)) ?_ hd
  rintro i x H H' hi ⟨acc, la, hDa, s1, hr⟩ hy
  have es : (List.range (i + 1)).filter c = (List.range i).filter c ++ if c i = true then [i] else [] := by
    rw [List.range_succ, List.filter_append]
    congr 1
    by_cases h : c i = true
    · simp [h]
    · simp [h]
  refine hs i x H H' hi s1 ⟨acc, hDa⟩ hy _ (fun y H4 => ∃ acc, H4 D = some (.lst acc) ∧ acc.length < sizeLine ∧ LcF H1 D R c (i + 1) (upd H4 D (.lst (acc ++ [y])))) (fun hc H3 s3 => ?_) fun hc y H4 s4 r => ?_
  · refine ⟨acc, ?_, s3 _ _ hDa, s1.trans s3, fun k y j h1 h2 => hR _ _ _ _ (same_off' s3) (hr k y j h1 ?_)⟩
    · rw [es, hc, la]; simp
    · rw [es, hc] at h2; simpa using h2
  · have hD4 := s4 _ _ hDa
    rw [hc, if_pos rfl] at es
    have lz : acc.length < sizeLine := by
      rw [la]
      exact Nat.lt_of_le_of_lt (List.length_filter_le ..) (by rw [List.length_range]; omega)
    refine ⟨acc, hD4, lz, acc ++ [y], ?_, upd_same, same_at hD4 (s1.trans s4) hD, fun k z j hk hj => ?_⟩
    · rw [es, List.length_append, List.length_append, la]; rfl
    rw [off_upd]
    by_cases hlt : k < acc.length
    · rw [List.getElem?_append_left hlt] at hk
      rw [es, List.getElem?_append_left (by rw [← la]; exact hlt)] at hj
      exact hR j z _ _ (same_off' s4) (hr k z j hk hj)
    · rw [List.getElem?_append_right (by omega)] at hk
      have e0 : k - acc.length = 0 := by
        refine Nat.eq_zero_of_not_pos fun q => ?_
        rw [List.getElem?_eq_none (by show 1 ≤ k - acc.length; omega)] at hk
        cases hk
      rw [e0] at hk
      rw [es, List.getElem?_append_right (by omega), ← la, e0] at hj
      cases hk
      cases hj
      exact r
/-- .. what is made is told ahead -/
theorem lc_funF (c : Nat → Bool) (f : Nat → V) (w : Walk J n G Y) (hD : H1 D = none) (hz : n < sizeLine) (hG : ∀ H, Same H1 H → G H)
    (hs : ∀ i x H H', i < n → Same H1 H → (∃ acc, H D = some (.lst acc)) → Y i H x H' → ∀ Rt : Hp → Prop, ∀ Rk : VK, (c i = false → ∀ H3, Same H H3 → Rt H3) → (c i = true → ∀ H4, Same H H4 → Rk (f i) H4) →
      g x (wipe σ vs) H' fun σ2 H2 => wipe σ2 vs = wipe σ vs ∧ tt σ2 H2 fun b H3 => if b = true then te σ2 H3 Rk else Rt H3)
    (hd : ∀ H, H D = some (.lst (((List.range n).filter c).map f)) → Same H1 H → Qd H) :
    ∃ W : Nat → Nat → Hp → Prop, (∃ m, W 0 m (upd H1 D (.lst []))) ∧ ∀ i m H, W i m H →
      (J.stop i H ∧ Qd H) ∨ (J.go i H ∧ ∃ Nx : Hp → Prop, (∀ H', Nx H' → ∃ m', m' < m ∧ W (i + 1) m' H') ∧ ∀ x H', J.yld i H x H' → g x (wipe σ vs) H' fun σ2 H2 => wipe σ2 vs = wipe σ vs ∧ tt σ2 H2 fun b H3 =>
        if b = true then te σ2 H3 fun y H4 => ∃ acc, H4 D = some (.lst acc) ∧ acc.length < sizeLine ∧ Nx (upd H4 D (.lst (acc ++ [y]))) else Nx H3) := by
  refine lc_relF (R := fun i y _ => y = f i) c w hD hz hG (fun _ _ _ _ _ h => h) (fun i x H H' hi s1 ha hy Rt Rk h1 h2 => hs i x H H' hi s1 ha hy Rt Rk h1 fun hc H4 s4 => h2 hc (f i) H4 s4 rfl) fun H ⟨acc, la, hDa, s1, hr⟩ => hd H ?_ s1
  rw [hDa]
  congr 2
  refine List.ext_getElem (by simp [la]) fun k k1 k2 => ?_
  have h2 : k < ((List.range n).filter c).length := by rw [← la]; exact k1
  have := hr k acc[k] _ (List.getElem?_eq_getElem k1) (List.getElem?_eq_getElem h2)
  rw [this]
  simp
end
theorem range_map_getD {α β : Type} (l : List α) (d : α) (g : α → β) : (List.range l.length).map (fun i => g (l.getD i d)) = l.map g := by
  refine List.ext_getElem (by simp) fun i h1 h2 => ?_
  simp at h2
  simp [List.getD_eq_getElem?_getD, List.getElem?_eq_getElem h2]
theorem erase_filter {α β : Type} (d : α) (f : α → β) : ∀ (l : List α) (k : Nat), (l.eraseIdx k).map f = ((List.range l.length).filter (fun i => i != k)).map (fun i => f (l.getD i d))
  | [], k => by simp
  | a :: l, 0 => by
    rw [List.length_cons, List.range_succ_eq_map, List.filter_cons_of_neg (by simp), List.filter_map, List.map_map]
    rw [List.filter_eq_self.mpr (by intro i _; simp)]
    show l.map f = _
    rw [← range_map_getD l d f]
    rfl
  | a :: l, k + 1 => by
    have ih := erase_filter d f l k
    rw [List.length_cons, List.range_succ_eq_map, List.filter_cons_of_pos (by simp), List.filter_map, List.map_cons, List.map_map]
    show f a :: (l.eraseIdx k).map f = _
    rw [ih]
    congr 1
    have e : (fun i => i != k + 1) ∘ Nat.succ = fun i => i != k := by
      funext i
      simp [Function.comp]
    rw [e]
    rfl
theorem find_filter {α : Type} (d : α) (p : α → Bool) : ∀ (l : List α), ((List.range l.length).filter (fun i => p (l.getD i d))).head? = l.findIdx? p
  | [] => rfl
  | a :: l => by
    have ih := find_filter d p l
    rw [List.length_cons, List.range_succ_eq_map]
    by_cases h : p a = true
    · rw [List.filter_cons_of_pos (by simpa using h)]
      simp [List.findIdx?_cons, h]
    · rw [List.filter_cons_of_neg (by simpa using h), List.filter_map]
      have e : (fun i => p ((a :: l).getD i d)) ∘ Nat.succ = fun i => p (l.getD i d) := by
        funext i
        simp [Function.comp]
      rw [e, List.head?_map, ih, List.findIdx?_cons]
      simp [h]
end K0


set_option Elab.async false
set_option linter.all false
set_option maxRecDepth 100000
set_option maxHeartbeats 4000000
set_option exponentiation.threshold 100000
namespace K0
open PySem PySem.Spec PyProof.Rows L2 RZ K0z K3

theorem gcdL_take {ns : List Int} {i : Nat} {n : Int} (h : ns[i]? = some n) : gcdL (ns.take (i + 1)) = Nat.gcd (gcdL (ns.take i)) n.natAbs := by
  unfold gcdL
  rw [take_get h, List.foldl_append]
  rfl
theorem gfold_one : ∀ (ns : List Int), ns.foldl gstep 1 = 1
  | [] => rfl
  | n :: r => by
    show r.foldl gstep (Nat.gcd 1 n.natAbs) = 1
    rw [Nat.gcd_one_left]
    exact gfold_one r
theorem gcdL_of_one {ns : List Int} {i : Nat} (h : gcdL (ns.take i) = 1) : gcdL ns = 1 := by
  have e : ns = ns.take i ++ ns.drop i := (List.take_append_drop i ns).symm
  unfold gcdL at h ⊢
  rw [e, List.foldl_append, h]
  exact gfold_one _
theorem map_int_get {ns : List Int} {i : Nat} {x : V} (h : (ns.map V.int)[i]? = some x) : ∃ n, ns[i]? = some n ∧ x = .int n := by
  rw [List.getElem?_map] at h
  cases e : ns[i]? with
  | none => rw [e] at h; cases h
  | some z =>
    rw [e] at h
    exact ⟨z, rfl, (Option.some.inj h).symm⟩
/-! ### vectors, lists of vectors -/
/-- a list or a tuple of these ints -/
def VecAt (K : PySem.W.Frag) (H : Hp) (v : V) (x : Vec) : Prop := ∃ b p, v = .ref p ∧ SqB K b H p (x.map V.int)
theorem VecAt.same {K : PySem.W.Frag} {H H' : Hp} {v : V} {x : Vec} (s : Same H H') (h : VecAt K H v x) : VecAt K H' v x := by
  obtain ⟨b, p, e, q⟩ := h
  exact ⟨b, p, e, q.same s⟩
theorem VecAt.tup {K : PySem.W.Frag} {H : Hp} {p : Addr} {x : Vec} (h : SqT K H p (x.map V.int)) : VecAt K H (.ref p) x := ⟨true, p, rfl, h⟩
theorem VecAt.lst {K : PySem.W.Frag} {H : Hp} {p : Addr} {x : Vec} (h : SqL K H p (x.map V.int)) : VecAt K H (.ref p) x := ⟨false, p, rfl, h⟩
/-- a list or tuple of such -/
def RowsAt (K : PySem.W.Frag) (H : Hp) (v : V) (M : List Vec) : Prop := ∃ b a, ∃ vs : List V, v = .ref a ∧ SqB K b H a vs ∧ vs.length = M.length ∧ ∀ (i : Nat) (u : V) (x : Vec), vs[i]? = some u → M[i]? = some x → VecAt K H u x
theorem RowsAt.same {K : PySem.W.Frag} {H H' : Hp} {v : V} {M : List Vec} (s : Same H H') (h : RowsAt K H v M) : RowsAt K H' v M := by
  obtain ⟨b, a, vs, e, q, l, z⟩ := h
  exact ⟨b, a, vs, e, q.same s, l, fun i u x h1 h2 => (z i u x h1 h2).same s⟩
theorem RowsAt.get {K : PySem.W.Frag} {H : Hp} {vs : List V} {M : List Vec} (l : vs.length = M.length) (z : ∀ (i : Nat) (u : V) (x : Vec), vs[i]? = some u → M[i]? = some x → VecAt K H u x) {i : Nat} (hi : i < M.length) :
    ∃ u, vs[i]? = some u ∧ M[i]? = some M[i] ∧ VecAt K H u M[i] := by
  have h1 : vs[i]? = some (vs[i]'(by omega)) := List.getElem?_eq_getElem (by omega)
  have h2 : M[i]? = some M[i] := List.getElem?_eq_getElem hi
  exact ⟨_, h1, h2, z i _ _ h1 h2⟩
/-- small ints -/
def Sm (x : Vec) : Prop := x.length ≤ 100 ∧ ∀ b ∈ x, b.natAbs < 2 ^ 4000
theorem gcd_lt {v : Vec} {n : Nat} (h : ∀ b ∈ v, b.natAbs < 2 ^ n) : gcdL v < 2 ^ n := by
  by_cases z : ∀ b ∈ v, b = 0
  · have : gcdL v = 0 := by
      have : (0 : Nat) ∣ gcdL v := gf_great v 0 0 (Nat.dvd_refl 0) fun b hb => by rw [z b hb]; exact Nat.dvd_refl _
      exact Nat.eq_zero_of_zero_dvd this
    rw [this]
    exact Nat.pow_pos (by decide)
  · simp only [Classical.not_forall] at z
    obtain ⟨b, hb, n0⟩ := z
    have := Nat.le_of_dvd (by omega) ((gf_dvd v 0).2 b hb)
    exact Nat.lt_of_le_of_lt this (h b hb)

def spDiv (K : PySem.W.Frag) : Sp := fun vs H Q _ => ∃ (v : V) (ns : Vec), vs = [v] ∧ VecAt K H v ns ∧ ∀ H', Same H H' → Q (.int (gcdL ns : Nat)) H'
def spRed (K : PySem.W.Frag) : Sp := fun vs H Q _ => ∃ (v : V) (ns : Vec), vs = [v] ∧ VecAt K H v ns ∧ ns.length ≤ 100 ∧ (∀ b ∈ ns, b.natAbs < 2 ^ 9000) ∧
  ∀ (p : Addr) (H' : Hp), Same H H' → SqT K H' p ((redL ns).map V.int) → Q (.ref p) H'
section
variable {P : Program} {w : World} {K : PySem.W.Frag} {mg : Str → Option Value} {base : Heap} {f g g2 g3 : Addr} {fd : FuncData}
theorem sc_divisor_of : FnScope ["values", "divisor", "value"] ["values"] (defScope st_divisor_of) := ⟨rfl, rfl, rfl, by decide +kernel, rfl, by decide +kernel, by decide +kernel⟩
theorem ok_divisor_of (F : Fun K "divisor_of" "divisor_of" st_divisor_of f fd) (T : Nm mg) : FnOk P w K mg base CX0 1 f fd ["values"] (spDiv K) := by
  refine F.ok sc_divisor_of (fun vs H Q E h => ?_) (fun cdv A outer s H vs Q E hr h => ?_)
  · obtain ⟨v, ns, rfl, _⟩ := h
    rfl
  · obtain ⟨v, ns, rfl, ⟨b, a, rfl, hS⟩, k⟩ := h
    refine ⟨_, (pss_cons (ps_set (i := 1) sc_divisor_of.nd rfl (Or.inl rfl) pe_int)
    (pss_cons (ps_for PassesOwn.never rfl (pi_seq (pv 0)) (pg_name (i := 2) sc_divisor_of.nd rfl (Or.inl rfl))
      (pss_cons (ps_set (i := 1) sc_divisor_of.nd rfl (Or.inl rfl) (pe_callBfun cr_gcd (by rfl) T.m_gcd (pa_cons (pv 1) (pa_cons (pv 2) pa_nil))))
    (pss_one (ps_if (pt_cmpR op_eq (pv 1) pe_int (nomark _)) (pss_one (ps_ret pe_int)) pss_nil))))
    (pss_one (ps_ret (pv 1))))), ?_⟩
    refine ⟨_, rfl, b, a, rfl, ⟨_, hS⟩, for_it walk_seq (fun i σ H2 => H2 = H ∧ ∃ v3 : Option V, σ = [some (.ref a), some (.int (gcdL (ns.take i) : Nat)), v3])
        ⟨rfl, none, rfl⟩ (fun i σ H2 _ p => by rw [p.1]; exact hS) ?_ ?_⟩
    · rintro i x σ H2 H3 hi ⟨rfl, v3, rfl⟩ ⟨rfl, hx⟩
      obtain ⟨n, hn', rfl⟩ := map_int_get hx
      refine ⟨_, rfl, _, rfl, ((gcdL (ns.take i) : Nat) : Int), n, rfl, ?_⟩
      have e : Nat.gcd ((gcdL (ns.take i) : Nat) : Int).natAbs n.natAbs = gcdL (ns.take (i + 1)) := (gcdL_take hn').symm
      rw [e]
      refine ⟨_, rfl, rfl, _, rfl, ?_⟩
      by_cases c : gcdL (ns.take (i + 1)) = 1
      · rw [c]
        refine iteT ?_
        have q := k H3 (Same.refl H3)
        rw [gcdL_of_one c] at q
        exact q
      · have c' : decide (V.int ((gcdL (ns.take (i + 1)) : Nat) : Int) = V.int 1) = false := decide_eq_false fun z => c (by
          have z' := V.int.inj z
          omega)
        rw [c']
        exact iteF ⟨rfl, _, rfl⟩
    · rintro σ H2 ⟨rfl, v3, rfl⟩
      refine ⟨_, rfl, ?_⟩
      rw [List.length_map, List.take_length]
      exact k _ (Same.refl _)
theorem sc_reduced : FnScope ["values", "divisor", "value"] ["values"] (defScope st_reduced) := ⟨rfl, rfl, rfl, by decide +kernel, rfl, by decide +kernel, by decide +kernel⟩
theorem range_map_get {α β : Type} (l : List α) (d : α) (g : α → β) : (List.range l.length).map (fun i => g (l.getD i d)) = l.map g := by
  refine List.ext_getElem (by simp) fun i h1 h2 => ?_
  simp at h2
  simp [List.getD_eq_getElem?_getD, List.getElem?_eq_getElem h2]
theorem ok_reduced (F : Fun K "reduced" "reduced" st_reduced f fd) (T : Nm mg) (D_divisor_of : Dn P w K mg base 1 "divisor_of" g ["values"] (spDiv K)) :
    FnOk P w K mg base CX0 2 f fd ["values"] (spRed K) := by
  refine F.ok sc_reduced (fun vs H Q E h => ?_) (fun cdv A outer s H vs Q E hr h => ?_)
  · obtain ⟨v, ns, rfl, _⟩ := h
    rfl
  · obtain ⟨v, ns, rfl, hq, hl, hb, k⟩ := h
    obtain ⟨b, a, rfl, hS⟩ := id hq
    refine ⟨_, (pss_cons (ps_set (i := 1) sc_reduced.nd rfl (Or.inr rfl) (pe_dn D_divisor_of (hr.mono (by decide)) rfl (pa_cons (pv 0) pa_nil)))
    (pss_cons (ps_if (pt_cmpR op_le (pv 1) pe_int (nomark _)) (pss_one (ps_ret (pe_callTy call_tuple_of (by rfl) T.n_tuple (by decide +kernel) (pa_cons (pv 0) pa_nil)))) pss_nil)
    (pss_one (ps_ret (pe_callTy call_tuple_of (by rfl) T.n_tuple (by decide +kernel) (pa_cons (pe_lc (own := [("value", 2)]) (g := gName 2) (tt := tYes) rfl sc_reduced.nd (pi_seq (pv 0)) (blkOk_by (N := ["values", "divisor", "value"]) (sc := defScope st_reduced) (by decide +kernel)) (fun _ _ _ _ _ => (pg_name (i := 2) sc_reduced.nd rfl (Or.inl rfl))) (fun _ _ _ _ _ => pts_nil) (fun _ _ _ _ _ => (pe_op op_fdivW (pv 2) (pv 1)))) pa_nil)))))), ?_⟩
    refine ⟨_, rfl, .ref a, ns, rfl, hq, fun H1 s1 => ?_⟩
    refine ⟨_, rfl, _, _, rfl, rfl, _, rfl, ?_⟩
    by_cases c : (gcdL ns : Int) ≤ 1
    · rw [decide_eq_true c]
      refine iteT ⟨_, rfl, a, ns.map V.int, rfl, ?_⟩
      have er : redL ns = ns := by
        unfold redL
        rw [if_pos c]
      rcases (hS.same s1).to with hS | hS
      · refine .inl ⟨hS, fun l hl => k l _ (s1.trans (same_upd hl)) ?_⟩
        rw [er]
        exact .inl (.inl upd_same)
      · refine .inr ⟨hS, k a H1 s1 ?_⟩
        rw [er]
        exact hS
    · rw [decide_eq_false c]
      refine iteF ?_
      have er : redL ns = ns.map fun n => n / (gcdL ns : Int) := by
        unfold redL
        rw [if_neg c]
      refine ⟨_, rfl, b, a, rfl, ⟨_, hS.same s1⟩, fun D hD => lc_fun (fun i => V.int (ns.getD i 0 / (gcdL ns : Int))) walk_seq hD (by rw [List.length_map]; exact Nat.lt_of_le_of_lt hl (by decide)) (fun H2 s2 => hS.same (s1.trans s2)) ?_ ?_⟩
      · rintro i x H2 H3 hi s2 ha ⟨rfl, hx⟩ Rk kk
        obtain ⟨n, hn, rfl⟩ := map_int_get hx
        refine ⟨rfl, _, rfl, _, rfl, n, _, rfl, rfl, wide_div (b := 9000) (by omega) (gcd_lt hb) (by decide) (by decide), ?_⟩
        have e := kk _ (Same.refl _)
        rw [List.getD_eq_getElem?_getD, hn] at e
        exact e
      · intro H2 hD2 s2
        refine ⟨D, _, rfl, .inl ⟨.of hD2, fun l hl => k l _ ((s1.trans s2).trans (same_upd hl)) ?_⟩⟩
        rw [er, List.length_map]
        have e2 : (List.range ns.length).map (fun i => V.int (ns.getD i 0 / (gcdL ns : Int))) = (ns.map fun n => n / (gcdL ns : Int)).map V.int := by
          rw [List.map_map]
          exact range_map_get ns 0 (V.int ∘ fun n => n / (gcdL ns : Int))
        rw [← e2]
        exact .inl (.inl upd_same)
/-! ### products -/
def spProd (K : PySem.W.Frag) : Sp := fun vs H Q _ => ∃ (u v : V) (x y : Vec), vs = [u, v] ∧ VecAt K H u x ∧ VecAt K H v y ∧ Sm x ∧ Sm y ∧ ∀ H', Same H H' → Q (.int (dot x y)) H'
theorem sc_product_of : FnScope ["row", "other", "one", "two"] ["row", "other"] (defScope st_product_of) := ⟨rfl, rfl, rfl, by decide +kernel, rfl, by decide +kernel, by decide +kernel⟩
theorem sum_dot : ∀ (x y : Vec), ((List.range (min x.length y.length)).map fun i => x.getD i 0 * y.getD i 0).sum = dot x y
  | [], y => by simp [dot_nil_l]
  | a :: as, [] => by simp [dot]
  | a :: as, b :: bs => by
    have ih := sum_dot as bs
    have e : min (a :: as).length (b :: bs).length = min as.length bs.length + 1 := by simp only [List.length_cons]; omega
    rw [e, List.range_succ_eq_map, List.map_cons, List.map_map, List.sum_cons]
    show a * b + _ = a * b + dot as bs
    rw [← ih]
    congr 2
theorem ok_product_of (F : Fun K "product_of" "product_of" st_product_of f fd) (T : Nm mg) : FnOk P w K mg base CX0 1 f fd ["row", "other"] (spProd K) := by
  refine F.ok sc_product_of (fun vs H Q E h => ?_) (fun cdv A outer s H vs Q E hr h => ?_)
  · obtain ⟨u, v, x, y, rfl, _⟩ := h
    rfl
  · obtain ⟨u, v, x, y, rfl, ⟨b1, p, rfl, hx⟩, ⟨b2, q, rfl, hy⟩, hX, hY, k⟩ := h
    refine ⟨_, (pss_one (ps_ret (pe_callB (cr_sum rfl) (by rfl) T.n_sum (by decide +kernel) (pa_cons (pe_lc (own := [("one", 2), ("two", 3)]) (g := gTup K 2 (gCons (gName 2) (gCons (gName 3) gNil))) (tt := tYes) rfl sc_product_of.nd (pi_zipM (by rfl) T.n_zip (pa_cons (pv 0) (pa_cons (pv 1) pa_nil))) (blkOk_by (N := ["row", "other", "one", "two"]) (sc := defScope st_product_of) (by decide +kernel)) (fun _ _ _ _ _ => (pg_tup (by rfl) (pgs_cons (pg_name (i := 2) sc_product_of.nd rfl (Or.inl rfl)) (pgs_cons (pg_name (i := 3) sc_product_of.nd rfl (Or.inl rfl)) pgs_nil)))) (fun _ _ _ _ _ => pts_nil) (fun _ _ _ _ _ => (pe_op op_mulW (pv 2) (pv 3)))) pa_nil)))), ?_⟩
    refine ⟨_, rfl, _, rfl, b1, b2, p, q, x.map V.int, y.map V.int, rfl, hx, hy, fun D hD => lc_fun (fun i => V.int (x.getD i 0 * y.getD i 0)) (walk_zipM rfl) hD ?_ (fun H2 s2 => ⟨hx.same s2, hy.same s2⟩) ?_ ?_⟩
    · rw [List.length_map, List.length_map]
      have := hX.1
      exact Nat.lt_of_le_of_lt (Nat.le_trans (Nat.min_le_left _ _) this) (by decide)
    · rintro i v H2 H3 hi s2 ha ⟨T', x', y', rfl, hT, rfl, e1, e2⟩ Rk kk
      obtain ⟨n, hn, rfl⟩ := map_int_get e1
      obtain ⟨m, hm, rfl⟩ := map_int_get e2
      refine ⟨T', _, rfl, .of upd_same, rfl, _, _, rfl, _, _, rfl, rfl, rfl, _, rfl, _, rfl, n, m, rfl, rfl, wide_mul (a := 4000) (b := 4000) (hX.2 n (List.mem_of_getElem? hn)) (hY.2 m (List.mem_of_getElem? hm)) (by decide) (by decide) (by decide), ?_⟩
      have e := kk _ (same_upd (o := .tup [.int n, .int m]) hT)
      rw [List.getD_eq_getElem?_getD, List.getD_eq_getElem?_getD, hn, hm] at e
      exact e
    · intro H2 hD2 s2
      refine ⟨D, (List.range (min x.length y.length)).map (fun i => x.getD i 0 * y.getD i 0), rfl, .of ?_, ?_⟩
      · rw [hD2, List.length_map, List.length_map, List.map_map]
        rfl
      · rw [sum_dot]
        exact k H2 s2
end
end K0


set_option Elab.async false
set_option linter.all false
set_option maxRecDepth 100000
set_option maxHeartbeats 4000000
set_option exponentiation.threshold 100000
namespace K0
open PySem PySem.Spec PyProof.Rows L2 RZ K0z K3

section
variable {P : Program} {w : World} {K : PySem.W.Frag} {mg : Str → Option Value} {base : Heap} {f g g2 g3 : Addr} {fd : FuncData}
/-- a list of new tuples, one for each vector -/
def TupsAt (K : PySem.W.Frag) (H : Hp) (v : V) (M : List Vec) : Prop := ∃ a, ∃ vs : List V, v = .ref a ∧ SqL K H a vs ∧ vs.length = M.length ∧ ∀ (i : Nat) (u : V) (x : Vec), vs[i]? = some u → M[i]? = some x → ∃ p, u = .ref p ∧ SqT K H p (x.map V.int)
theorem TupsAt.same {K : PySem.W.Frag} {H H' : Hp} {v : V} {M : List Vec} (s : Same H H') (h : TupsAt K H v M) : TupsAt K H' v M := by
  obtain ⟨a, vs, e, q, l, z⟩ := h
  exact ⟨a, vs, e, Same.seq s q, l, fun i u x h1 h2 => let ⟨p, e, t⟩ := z i u x h1 h2; ⟨p, e, same_sqT s t⟩⟩
theorem TupsAt.get {K : PySem.W.Frag} {H : Hp} {vs : List V} {M : List Vec} (l : vs.length = M.length) (z : ∀ (i : Nat) (u : V) (x : Vec), vs[i]? = some u → M[i]? = some x → ∃ p, u = .ref p ∧ SqT K H p (x.map V.int)) {i : Nat} (hi : i < M.length) :
    ∃ p, vs[i]? = some (.ref p) ∧ M[i]? = some M[i] ∧ SqT K H p (M[i].map V.int) := by
  have h1 : vs[i]? = some (vs[i]'(by omega)) := List.getElem?_eq_getElem (by omega)
  have h2 : M[i]? = some M[i] := List.getElem?_eq_getElem hi
  obtain ⟨p, e, t⟩ := z i _ _ h1 h2
  exact ⟨p, by rw [h1, e], h2, t⟩
/-- what a comprehension of new tuples has made -/
theorem tups_of {H1 H : Hp} {D : Addr} {M : List Vec} {n : Nat} (h : LcR H1 D (fun i y H => ∃ (p : Addr) (x : Vec), y = .ref p ∧ M[i]? = some x ∧ SqT K H p (x.map V.int)) n H) (hn : M.length = n) : TupsAt K H (.ref D) M := by
  obtain ⟨acc, la, hD, s, hr⟩ := h
  refine ⟨D, acc, rfl, .of hD, by rw [la, hn], fun i u x h1 h2 => ?_⟩
  obtain ⟨p, x', e, ex, t⟩ := hr i u h1
  rw [h2] at ex
  cases ex
  exact ⟨p, e, same_sqT (off_same D H) t⟩
def spUnits (K : PySem.W.Frag) : Sp := fun vs H Q _ => ∃ n : Nat, vs = [.int (n : Nat)] ∧ n ≤ 16 ∧ ∀ (v : V) (H' : Hp), Same H H' → TupsAt K H' v (units n) → Q v H'
abbrev scU : Scope := { kind := ScopeKind.function, names := [((".0" : Str), NameKind.local), (("at" : Str), NameKind.cell), (("tuple" : Str), NameKind.globalImplicit), (("range" : Str), NameKind.globalImplicit), (("wide" : Str), NameKind.cell)], isGenerator := false, isCoroutine := false }
theorem sc_unit_rows : FnScope ["wide", "place", "at"] ["wide"] (defScope st_unit_rows) := ⟨rfl, rfl, rfl, by decide +kernel, rfl, by decide +kernel, by decide +kernel⟩
theorem ok_unit_rows (F : Fun K "unit_rows" "unit_rows" st_unit_rows f fd) (T : Nm mg) : FnOk P w K mg base CX0 1 f fd ["wide"] (spUnits K) := by
  refine F.ok sc_unit_rows (fun vs H Q E h => ?_) (fun cdv A outer s H vs Q E hr h => ?_)
  · obtain ⟨n, rfl, _⟩ := h
    rfl
  · obtain ⟨n, rfl, hn, k⟩ := h
    refine ⟨_, (pss_one (ps_ret (pe_lc (own := [("at", 2)]) (g := gName 2) (tt := tYes) rfl sc_unit_rows.nd (pi_range1 (by rfl) T.n_range (pa_cons (pv 0) pa_nil)) (blkOk_by (N := ["wide", "place", "at"]) (sc := defScope st_unit_rows) (by decide +kernel)) (fun _ _ _ _ _ => (pg_name (i := 2) sc_unit_rows.nd rfl (Or.inr rfl))) (fun _ _ _ _ _ => pts_nil) (fun _ _ _ _ _ => (pe_callTy (call_tupK K) (by rfl) T.n_tuple (by decide +kernel) (pa_cons (pe_lc (own := [("place", 1)]) (g := gName 1) (tt := tYes) rfl sc_unit_rows.nd (pi_range1 (by rfl) T.n_range (pa_cons (pv 0) pa_nil)) (blkOk_by (N := ["wide", "place", "at"]) (sc := scU) (by decide +kernel)) (fun _ _ _ _ _ => (pg_name (i := 1) sc_unit_rows.nd rfl (Or.inl rfl))) (fun _ _ _ _ _ => pts_nil) (fun _ _ _ _ _ => (pe_callTy call_int1 (by rfl) T.n_int (by decide +kernel) (pa_cons (pe_cmpR op_eq (pv 1) (pv 2) (nomark _)) pa_nil)))) pa_nil)))))), ?_⟩
    refine ⟨_, rfl, _, rfl, by omega, by omega, fun D hD => lc_rel (R := fun i y H => ∃ (p : Addr) (x : Vec), y = .ref p ∧ (units n)[i]? = some x ∧ SqT K H p (x.map V.int)) (n := n) walk_range hD (Nat.lt_of_le_of_lt hn (by decide)) (fun _ _ => trivial)
      (fun i y H H' s ⟨p, x, e1, e2, t⟩ => ⟨p, x, e1, e2, same_sqT s t⟩) ?_ fun H2 q => k _ H2 ?_ (tups_of q (by simp [units]))⟩
    · rintro i x H2 H3 hi s2 ⟨acc, hacc⟩ ⟨rfl, rfl⟩ Rk kk
      refine ⟨rfl, _, rfl, _, rfl, by omega, by omega, fun D2 hD2 => lc_fun (fun j => V.int (if j = i then 1 else 0)) (n := n) walk_range hD2 (Nat.lt_of_le_of_lt hn (by decide)) (fun _ _ => trivial) ?_ ?_⟩
      · rintro j y H4 H5 hj s4 _ ⟨rfl, rfl⟩ Rk2 kk2
        refine ⟨rfl, _, rfl, _, rfl, rfl, .inr ⟨_, rfl, ?_⟩⟩
        have e := kk2 H5 (Same.refl _)
        have c : (if decide (V.int (0 + (j : Nat)) = V.int (0 + (i : Nat))) = true then (1 : Int) else 0) = if j = i then 1 else 0 := by
          by_cases z : j = i
          · subst z; simp
          · rw [if_neg z, if_neg]
            intro q
            have := V.int.inj (of_decide_eq_true q)
            omega
        rw [c]
        exact e
      · intro H4 hD4 s4
        refine ⟨false, D2, _, rfl, .of hD4, fun _ l hl => kk _ _ (s4.trans (same_upd hl)) ⟨l, unit n i, rfl, by simp [units, hi], ?_⟩, fun z => by cases z⟩
        have nl : l ≠ D := fun z => by
          have := s4 _ _ hacc
          rw [z, this] at hl
          cases hl
        refine .of ?_
        rw [off_ne nl, upd_same]
        unfold unit
        rw [List.map_map]
        congr 2
    · obtain ⟨acc, _, _, s2, _⟩ := q
      exact s2
/-! ### without, narrowed -/
def spOut (K : PySem.W.Frag) : Sp := fun vs H Q _ => ∃ (a b : Addr) (x y : Vec) (p pp : Int), vs = [.ref a, .int p, .ref b, .int pp] ∧ SqT K H a (x.map V.int) ∧ SqT K H b (y.map V.int) ∧ x.length = y.length ∧ x.length ≤ 16 ∧
  (∀ c ∈ x, c.natAbs < 2 ^ 1000) ∧ (∀ c ∈ y, c.natAbs < 2 ^ 1000) ∧ p.natAbs < 2 ^ 2000 ∧ pp.natAbs < 2 ^ 2000 ∧
  ∀ (q : Addr) (H' : Hp), Same H H' → SqT K H' q ((wout x p y pp).map V.int) → Q (.ref q) H'
theorem sc_without : FnScope ["row", "product", "pivot_row", "pivot_product", "one", "two"] ["row", "product", "pivot_row", "pivot_product"] (defScope st_without) := ⟨rfl, rfl, rfl, by decide +kernel, rfl, by decide +kernel, by decide +kernel⟩
theorem lin_list (p q : Int) (x y : Vec) (h : x.length = y.length) : (List.range x.length).map (fun i => V.int (x.getD i 0 * p - y.getD i 0 * q)) = (lin p q x y).map V.int := by
  refine List.ext_getElem (by simp [lin, h]) fun i h1 h2 => ?_
  have h3 : i < (lin p q x y).length := by simpa using h2
  have e := lin_get p q x y h i
  rw [List.getD_eq_getElem?_getD, List.getElem?_eq_getElem h3] at e
  simp only [List.getElem_map, List.getElem_range]
  rw [← e]
  rfl
theorem lin_bound {p q : Int} {x y : Vec} (h : x.length = y.length) (hx : ∀ c ∈ x, c.natAbs < 2 ^ 1000) (hy : ∀ c ∈ y, c.natAbs < 2 ^ 1000) (hp : p.natAbs < 2 ^ 2000) (hq : q.natAbs < 2 ^ 2000) :
    ∀ b ∈ lin p q x y, b.natAbs < 2 ^ 9000 := by
  intro b hb
  obtain ⟨i, hi, rfl⟩ := List.mem_iff_getElem.mp hb
  have e := lin_get p q x y h i
  rw [List.getD_eq_getElem?_getD, List.getElem?_eq_getElem hi, Option.getD_some] at e
  rw [e]
  have q0 : (0 : Int).natAbs < 2 ^ 1000 := Nat.pow_pos (by decide)
  have x1 := getD_mem (i := i) (P := fun v => v.natAbs < 2 ^ 1000) q0 hx
  have x2 := getD_mem (i := i) (P := fun v => v.natAbs < 2 ^ 1000) q0 hy
  have y1 := wide_lt x1 hp
  have y2 := wide_lt x2 hq
  have z := Int.natAbs_sub_le (x.getD i 0 * p) (y.getD i 0 * q)
  have b1 : 2 ^ (1000 + 2000) + 2 ^ (1000 + 2000) = 2 ^ 3001 := by rw [show 3001 = 3000 + 1 from rfl, Nat.pow_succ, Nat.mul_two]
  have b2 : 2 ^ 3001 ≤ 2 ^ 9000 := Nat.pow_le_pow_right (by decide) (by decide)
  generalize 2 ^ 9000 = B at b2 ⊢
  generalize 2 ^ 3001 = C at b1 b2
  generalize 2 ^ (1000 + 2000) = D at y1 y2 b1
  omega
theorem ok_without (F : Fun K "without" "without" st_without f fd) (T : Nm mg) (D_reduced : Dn P w K mg base 2 "reduced" g ["values"] (spRed K)) : FnOk P w K mg base CX0 3 f fd ["row", "product", "pivot_row", "pivot_product"] (spOut K) := by
  refine F.ok sc_without (fun vs H Q E h => ?_) (fun cdv A outer s H vs Q E hr h => ?_)
  · obtain ⟨a, b, x, y, p, pp, rfl, _⟩ := h
    rfl
  · obtain ⟨a, b, x, y, p, pp, rfl, hx, hy, hl, h16, bx, by_, bp, bpp, k⟩ := h
    refine ⟨_, (pss_cons (ps_if (pt_cmpR op_eq (pv 1) pe_int (nomark _)) (pss_one (ps_ret (pv 0))) pss_nil)
    (pss_one (ps_ret (pe_dn D_reduced (hr.mono (by decide)) rfl (pa_cons (pe_lc (own := [("one", 4), ("two", 5)]) (g := gTup K 2 (gCons (gName 4) (gCons (gName 5) gNil))) (tt := tYes) rfl sc_without.nd (pi_zipM (by rfl) T.n_zip (pa_cons (pv 0) (pa_cons (pv 2) pa_nil))) (blkOk_by (N := ["row", "product", "pivot_row", "pivot_product", "one", "two"]) (sc := defScope st_without) (by decide +kernel)) (fun _ _ _ _ _ => (pg_tup (by rfl) (pgs_cons (pg_name (i := 4) sc_without.nd rfl (Or.inl rfl)) (pgs_cons (pg_name (i := 5) sc_without.nd rfl (Or.inl rfl)) pgs_nil)))) (fun _ _ _ _ _ => pts_nil) (fun _ _ _ _ _ => (pe_op op_sub (pe_op op_mulW (pv 4) (pv 3)) (pe_op op_mulW (pv 5) (pv 1))))) pa_nil))))), ?_⟩
    refine ⟨_, rfl, rfl, _, rfl, ?_⟩
    by_cases c : p = 0
    · have e : decide (V.int p = V.int 0) = true := by rw [c]; rfl
      rw [e]
      refine iteT ⟨_, rfl, k a H (Same.refl H) ?_⟩
      unfold wout
      rw [if_pos c]
      exact hx
    · have e : decide (V.int p = V.int 0) = false := decide_eq_false fun z => c (V.int.inj z)
      rw [e]
      refine iteF ?_
      refine ⟨_, rfl, _, rfl, true, true, a, b, x.map V.int, y.map V.int, rfl, hx, hy, fun D hD => lc_fun (fun i => V.int (x.getD i 0 * pp - y.getD i 0 * p)) (walk_zipM rfl) hD ?_ (fun H2 s2 => ⟨SqB.same (b := true) s2 hx, SqB.same (b := true) s2 hy⟩) ?_ ?_⟩
      · rw [List.length_map, List.length_map]
        exact Nat.lt_of_le_of_lt (Nat.le_trans (Nat.min_le_left _ _) h16) (by decide)
      · rintro i v H2 H3 hi s2 ha ⟨T', x', y', rfl, hT, rfl, e1, e2⟩ Rk kk
        obtain ⟨n, hn, rfl⟩ := map_int_get e1
        obtain ⟨m, hm, rfl⟩ := map_int_get e2
        have bn := bx n (List.mem_of_getElem? hn)
        have bm := by_ m (List.mem_of_getElem? hm)
        refine ⟨T', _, rfl, .of upd_same, rfl, _, _, rfl, _, _, rfl, rfl, rfl, _, rfl, _, rfl, n, pp, rfl, rfl, wide_mul bn bpp (by decide) (by decide) (by decide), _, rfl, _, rfl, m, p, rfl, rfl, wide_mul bm bp (by decide) (by decide) (by decide), _, _, rfl, rfl, ?_⟩
        have e := kk _ (same_upd (o := .tup [.int n, .int m]) hT)
        rw [List.getD_eq_getElem?_getD, List.getD_eq_getElem?_getD, hn, hm] at e
        exact e
      · intro H2 hD2 s2
        have e0 : min (x.map V.int).length (y.map V.int).length = x.length := by rw [List.length_map, List.length_map, ← hl]; omega
        rw [e0, lin_list pp p x y hl] at hD2
        refine ⟨.ref D, lin pp p x y, rfl, ⟨false, D, rfl, .of hD2⟩, by rw [lin_len rfl hl.symm]; omega, lin_bound hl bx by_ bpp bp, fun q H3 s3 hq => k q H3 (s2.trans s3) ?_⟩
        unfold wout
        rw [if_neg c]
        exact hq
end
end K0


set_option Elab.async false
set_option linter.all false
set_option maxRecDepth 100000
set_option maxHeartbeats 4000000
set_option exponentiation.threshold 100000
namespace K0
open PySem PySem.Spec PyProof.Rows L2 RZ K0z K3

section
variable {P : Program} {w : World} {K : PySem.W.Frag} {mg : Str → Option Value} {base : Heap} {f g g2 g3 : Addr} {fd : FuncData}
structure HeldOk (n : Nat) (held : List Vec) : Prop where
  len : held.length ≤ 16
  wid : ∀ h ∈ held, h.length = n
  n16 : n ≤ 16
  bd : ∀ h ∈ held, ∀ b ∈ h, b.natAbs < 2 ^ 1000
structure RowOk (row : Vec) : Prop where
  len : row.length ≤ 16
  bd : ∀ b ∈ row, b.natAbs < 2 ^ 100
def spNarrow (K : PySem.W.Frag) : Sp := fun vs H Q _ => ∃ (v u : V) (n : Nat) (held : List Vec) (row : Vec), vs = [v, u] ∧ TupsAt K H v held ∧ VecAt K H u row ∧ HeldOk n held ∧ RowOk row ∧
  ∀ (v' : V) (H' : Hp), Same H H' → TupsAt K H' v' (narrow held row) → Q v' H'
theorem sqT_off {H : Hp} {D q : Addr} {acc xs : List V} (h : H D = some (.lst acc)) (t : SqT K H q xs) : SqT K (Off D H) q xs := by
  have ne : ∀ o, H q = some o → (∀ l, o ≠ .lst l) → Off D H q = some o := fun o e n => by
    rw [off_ne (fun z => by rw [z, h] at e; cases e; exact n _ rfl)]
    exact e
  rcases t with (t | ⟨o, t⟩) | t
  · exact .inl (.inl (ne _ t fun l z => by cases z))
  · exact .inl (.inr ⟨o, ne _ t fun l z => by cases z⟩)
  · exact .inr t
theorem getD_of {α : Type} {l : List α} {i : Nat} (h : i < l.length) (d : α) : l.getD i d = l[i] := by
  rw [List.getD_eq_getElem?_getD, List.getElem?_eq_getElem h]
  rfl
theorem HeldOk.sm {n : Nat} {held : List Vec} (o : HeldOk n held) {h : Vec} (m : h ∈ held) : Sm h :=
  ⟨by have := o.n16; have := o.wid h m; omega, fun b hb => Nat.lt_of_lt_of_le (o.bd h m b hb) (Nat.pow_le_pow_right (by decide) (by decide))⟩
theorem RowOk.sm {row : Vec} (o : RowOk row) : Sm row := ⟨by have := o.len; omega, fun b hb => Nat.lt_of_lt_of_le (o.bd b hb) (Nat.pow_le_pow_right (by decide) (by decide))⟩
theorem prod_bound {h row : Vec} {n : Nat} {held : List Vec} (o : HeldOk n held) (m : h ∈ held) (r : RowOk row) : (dot h row).natAbs < 2 ^ 2000 := by
  have b1 := dot_bound (2 ^ 100) (2 ^ 1000) h row (fun i => Nat.le_of_lt (getD_mem (i := i) (P := fun v => v.natAbs < 2 ^ 1000) (Nat.pow_pos (by decide)) (o.bd h m))) fun b hb => Nat.le_of_lt (r.bd b hb)
  rw [o.wid h m, ← Nat.pow_add] at b1
  have b2 : n * 2 ^ (1000 + 100) ≤ 16 * 2 ^ 1100 := Nat.mul_le_mul_right _ o.n16
  have b3 : 16 * 2 ^ 1100 = 2 ^ 1104 := by rw [show (16 : Nat) = 2 ^ 4 from rfl, ← Nat.pow_add]
  have b4 : 2 ^ 1104 < 2 ^ 2000 := Nat.pow_lt_pow_right (by decide) (by decide)
  rw [b3] at b2
  exact Nat.lt_of_le_of_lt (Nat.le_trans b1 b2) b4
theorem sc_narrowed : FnScope ["held", "row", "products", "each", "pivots", "at", "pivot"] ["held", "row"] (defScope st_narrowed) := ⟨rfl, rfl, rfl, by decide +kernel, rfl, by decide +kernel, by decide +kernel⟩
theorem ok_narrowed (F : Fun K "narrowed" "narrowed" st_narrowed f fd) (T : Nm mg) (D_product_of : Dn P w K mg base 1 "product_of" g ["row", "other"] (spProd K)) (D_without : Dn P w K mg base 3 "without" g2 ["row", "product", "pivot_row", "pivot_product"] (spOut K)) :
    FnOk P w K mg base CX0 4 f fd ["held", "row"] (spNarrow K) := by
  refine F.ok sc_narrowed (fun vs H Q E h => ?_) (fun cdv A outer s H vs Q E hr h => ?_)
  · obtain ⟨v, u, n, held, row, rfl, _⟩ := h
    rfl
  · obtain ⟨v, u, n, held, row, rfl, hT, hV, ho, hro, k⟩ := h
    refine ⟨_, (pss_cons (ps_set (i := 2) sc_narrowed.nd rfl (Or.inr rfl) (pe_lc (own := [("each", 3)]) (g := gName 3) (tt := tYes) rfl sc_narrowed.nd (pi_seqK K (pv 0)) (blkOk_by (N := ["held", "row", "products", "each", "pivots", "at", "pivot"]) (sc := defScope st_narrowed) (by decide +kernel)) (fun _ _ _ _ _ => (pg_name (i := 3) sc_narrowed.nd rfl (Or.inl rfl))) (fun _ _ _ _ _ => pts_nil) (fun _ _ _ _ _ => (pe_dn D_product_of (hr.mono (by decide)) rfl (pa_cons (pv 3) (pa_cons (pv 1) pa_nil))))))
    (pss_cons (ps_setLc (i := 4) (own := [("at", 5)]) (g := gName 5) rfl sc_narrowed.nd rfl rfl (sw_true rfl rfl rfl (by decide +kernel)) (pi_range1 (by rfl) T.n_range (pa_cons (pe_callB (call_lenK K) (by rfl) T.n_len (by decide +kernel) (pa_cons (pv 0) pa_nil)) pa_nil)) (blkOk_by (N := ["held", "row", "products", "each", "pivots", "at", "pivot"]) (sc := defScope st_narrowed) (by decide +kernel)) (fun _ _ _ _ _ => (pg_name (i := 5) sc_narrowed.nd rfl (Or.inl rfl))) (fun _ _ _ _ _ => (pts_one (pt_cmpR op_ne (pe_ix (ix_K K) (pv 2) (pv 5) (fun _ _ => rfl)) pe_int (nomark _)))) (fun _ _ _ _ _ => (pv 5)))
    (pss_cons (ps_if (pt_not (pt_truth (pv 4) (by intro _; rfl))) (pss_one (ps_ret (pv 0))) pss_nil)
    (pss_cons (ps_set (i := 6) sc_narrowed.nd rfl (Or.inr rfl) (pe_ix (ix_K K) (pv 4) pe_int (fun _ _ => rfl)))
    (pss_one (ps_ret (pe_lc (own := [("at", 5)]) (g := gName 5) rfl sc_narrowed.nd (pi_range1 (by rfl) T.n_range (pa_cons (pe_callB (call_lenK K) (by rfl) T.n_len (by decide +kernel) (pa_cons (pv 0) pa_nil)) pa_nil)) (blkOk_by (N := ["held", "row", "products", "each", "pivots", "at", "pivot"]) (sc := defScope st_narrowed) (by decide +kernel)) (fun _ _ _ _ _ => (pg_name (i := 5) sc_narrowed.nd rfl (Or.inl rfl))) (fun _ _ _ _ _ => (pts_one (pt_cmpR op_ne (pv 5) (pv 6) (nomark _)))) (fun _ _ _ _ _ => (pe_dn D_without (hr.mono (by decide)) rfl (pa_cons (pe_ix (ix_K K) (pv 0) (pv 5) (fun _ _ => rfl)) (pa_cons (pe_ix (ix_K K) (pv 2) (pv 5) (fun _ _ => rfl)) (pa_cons (pe_ix (ix_K K) (pv 0) (pv 6) (fun _ _ => rfl)) (pa_cons (pe_ix (ix_K K) (pv 2) (pv 6) (fun _ _ => rfl)) pa_nil))))))))))))), ?_⟩
    obtain ⟨a, vs, rfl, hS, hl, hz⟩ := id hT
    have hl16 : vs.length < sizeLine := by rw [hl]; exact Nat.lt_of_le_of_lt ho.len (by decide)
    have hl17 : held.length < sizeLine := by rw [← hl]; exact hl16
    have lH := ho.len
    let prod : Nat → Int := fun i => dot (held.getD i []) row
    refine ⟨_, rfl, false, a, rfl, ⟨_, hS⟩, fun D hD => lc_fun (fun i => V.int (prod i)) (walk_seq (b := false)) hD hl16 (fun H2 s2 => SqB.same (b := false) s2 hS) ?_ ?_⟩
    · rintro i x H2 H3 hi s2 _ ⟨rfl, hx⟩ Rk kk
      have hi2 : i < held.length := by omega
      obtain ⟨p, hp, hm, ht⟩ := TupsAt.get hl hz hi2
      rw [hp] at hx
      cases hx
      refine ⟨rfl, _, rfl, _, rfl, .ref p, u, held[i], row, rfl, VecAt.tup (same_sqT s2 ht), hV.same s2, ho.sm (List.getElem_mem hi2), hro.sm, fun H4 s4 => ?_⟩
      have e : prod i = dot held[i] row := by show dot (held.getD i []) row = _; rw [getD_of hi2]
      rw [← e]
      exact kk H4 s4
    intro H1 hD1 s1
    rw [hl] at hD1
    have hDl : SqB K false H1 D ((List.range held.length).map fun i => V.int (prod i)) := .of hD1
    have prodAt : ∀ i, i < held.length → atI ((List.range held.length).map fun i => V.int (prod i)) ((0 : Int) + (i : Nat)) = some (.int (prod i)) := fun i hi => by
      rw [Int.zero_add]
      exact atI_nat (by simp [hi])
    -- pivots
    refine ⟨_, rfl, false, a, vs, rfl, Same.seq s1 hS, _, rfl, by omega, by rw [hl]; omega, fun D2 hD2 => ?_⟩
    rw [hl]
    refine lc_funF (fun i => prod i != 0) (fun i => V.int (0 + (i : Nat))) (walk_range (lo := 0) (n := held.length)) hD2 hl17 (fun _ _ => trivial) ?_ ?_
    · rintro i x H2 H3 hi s2 _ ⟨rfl, rfl⟩ Rt Rk h1 h2
      refine ⟨rfl, _, rfl, _, rfl, false, D, _, _, _, rfl, rfl, hDl.same s2, prodAt i hi, rfl, _, rfl, ?_⟩
      by_cases c : prod i = 0
      · rw [c]
        exact iteF (h1 (by simp [c]) H3 (Same.refl _))
      · have e : decide (V.int (prod i) = V.int 0) = false := decide_eq_false fun z => c (V.int.inj z)
        rw [e]
        exact iteT ⟨_, rfl, h2 (by simpa using c) H3 (Same.refl _)⟩
    intro H2 hD2' s2
    have fe := find_filter (([] : Vec)) (fun h => dot h row != 0) held
    have fe' : ((List.range held.length).filter fun i => prod i != 0).head? = held.findIdx? (fun h => dot h row != 0) := fe
    generalize hix : (List.range held.length).filter (fun i => prod i != 0) = ix at hD2' fe'
    have s02 : Same H H2 := s1.trans s2
    refine ⟨.ref D2, rfl, !ix.isEmpty, .inl ⟨_, .of hD2', by simp⟩, ?_⟩
    cases ix with
    | nil =>
      refine iteT ⟨_, rfl, k _ H2 s02 ?_⟩
      have e : narrow held row = held := by
        unfold narrow
        rw [← fe']
        rfl
      rw [e]
      exact hT.same s02
    | cons kk ks =>
      refine iteF ?_
      have hk : held.findIdx? (fun h => dot h row != 0) = some kk := fe'.symm
      obtain ⟨hkl, _⟩ := List.findIdx?_eq_some_iff_getElem.mp hk
      refine ⟨.ref D2, rfl, false, D2, _, 0, _, rfl, rfl, .of hD2', atI_nat (j := 0) rfl, ?_⟩
      refine ⟨_, rfl, false, a, vs, rfl, Same.seq s02 hS, _, rfl, by omega, by rw [hl]; omega, fun D3 hD3 => ?_⟩
      rw [hl]
      have hkk : held.getD kk [] = held[kk] := getD_of hkl _
      obtain ⟨pk, hpk, hmk, htk⟩ := TupsAt.get hl hz hkl
      refine lc_relF (R := fun i y H => ∃ p : Addr, y = .ref p ∧ SqT K H p ((wout (held.getD i []) (prod i) (held.getD kk []) (prod kk)).map V.int)) (fun i => i != kk) (walk_range (lo := 0) (n := held.length)) hD3 hl17 (fun _ _ => trivial)
        (fun i y H H' s ⟨p, e1, t⟩ => ⟨p, e1, same_sqT s t⟩) ?_ ?_
      · rintro i x H3 H4 hi s3 ⟨acc, hacc⟩ ⟨rfl, rfl⟩ Rt Rk h1 h2
        refine ⟨rfl, _, rfl, _, rfl, rfl, _, rfl, ?_⟩
        by_cases c : i = kk
        · have e : decide (V.int (0 + (i : Nat)) = V.int (0 + (kk : Nat))) = true := by rw [c]; simp
          rw [e]
          exact iteF (h1 (by simp [c]) H4 (Same.refl _))
        · have e : decide (V.int (0 + (i : Nat)) = V.int (0 + (kk : Nat))) = false := decide_eq_false fun z => c (by have := V.int.inj z; omega)
          rw [e]
          have s03 := s02.trans s3
          obtain ⟨p, hp, hm, ht⟩ := TupsAt.get hl hz hi
          have hii : held.getD i [] = held[i] := getD_of hi _
          have at0 : ∀ j : Nat, (q : Addr) → vs[j]? = some (.ref q) → atI vs ((0 : Int) + (j : Nat)) = some (.ref q) := fun j q e => by
            rw [Int.zero_add]
            exact atI_nat e
          refine iteT ⟨_, rfl, _, rfl, false, a, vs, _, _, rfl, rfl, Same.seq s03 hS, at0 i p hp, _, rfl, _, rfl, false, D, _, _, _, rfl, rfl, hDl.same (s2.trans s3), prodAt i hi, _, rfl, _, rfl, false, a, vs, _, _, rfl, rfl, Same.seq s03 hS, at0 kk pk hpk,
            _, rfl, _, rfl, false, D, _, _, _, rfl, rfl, hDl.same (s2.trans s3), prodAt kk hkl, p, pk, held[i], held[kk], prod i, prod kk, rfl, same_sqT s03 ht, same_sqT s03 htk, ?_⟩
          have mi := List.getElem_mem hi
          have mk := List.getElem_mem hkl
          have bi : (prod i).natAbs < 2 ^ 2000 := by
            have := prod_bound ho mi hro
            rw [← hii] at this
            exact this
          have bk : (prod kk).natAbs < 2 ^ 2000 := by
            have := prod_bound ho mk hro
            rw [← hkk] at this
            exact this
          have w1 := ho.wid _ mi
          have w2 := ho.wid _ mk
          refine ⟨by rw [w1, w2], by rw [w1]; exact ho.n16, ho.bd _ mi, ho.bd _ mk, bi, bk, fun q H5 s5 hq => h2 (by simpa using c) _ H5 s5 ⟨q, rfl, ?_⟩⟩
          rw [hii, hkk]
          exact sqT_off (s5 _ _ hacc) hq
      · rintro H3 ⟨acc, la, hD3', s3, hr⟩
        have en : narrow held row = ((List.range held.length).filter fun i => i != kk).map fun i => wout (held.getD i []) (prod i) (held.getD kk []) (prod kk) := by
          unfold narrow
          rw [hk]
          exact erase_filter [] (fun h => wout h (dot h row) (held.getD kk []) (dot (held.getD kk []) row)) held kk
        refine k _ H3 (s02.trans s3) ⟨D3, acc, rfl, .of hD3', ?_, fun j y x h1 h2 => ?_⟩
        · rw [la, en, List.length_map]
        · rw [en, List.getElem?_map] at h2
          cases hi : ((List.range held.length).filter fun i => i != kk)[j]? with
          | none => rw [hi] at h2; cases h2
          | some i =>
            rw [hi] at h2
            cases h2
            obtain ⟨p, e, t⟩ := hr j y i h1 hi
            exact ⟨p, e, same_sqT (off_same _ _) t⟩
/-! ### the rank -/
end
end K0


set_option Elab.async false
set_option linter.all false
set_option maxRecDepth 100000
set_option maxHeartbeats 4000000
set_option exponentiation.threshold 100000
namespace K0
open PySem PySem.Spec PyProof.Rows L2 RZ K0z K3

section
variable {P : Program} {w : World} {K : PySem.W.Frag} {mg : Str → Option Value} {base : Heap} {f g g2 g3 : Addr} {fd : FuncData}
/-- rows that the program can take: few, not wide, not great -/
structure MatOk (M : List Vec) : Prop where
  len : M.length ≤ 16
  row : ∀ r ∈ M, r.length ≤ 16 ∧ ∀ b ∈ r, b.natAbs < 2 ^ 100
theorem held_ok {M : List Vec} {n : Nat} (hn : n ≤ 9) (o : MatOk M) (i : Nat) : HeldOk n (heldM n (M.take i)) := by
  obtain ⟨h1, h2⟩ := held_facts n (M.take i) (R := 2 ^ 100) (Nat.pow_pos (by decide)) fun r hr b hb => Nat.le_of_lt ((o.row r (List.mem_of_mem_take hr)).2 b hb)
  refine ⟨by omega, fun h m => (h2 h m).1, by omega, fun h m b hb => ?_⟩
  refine Nat.lt_of_le_of_lt ((h2 h m).2 b hb) ?_
  have e1 : 4 * (n * 2 ^ 100) ≤ 2 ^ 106 := by
    have : (2 : Nat) ^ 106 = 64 * 2 ^ 100 := by rw [show 106 = 6 + 100 from rfl, Nat.pow_add]
    omega
  have e2 : (4 * (n * 2 ^ 100)) ^ (n - 1) ≤ (2 ^ 106) ^ 8 := by
    by_cases hz : n = 0
    · subst hz
      show 1 ≤ _
      exact Nat.pow_pos (Nat.pow_pos (by decide))
    · exact Nat.le_trans (Nat.pow_le_pow_left e1 _) (Nat.pow_le_pow_right (Nat.pow_pos (by decide)) (by omega))
  refine Nat.lt_of_le_of_lt e2 ?_
  rw [← Nat.pow_mul]
  exact Nat.pow_lt_pow_right (by decide) (by decide)
def spRank (K : PySem.W.Frag) : Sp := fun vs H Q _ => ∃ (v : V) (n : Nat) (M : List Vec), vs = [v, .int (n : Nat)] ∧ RowsAt K H v M ∧ n ≤ 9 ∧ MatOk M ∧
  ∀ H', Same H H' → Q (.int ((n : Nat) - ((heldM n M).length : Nat))) H'
theorem held_succ {n : Nat} {M : List Vec} {i : Nat} {x : Vec} (h : M[i]? = some x) : heldM n (M.take (i + 1)) = narrow (heldM n (M.take i)) x := by
  unfold heldM
  rw [take_get h, List.foldl_append]
  rfl
theorem sc_rank_among : FnScope ["rows", "wide", "held", "row"] ["rows", "wide"] (defScope st_rank_among) := ⟨rfl, rfl, rfl, by decide +kernel, rfl, by decide +kernel, by decide +kernel⟩
theorem ok_rank_among (F : Fun K "rank_among" "rank_among" st_rank_among f fd) (T : Nm mg) (D_unit_rows : Dn P w K mg base 1 "unit_rows" g ["wide"] (spUnits K)) (D_narrowed : Dn P w K mg base 4 "narrowed" g2 ["held", "row"] (spNarrow K)) :
    FnOk P w K mg base CX0 5 f fd ["rows", "wide"] (spRank K) := by
  refine F.ok sc_rank_among (fun vs H Q E h => ?_) (fun cdv A outer s H vs Q E hr h => ?_)
  · obtain ⟨v, n, M, rfl, _⟩ := h
    rfl
  · obtain ⟨v, n, M, rfl, hR, hn, hM, k⟩ := h
    refine ⟨_, (pss_cons (ps_set (i := 2) sc_rank_among.nd rfl (Or.inl rfl) (pe_dn D_unit_rows (hr.mono (by decide)) rfl (pa_cons (pv 1) pa_nil)))
    (pss_cons (ps_for PassesOwn.never rfl (pi_seqK K (pv 0)) (pg_name (i := 3) sc_rank_among.nd rfl (Or.inl rfl))
      (pss_one (ps_set (i := 2) sc_rank_among.nd rfl (Or.inl rfl) (pe_dn D_narrowed (hr.mono (by decide)) rfl (pa_cons (pv 2) (pa_cons (pv 3) pa_nil))))))
    (pss_one (ps_ret (pe_op op_sub (pv 1) (pe_callB (call_lenK K) (by rfl) T.n_len (by decide +kernel) (pa_cons (pv 2) pa_nil))))))), ?_⟩
    refine ⟨_, rfl, n, rfl, by omega, fun v0 H1 s1 hU => ?_⟩
    obtain ⟨b, a, vs, rfl, hS, hl, hz⟩ := hR.same s1
    refine ⟨_, rfl, b, a, rfl, ⟨_, hS⟩, for_it walk_seq (fun i σ H2 => Same H1 H2 ∧ ∃ (v2 : V) (v3 : Option V), σ = [some (.ref a), some (.int (n : Nat)), some v2, v3] ∧ TupsAt K H2 v2 (heldM n (M.take i)))
        ⟨Same.refl _, v0, none, rfl, hU⟩ (fun i σ H2 _ p => hS.same p.1) ?_ ?_⟩
    · rintro i x σ H2 H3 hi ⟨s2, v2, v3, rfl, hT⟩ ⟨rfl, hx⟩
      have hi2 : i < M.length := by omega
      obtain ⟨u, e1, e2, hV⟩ := RowsAt.get hl hz hi2
      rw [e1] at hx
      cases hx
      have hm := List.getElem_mem hi2
      refine ⟨_, rfl, _, rfl, v2, _, n, _, M[i], rfl, hT, hV.same s2, held_ok hn hM i, ⟨(hM.row _ hm).1, (hM.row _ hm).2⟩, fun v' H4 s4 hT' => ?_⟩
      rw [← held_succ e2] at hT'
      exact ⟨s2.trans s4, v', _, rfl, hT'⟩
    · rintro σ H2 ⟨s2, v2, v3, rfl, hT⟩
      rw [hl, List.take_length] at hT
      obtain ⟨a2, vs2, rfl, hS2, hl2, _⟩ := hT
      refine ⟨_, rfl, _, rfl, false, a2, vs2, rfl, hS2, _, _, rfl, rfl, ?_⟩
      rw [hl2]
      exact k H2 (s1.trans s2)
def spLift (K : PySem.W.Frag) : Sp := fun vs H Q _ => ∃ (u : V) (x : Vec), vs = [u] ∧ VecAt K H u x ∧ x.length ≤ 16 ∧ ∀ (p : Addr) (H' : Hp), Same H H' → H' p = some (.tup ((x ++ [1]).map V.int)) → Q (.ref p) H'
theorem sc_lifted_point : FnScope ["point"] ["point"] (defScope st_lifted_point) := ⟨rfl, rfl, rfl, by decide +kernel, rfl, by decide +kernel, by decide +kernel⟩
theorem ok_lifted_point (F : Fun K "lifted_point" "lifted_point" st_lifted_point f fd) : FnOk P w K mg base CX0 1 f fd ["point"] (spLift K) := by
  refine F.ok sc_lifted_point (fun vs H Q E h => ?_) (fun cdv A outer s H vs Q E hr h => ?_)
  · obtain ⟨u, x, rfl, _⟩ := h
    rfl
  · obtain ⟨u, x, rfl, ⟨b, p, rfl, hx⟩, hl, k⟩ := h
    refine ⟨_, (pss_one (ps_ret (pe_tup (StX.pa_star (pv 0) (pa_cons pe_int pa_nil))))), ?_⟩
    refine ⟨_, rfl, p, _, rfl, hx.to.symm, ?_, fun q hq => k q _ (same_upd hq) ?_⟩
    · rw [List.length_append, List.length_map]
      exact Nat.le_trans (Nat.add_le_add_right hl _) (by decide)
    · rw [upd_same, List.map_append]
      rfl
def spSpan (K : PySem.W.Frag) : Sp := fun vs H Q _ => ∃ (v : V) (n : Nat) (M : List Vec), vs = [v, .int (n : Nat)] ∧ RowsAt K H v M ∧ n ≤ 8 ∧ M.length ≤ 16 ∧ (∀ r ∈ M, r.length ≤ 15 ∧ ∀ b ∈ r, b.natAbs < 2 ^ 100) ∧
  ∀ H', Same H H' → Q (.int ((n : Nat) - ((heldM (n + 1) (M.map (· ++ [1]))).length : Nat))) H'
theorem sc_span_among : FnScope ["points", "wide", "point"] ["points", "wide"] (defScope st_span_among) := ⟨rfl, rfl, rfl, by decide +kernel, rfl, by decide +kernel, by decide +kernel⟩
theorem ok_span_among (F : Fun K "span_among" "span_among" st_span_among f fd) (T : Nm mg) (D_rank_among : Dn P w K mg base 5 "rank_among" g ["rows", "wide"] (spRank K)) (D_lifted_point : Dn P w K mg base 1 "lifted_point" g2 ["point"] (spLift K)) :
    FnOk P w K mg base CX0 6 f fd ["points", "wide"] (spSpan K) := by
  refine F.ok sc_span_among (fun vs H Q E h => ?_) (fun cdv A outer s H vs Q E hr h => ?_)
  · obtain ⟨v, n, M, rfl, _⟩ := h
    rfl
  · obtain ⟨v, n, M, rfl, hR, hn, hM, hM2, k⟩ := h
    refine ⟨_, (pss_one (ps_ret (pe_op op_sub (pe_dn D_rank_among (hr.mono (by decide)) rfl (pa_cons (pe_lc (own := [("point", 2)]) (g := gName 2) (tt := tYes) rfl sc_span_among.nd (pi_seqK K (pv 0)) (blkOk_by (N := ["points", "wide", "point"]) (sc := defScope st_span_among) (by decide +kernel)) (fun _ _ _ _ _ => (pg_name (i := 2) sc_span_among.nd rfl (Or.inl rfl))) (fun _ _ _ _ _ => pts_nil) (fun _ _ _ _ _ => (pe_dn D_lifted_point (hr.mono (by decide)) rfl (pa_cons (pv 2) pa_nil)))) (pa_cons (pe_op op_add (pv 1) pe_int) pa_nil))) pe_int))), ?_⟩
    obtain ⟨b, a, vs, rfl, hS, hl, hz⟩ := id hR
    have hl16 : vs.length < sizeLine := by rw [hl]; exact Nat.lt_of_le_of_lt hM (by decide)
    refine ⟨_, rfl, b, a, rfl, ⟨_, hS⟩, fun D hD => lc_rel (R := fun i y H => ∃ (p : Addr) (x : Vec), y = .ref p ∧ M[i]? = some x ∧ H p = some (.tup ((x ++ [1]).map V.int))) walk_seq hD hl16 (fun H2 s2 => hS.same s2)
      (fun i y H H' s ⟨p, x, e1, e2, t⟩ => ⟨p, x, e1, e2, s _ _ t⟩) ?_ ?_⟩
    · rintro i x H2 H3 hi s2 ⟨acc, hacc⟩ ⟨rfl, hx⟩ Rk kk
      have hi2 : i < M.length := by omega
      obtain ⟨u, e1, e2, hV⟩ := RowsAt.get hl hz hi2
      rw [e1] at hx
      cases hx
      have hm := hM2 _ (List.getElem_mem hi2)
      refine ⟨rfl, _, rfl, _, M[i], rfl, hV.same s2, by omega, fun p H4 s4 hp => kk _ _ s4 ⟨p, M[i], rfl, e2, ?_⟩⟩
      rw [off_ne (fun z => by rw [z, s4 _ _ hacc] at hp; cases hp)]
      exact hp
    · rintro H2 ⟨acc, la, hD2, s2, hr2⟩
      refine ⟨_, rfl, _, _, rfl, rfl, .ref D, n + 1, M.map (· ++ [1]), rfl, ⟨false, D, acc, rfl, .of hD2, by rw [la, hl, List.length_map], fun i u x h1 h2 => ?_⟩, by omega, ⟨by rw [List.length_map]; exact hM, fun r hr => ?_⟩, fun H3 s3 => ?_⟩
      · obtain ⟨p, x', rfl, e2, t⟩ := hr2 i u h1
        rw [List.getElem?_map, e2] at h2
        cases h2
        exact VecAt.tup (.of (off_same _ _ _ _ t))
      · obtain ⟨x, hx, rfl⟩ := List.mem_map.mp hr
        obtain ⟨h1, h2⟩ := hM2 x hx
        refine ⟨by rw [List.length_append]; show x.length + 1 ≤ 16; omega, fun b hb => ?_⟩
        rcases List.mem_append.mp hb with m | m
        · exact h2 b m
        · rw [List.mem_singleton.mp m]
          exact Nat.one_lt_pow (by decide) (by decide)
      · refine ⟨_, _, rfl, rfl, ?_⟩
        have q := k H3 (s2.trans s3)
        have e : (((n + 1 : Nat) : Int) - ((heldM (n + 1) (M.map (· ++ [1]))).length : Nat)) - 1 = (n : Nat) - ((heldM (n + 1) (M.map (· ++ [1]))).length : Nat) := by omega
        show Q (.int ((((n + 1 : Nat) : Int) - ((heldM (n + 1) (M.map (· ++ [1]))).length : Nat)) - 1)) H3
        rw [e]
        exact q
end
end K0


set_option Elab.async false
set_option linter.all false
set_option maxRecDepth 100000
set_option maxHeartbeats 4000000
namespace K0
open PySem PySem.Spec PyProof.Rows L2

/-! ### the makers of the errors -/
def fs1 (f : Str) : List V → List (Str × V)
  | [v] => [(f, v)]
  | _ => []
def fs2 : List V → List (Str × V)
  | [x, y] => [("most", y), ("what", x)]
  | _ => []
section
variable {P : Program} {w : World} {K : PySem.W.Frag} {mg : Str → Option Value} {base : Heap} {f C : Addr} {fd : FuncData}
abbrev si_BadNumber : Stmt := inClass (topS 13) 0
theorem sci_BadNumber : FnScope ["self", "part"] ["self", "part"] (defScope si_BadNumber) := ⟨rfl, rfl, rfl, by decide +kernel, rfl, by decide +kernel, by decide +kernel⟩
theorem oki_BadNumber (F : Fun K "__init__" "BadNumber.__init__" si_BadNumber f fd) (T : OexC K C) (no : PySem.W.findIn K (.ref C) "part" = some none) : FnOk P w K mg base CX0 1 f fd ["self", "part"] (spI C 1 (fs1 "part")) := by
  refine F.ok sci_BadNumber (fun vs H Q E h => ?_) (fun cdv A outer s H vs Q E hr h => ?_)
  · obtain ⟨a, ws, rfl, hl, _⟩ := h
    show ws.length + 1 = 2
    omega
  · obtain ⟨a, ws, rfl, hl, ha, k⟩ := h
    match ws, hl with
    | [v], _ =>
      refine ⟨_, (pss_one (ps_ost (pv 0) (pv 1))), ?_⟩
      refine ⟨_, rfl, _, rfl, a, C, rfl, T, no, .inl ⟨ha, fun d hd hda => ?_⟩⟩
      refine k d _ hd hda upd_same (by rw [upd_ne hda, upd_same]; rfl) fun b o hb e => ?_
      rw [upd_ne hb, upd_ne (ne_of_none e hd)]
      exact e
abbrev si_BadPoint : Stmt := inClass (topS 14) 0
theorem sci_BadPoint : FnScope ["self", "part"] ["self", "part"] (defScope si_BadPoint) := ⟨rfl, rfl, rfl, by decide +kernel, rfl, by decide +kernel, by decide +kernel⟩
theorem oki_BadPoint (F : Fun K "__init__" "BadPoint.__init__" si_BadPoint f fd) (T : OexC K C) (no : PySem.W.findIn K (.ref C) "part" = some none) : FnOk P w K mg base CX0 1 f fd ["self", "part"] (spI C 1 (fs1 "part")) := by
  refine F.ok sci_BadPoint (fun vs H Q E h => ?_) (fun cdv A outer s H vs Q E hr h => ?_)
  · obtain ⟨a, ws, rfl, hl, _⟩ := h
    show ws.length + 1 = 2
    omega
  · obtain ⟨a, ws, rfl, hl, ha, k⟩ := h
    match ws, hl with
    | [v], _ =>
      refine ⟨_, (pss_one (ps_ost (pv 0) (pv 1))), ?_⟩
      refine ⟨_, rfl, _, rfl, a, C, rfl, T, no, .inl ⟨ha, fun d hd hda => ?_⟩⟩
      refine k d _ hd hda upd_same (by rw [upd_ne hda, upd_same]; rfl) fun b o hb e => ?_
      rw [upd_ne hb, upd_ne (ne_of_none e hd)]
      exact e
end
theorem vals_rev {xs : List V} {us : List Value} (r : Vals xs us) : Vals xs.reverse us.reverse := by
  induction r with
  | nil => exact .nil
  | cons h t ih =>
    rw [List.reverse_cons, List.reverse_cons]
    exact ih.append (.cons h .nil)
/-- the bundle of a class with one field -/
theorem ec1 {P : Program} {w : World} {K : PySem.W.Frag} {mg : Str → Option Value} {base : Heap} {x f q : Str} {st : Stmt} {C fI : Addr} {fd : FuncData} (o : OexC K C) (xf : XfC K C) (ec : ExcC K C)
    (h1 : PySem.W.findIn K (.ref C) "__init__" = some (some (.ref fI))) (h2 : PySem.W.typeIn K (.ref fI) = some (.type "function")) (F : Fun K "__init__" q st fI fd)
    (G : FnOk P w K mg base CX0 1 fI fd ["self", f] (spI C 1 (fs1 f))) (m : mg x = some (.ref C)) (no : PySem.W.findIn K (.ref C) f = some none)
    (b1 : ∀ (kV doc pm : Value) (an : Option Addr) (cdv ct : Value) (u v : Value), bindArgs (PySem.W.fnOf "__init__" q (defArgs st) (defBody st) (defScope st) .none kV doc pm an cdv ct) ⟨[u, v], []⟩ = pure [(("self" : Str), u), (f, v)])
    (b2 : ∀ (kV doc pm : Value) (an : Option Addr) (cdv ct : Value) (u v : Value), bindArgs (PySem.W.fnOf "__init__" q (defArgs st) (defBody st) (defScope st) .none kV doc pm an cdv ct) ⟨[u], [(f, v)]⟩ = pure [(("self" : Str), u), (f, v)]) :
    Ec P w K mg base x C 1 [f] List.reverse (fs1 f) := by
  obtain ⟨oc, od, kV, doc, pm, an, cdv, ct, osl, rfl, lk, hcd⟩ := F.ex
  refine ⟨o, xf, ec, ⟨fI, _, _, fun us _ => us, fun us ws => us ++ ws.reverse, h1, h2, G, ⟨fun s us ws X l1 l2 => ?_, fun r _ => r⟩, ⟨fun s us ws X l1 l2 => ?_, fun r rz => ?_⟩⟩, fun zs h => by rw [List.length_reverse]; exact h, by decide, m, fun ws hw q hq => ?_⟩
  · match us, ws, l1, l2 with
    | [u, v], [], _, _ => exact .of_eq (b1 kV doc pm an cdv ct u v)
  · match us, ws, l1, l2 with
    | [u], [v], _, _ => exact .of_eq (b2 kV doc pm an cdv ct u v)
  · refine r.append ?_
    rename_i vs us zs ws
    exact vals_rev rz
  · match ws, hw with
    | [v], _ =>
      cases List.mem_singleton.mp hq
      exact no
end K0


set_option Elab.async false
set_option linter.all false
set_option maxRecDepth 100000
set_option maxHeartbeats 4000000
namespace K0
open PySem PySem.Spec PyProof.Rows L2

/-! ### flat values as data -/
def toD : V → PyData
  | .bl b => .bool b
  | .int i => .int i
  | .str x => .str x
  | _ => .none
def flat : V → Bool
  | .non | .bl _ | .int _ => true
  | .str x => PyData.strOk x
  | _ => false
section
variable {K : PySem.W.Frag} {H : Hp}
theorem dpF : ∀ {v : V}, flat v = true → Dp K H v (toD v)
  | .non, _ => .non
  | .bl b, _ => .bl b
  | .int i, _ => .int i
  | .str x, _ => .str x
theorem dpAllF : ∀ {xs : List V}, xs.all flat = true → DpAll K H xs (xs.map toD)
  | [], _ => .nil
  | x :: xs, h => by
    rw [List.all_cons, Bool.and_eq_true] at h
    exact .cons (dpF h.1) (dpAllF h.2)
theorem layF : ∀ {xs : List V}, xs.all flat = true → PyData.canLayAll0 (xs.map toD) = true
  | [], _ => rfl
  | x :: xs, h => by
    rw [List.all_cons, Bool.and_eq_true] at h
    have ih := layF h.2
    cases x with
    | str z =>
      have hz : PyData.strOk z = true := h.1
      simp [toD, PyData.canLayAll0, PyData.canLay0, ih, hz]
    | _ => simp [toD, PyData.canLayAll0, PyData.canLay0, ih]
theorem depF : ∀ (xs : List V), PyData.depthAll (xs.map toD) = 0
  | [] => rfl
  | x :: xs => by
    have ih := depF xs
    cases x <;> simp [toD, PyData.depthAll, PyData.depth, ih]
theorem shapedL {xs : List V} (h : xs.all flat = true) : SeqAt.shaped (.list (xs.map toD)) = true := by
  unfold SeqAt.shaped
  rw [Bool.and_eq_true]
  refine ⟨?_, ?_⟩
  · simp only [PyData.canLay0]
    exact layF h
  · simp only [PyData.depth, depF]
    decide
theorem shapedNil : SeqAt.shaped (.list []) = true := shapedL (xs := []) rfl
theorem dpL {a : Addr} {xs : List V} (h : SqL K H a xs) (f : xs.all flat = true) : Dp K H (.ref a) (.list (xs.map toD)) := .lst h (dpAllF f)
theorem dpNil {a : Addr} (h : SqL K H a []) : Dp K H (.ref a) (.list []) := .lst h .nil
theorem eqvNil (xs : List V) : PyData.eqv (.list (xs.map toD)) (.list []) = xs.isEmpty := by
  cases xs <;> simp [PyData.eqv, PyData.eqvAll]
theorem eqv_ints : ∀ (ns ms : List Int), PyData.eqvAll ((ns.map V.int).map toD) ((ms.map V.int).map toD) = decide (ns = ms)
  | [], [] => by simp [PyData.eqvAll]
  | [], m :: ms => by simp [PyData.eqvAll]
  | n :: ns, [] => by simp [PyData.eqvAll]
  | n :: ns, m :: ms => by
    have ih := eqv_ints ns ms
    simp only [List.map_cons, toD, PyData.eqvAll, PyData.eqv, ih]
    by_cases e : n = m
    · subst e
      by_cases e2 : ns = ms
      · subst e2; simp
      · simp [e2]
    · simp [e]
theorem eqvL_ints (ns ms : List Int) : PyData.eqv (.list ((ns.map V.int).map toD)) (.list ((ms.map V.int).map toD)) = decide (ns = ms) := by
  simp only [PyData.eqv]
  exact eqv_ints ns ms
theorem flat_ints (ns : List Int) : (ns.map V.int).all flat = true := by
  induction ns with
  | nil => rfl
  | cons n ns ih => simp only [List.map_cons, List.all_cons, ih, flat, Bool.and_self]
theorem flat_bls (bs : List Bool) : (bs.map V.bl).all flat = true := by
  induction bs with
  | nil => rfl
  | cons n ns ih => simp only [List.map_cons, List.all_cons, ih, flat, Bool.and_self]
theorem eqv_same {xs : List V} (h : xs.all flat = true) : PyData.eqv (.list (xs.map toD)) (.list (xs.map toD)) = true := SeqAt.eqv_refl _ (by simp only [PyData.canLay0]; exact layF h)
end
end K0


set_option Elab.async false
set_option linter.all false
set_option maxRecDepth 100000
set_option maxHeartbeats 4000000
/-! a caught exception, held beyond its clause -/
namespace L2
open PySem PySem.Spec PyProof.Rows
/-- at a: an exception that was raised once, of the class at C, its dict at d -/
def exq (a C d : Addr) : HO := .ext fun h => ∃ (oe : Obj) (vs : Array Value), h.get? a = some oe ∧ oe.cls = .ref C ∧ oe.dict = some d ∧ oe.data = .fields vs
theorem exq_ok {P : Program} {w : World} {H : Hp} {h : Heap} {a C d : Addr} {oe : Obj} {vs : Array Value} (he : h.get? a = some oe) (h1 : oe.cls = .ref C) (h2 : oe.dict = some d) (h3 : oe.data = .fields vs) : ObjOk P w H h a (exq a C d) :=
  ⟨⟨oe, vs, he, h1, h2, h3⟩, ⟨_, he⟩, fun hp1 hp2 z k => by
    obtain ⟨o, vs, q, r⟩ := z
    exact ⟨o, vs, k _ q, r⟩⟩
theorem exq_at {P : Program} {w : World} {H : Hp} {h : Heap} {a C d : Addr} (hok : HOk P w H h) (he : H a = some (exq a C d)) : ∃ (vs : Array Value) (sl : Array (Option Value)), h.get? a = some ({ cls := .ref C, dict := some d, data := .fields vs, slots := sl } : Obj) := by
  have x : ObjOk P w H h a (.ext fun h => ∃ (oe : Obj) (vs : Array Value), h.get? a = some oe ∧ oe.cls = .ref C ∧ oe.dict = some d ∧ oe.data = .fields vs) := hok a _ he
  obtain ⟨⟨oe, vs, q1, q2, q3, q4⟩, _, _⟩ := x
  obtain ⟨oc, od, oda, osl⟩ := oe
  dsimp only at q2 q3 q4
  subst q2 q3 q4
  exact ⟨vs, osl, q1⟩
section
variable {X : Cx} {pins : List (Addr × Obj)} {σ : L2.St} {H : Hp} {s : Shared}
/-- an object that stands already is tracked from now on -/
theorem Inv.track {a : Addr} {oe : Obj} {vs : Array Value} {o : HO} (I : Inv X pins σ H s) (ha : s.heap.get? a = some oe) (hd : oe.data = .fields vs) (nH : H a = none) (nL : a ≠ X.env.locals) (npin : ∀ p ∈ X.pn ++ pins, p.1 ≠ a) (n0 : X.s_0.heap.get? a = none)
    (ok : ObjOk X.prog X.w (upd H a o) s.heap a o) : Inv X pins σ (upd H a o) s := by
  refine ⟨I.ok, I.os, I.bare, ⟨I.base.keep, I.base.slot, fun b ob q n hx => ?_, I.base.there, fun b xs q => ?_, fun b ob u q => ?_, fun b ps q => ?_⟩, I.loc, I.cell, ?_, fun x c e => ?_, fun p hp => ?_, ?_, I.len⟩
  · have hb : b ≠ a := fun z => by rw [z, n0] at q; cases q
    rw [upd_ne hb]
    exact I.base.free b ob q n hx
  · have e := I.base.tups b xs q
    rw [upd_ne (ne_of_none e nH)]
    exact e
  · have e := I.base.frzs b ob u q
    rw [upd_ne (ne_of_none e nH)]
    exact e
  · obtain ⟨more, e⟩ := I.base.tbls b ps q
    exact ⟨more, by rw [upd_ne (ne_of_none e nH)]; exact e⟩
  · rw [upd_ne (Ne.symm nL)]
    exact I.free
  · obtain ⟨v, ob, q1, q2⟩ := I.cell x c e
    have hc : c ≠ a := fun z => by
      rw [z, ha] at q1
      cases q1
      rw [hd] at q2
      cases q2
    rw [upd_ne hc]
    exact I.freeC x c e
  · obtain ⟨e, n, r⟩ := I.pin p hp
    exact ⟨e, by rw [upd_ne (npin p hp)]; exact n, r⟩
  · exact I.hok.laidN (fun _ _ q => q) nH ok
end
/-- what 'except x as n: y = n' wishes of an exception of the body -/
def wKeep (K : PySem.W.Frag) (c : Value) (i j l : Nat) (D : Ends) : WX := fun cls d σ H =>
  ∃ C dd, cls = .ref C ∧ d = some dd ∧ PySem.W.exmOne K cls c = some true ∧ ∀ a, H a = none → σ.length = l → D.nx ((((σ.set i (some (.ref a))).set j (some (.ref a))).set i none)) (upd H a (exq a C dd))
section
variable {X : Cx} {x n y : Str} {c : Value} {i j : Nat} {body : List Stmt} {np pos pos' p1 p2 p3 : Pos} {tb : WX → TS}
theorem ps_try_keep (hs : X.stack = X.env :: X.outer) (hf : X.env.frame = some X.env.locals) (hN : X.N.Nodup) (hi : X.N[i]? = some n) (hj : X.N[j]? = some y) (hln : X.env.kindOf n = some .local) (hly : X.env.scope.names.lookup y = some .local) (hil : i < X.N.length) (hc : Names X x c)
    (hex : X.ex = [])
    (hb : ∀ (W : WX) (pn : List (Addr × Obj)) (xe : Value → Shared → Prop), Takes (X.tr pn xe) W → PassesOwn (model X.prog X.w) X.A X.env xe → PSs (X.tr pn xe) body (tb W))
    (hdb : (n == ("__debug__" : Str)) = false := by decide) (hcd : (n == ("__classdict__" : Str)) = false := by decide) :
    PS X (.Try body [.ExceptHandler (some (.Name x np)) (some n) [.Assign [.Name y p1] (.Name n p2) p3] pos'] [] [] pos) (fun D σ H => tb (wKeep X.K c i j X.N.length D) D σ H) := by
  refine ⟨fun pins s σ H D I h => ?_⟩
  have ok := I.ok
  have hfr : X.A.frames = some (X.env :: X.outer) := by rw [ok.frames, hs]
  have hloc : Loc X.env.scope n := .inl hln
  refine wpAny_Try_except ?_
  refine wpAny_mono ((hb (wKeep X.K c i j X.N.length D) (X.pn ++ pins) (fun e s₁ => wpAny (model X.prog X.w) X.A (noteFrame e X.env) (fun _ s₂ => wpAny (model X.prog X.w) X.A (setFlight e none) (fun _ s₃ =>
    wpAny (model X.prog X.w) X.A (handleBy e X.env [.ExceptHandler (some (.Name x np)) (some n) [.Assign [.Name y p1] (.Name n p2) p3] pos']) (SP X pins D) X.xe s₃) X.xe s₂) X.xe s₁) (fun u s' xx => ?_) PassesOwn.looking).run [] s σ H D (I.toTry _) h) (fun f s1 hsp => ?_) (fun e s1 he => he)
  · obtain ⟨a, B, sI, pins', σ', H', cls, d, rfl, J', nb, up, sky, na, os, ag, C, dd, rfl, rfl, hb1, hyes⟩ := xx
    have J : Inv X pins σ' H' sI := J'.ofTry ok
    have sky' : Sky B (X.env :: X.outer) a (Zc (.ref C) (some dd)) X.env.locals s'.heap := by rw [← hs]; exact sky
    show wpAny (model X.prog X.w) X.A (noteFrame (.ref a) X.env) _ _ _
    refine Sky.land Zc.steady hfr hf sky' fun h3 fl3 up3 => ?_
    have J3 : Inv X pins σ' H' { s' with heap := h3 } := J.landed nb fl3.1 (up.trans up3) os ag
    obtain ⟨oe3, vs3, he3, hz3, hd3⟩ := fl3.there
    have notFr : ∀ {h : Heap} {o : Obj} {vs : Array Value}, h.FunFrames B (X.env :: X.outer) → h.get? a = some o → o.data = .fields vs → a ∉ frs (X.env :: X.outer) := fun {h o vs} ff e dd hm => by
      obtain ⟨_, o', e', hnf⟩ := ff.mem hm
      rw [e] at e'; cases e'
      exact hnf _ dd
    have nfr := notFr fl3.2.2.1 he3 hd3
    have nL : a ≠ X.env.locals := fun z => nfr (List.mem_filterMap.mpr ⟨X.env, List.mem_cons_self, by rw [hf, z]⟩)
    have nF : a ∉ X.fs := fun hm => by
      obtain ⟨e, he, q⟩ := List.mem_filterMap.mp hm
      exact nfr (List.mem_filterMap.mpr ⟨e, List.mem_cons_of_mem _ he, q⟩)
    have gB : B.get? a = none := fl3.2.1
    have n0 : X.s_0.heap.get? a = none := by
      cases e : X.s_0.heap.get? a with
      | none => rfl
      | some o =>
        obtain ⟨o', e'⟩ := J.base.there a o e (by rw [hex]; exact List.not_mem_nil)
        have q := nb a o' e' (by rw [hs]; exact nfr)
        rw [gB] at q
        cases q
    have npin : ∀ p ∈ X.pn ++ pins, p.1 ≠ a := fun p hp z => by
      obtain ⟨e, _, nl, nf, _⟩ := J.pin p hp
      have q := nb p.1 p.2 e (by rw [hs, z]; exact nfr)
      rw [z, gB] at q
      cases q
    have S3 := J3.suite he3 hd3 na nL nF
    refine wpAny_handleBy_cons (codeAny_handlers_test ?_) (by intro q; cases q)
    have LT : PySem.W.Looks (model X.prog X.w) h3 (typeOf (.ref a)) (.ref C) := fun A Q E s k q => wpAny_typeOf_ref (k _ _ he3) (by rw [hz3.1]; exact q)
    have LM := PySem.W.exm_one (M := model X.prog X.w) (J3.kIn) LT hb1
    have test : ∀ {Q : Value → Shared → Prop} {E : Value → Shared → Prop}, Q c { s' with heap := h3 } → wpAny (model X.prog X.w) (X.A.mark (some (.ref a))) (eval (.Name x np) X.env) Q E { s' with heap := h3 } := fun {Q E} q => by
      obtain ⟨hg, hdbg, hm | ⟨hm, hv, hnn⟩⟩ := hc
      · exact ld_glob (X := X.suite a ((a, oe3) :: (X.pn ++ pins))) S3 hg hm q hdbg
      · exact ld_blt (X := X.suite a ((a, oe3) :: (X.pn ++ pins))) S3 hg hm hv q hnn hdbg
    refine test (LM.here ?_)
    refine codeAny_handlers_suite_as ?_
    refine HandSPX.lands_againZ fl3 fun h4 fl4 up4 => ?_
    have J4 : Inv X pins σ' H' { s' with heap := h4 } := J.landed nb fl4.1 ((up.trans up3).trans up4) os ag
    obtain ⟨oe4, vs4, he4, hz4, hd4⟩ := fl4.there
    have S4 := J4.suite he4 hd4 na nL nF
    refine store_ok (X := X.suite a ((a, oe4) :: (X.pn ++ pins))) (v := .ref a) S4 hN hi hloc rfl (fun s5 S5 => ?_) (.inr hln)
    have hpv : PSs (X.suite a ((a, oe4) :: (X.pn ++ pins))) [.Assign [.Name y p1] (.Name n p2) p3] (tAsg (tVar i) (gName j)) := pss_one (ps_set (X := X.suite a ((a, oe4) :: (X.pn ++ pins))) hN hj (.inl hly) (pe_var (X := X.suite a ((a, oe4) :: (X.pn ++ pins))) hi (.inl hln) hdb hcd) rfl (.inr hly))
    have hlen : i < σ'.length := by rw [J.len]; exact hil
    refine wpAny_mono (hpv.run [] s5 _ H' { nx := fun σ6 H6 => σ6 = (σ'.set i (some (.ref a))).set j (some (.ref a)) ∧ H6 = H', rt := fun _ _ => False, bk := fun _ _ => False, ct := fun _ _ => False } S5 ⟨.ref a, List.getElem?_set_self hlen, rfl, rfl⟩) (fun f s6 hsp => ?_) (fun _ _ z => False.elim z)
    cases f with
    | next =>
      obtain ⟨σ6, H6, S6, rfl, rfl⟩ := hsp
      refine gone_ok (X := X.suite a ((a, oe4) :: (X.pn ++ pins))) S6 hN hi hln fun s7 S7 => ?_
      obtain ⟨g7, _, _, _, _⟩ := S7.pin (a, oe4) (List.mem_append_left _ List.mem_cons_self)
      have J7 : Inv X pins _ H6 s7 := S7.unsuite ok
      exact ⟨_, _, J7.track g7 hd4 na nL npin n0 (exq_ok g7 hz4.1 hz4.2 hd4), hyes a na J.len⟩
    | brk =>
      obtain ⟨σ6, H6, S6, q6⟩ := hsp
      exact q6.elim
    | cont =>
      obtain ⟨σ6, H6, S6, q6⟩ := hsp
      exact q6.elim
    | ret u =>
      obtain ⟨v6, σ6, H6, S6, r6, q6⟩ := hsp
      exact q6.elim
  · cases f with
    | next =>
      obtain ⟨σ', H', J', q⟩ := hsp
      exact wpAny_execs_nil ⟨σ', H', J'.ofTry ok, q⟩
    | brk =>
      obtain ⟨σ', H', J', q⟩ := hsp
      exact ⟨σ', H', J'.ofTry ok, q⟩
    | cont =>
      obtain ⟨σ', H', J', q⟩ := hsp
      exact ⟨σ', H', J'.ofTry ok, q⟩
    | ret u =>
      obtain ⟨v, σ', H', J', r, q⟩ := hsp
      exact ⟨v, σ', H', J'.ofTry ok, r, q⟩
end
end L2


set_option Elab.async false
set_option linter.all false
set_option maxRecDepth 100000
set_option maxHeartbeats 4000000
set_option exponentiation.threshold 100000
namespace K0
open PySem PySem.Spec PyProof.Rows L2 RZ K0z K3

theorem pe_cint {X : Cx} {x : Str} {pos : Pos} {n : Int} (hg : Gl X x) (hm : ∃ t, X.mg x = some (.int n t)) (hd : (x == ("__debug__" : Str)) = false := by decide) : PE X (.Name x pos) (tC (.int n)) := by
  obtain ⟨t, h⟩ := hm
  exact pe_glob hg h ⟨t, rfl⟩ hd
/-- what a raise of the class x, by place, wants -/
def RaiseC (P : Program) (w : World) (K : PySem.W.Frag) (mg : Str → Option Value) (base : Heap) (x : Str) (C : Addr) (f : Str) : Prop :=
  ∃ fI fd ps, PySem.W.findIn K (.ref C) "__init__" = some (some (.ref fI)) ∧ PySem.W.typeIn K (.ref fI) = some (.type "function") ∧ FnOk P w K mg base CX0 1 fI fd ps (spI C 1 (fs1 f)) ∧ Binds K fd ps [] ∧ OexC K C ∧ mg x = some (.ref C)
section
variable {X : Cx} {C : Addr} {x f : Str} {p pos : Pos} {e : Expr} {v : V}
theorem pmk_c (D : RaiseC X.prog X.w X.K X.mg X.base x C f) (hr : Room 2 X.A) (hg : Gl X x) (ha : PA X [e] (tCons (tC v) tNil))
    (hdb : (x == ("__debug__" : Str)) = false := by decide) (hs : starEach [e] X.env = (false, eval e X.env) :: starEach [] X.env := by rfl) :
    PMk X (.Call (.Name x p) [e] [] pos) (fun _ H Q => ∀ (d : Addr) (H' : Hp), H d = none → H' d = some (.xd (fs1 f [v])) → Same H H' → Q (.ref C) (some d) H') := by
  obtain ⟨fI, fd, ps, h1, h2, F, B, T, m⟩ := D
  have h := pmk_oex (p := p) (pos := pos) T h1 h2 F hr B .nil pass0 hg m ha hdb hs (by rfl)
  intro pins s σ H1 Q I q
  refine h pins s σ H1 Q I ?_
  refine ⟨by show 1 ≤ 1000; decide, fun a ha => ⟨a, [v], rfl, rfl, upd_same, fun d H2 hd hda e1 e2 e3 => ⟨rfl, d, _, e1, e2, ?_, ?_⟩⟩⟩
  · rw [upd_ne hda] at hd
    exact hd
  · rw [upd_ne hda] at hd
    refine q d _ hd upd_same fun b o hb => ?_
    have nb : b ≠ d := ne_of_none hb hd
    have nba : b ≠ a := ne_of_none hb ha
    rw [upd_ne nb, del_ne nba]
    exact e3 b o nba (by rw [upd_ne nba]; exact hb)
end
/-! ### any value as rows -/
/-- v: no list or tuple; or one of items, each of which is none, or one of these items -/
def ValAt (K : PySem.W.Frag) (H : Hp) (v : V) : Option (List (Option (List V))) → Prop
  | none => Seqs K H v none
  | some os => ∃ vs : List V, Seqs K H v (some vs) ∧ vs.length = os.length ∧ ∀ (i : Nat) (u : V) (o : Option (List V)), vs[i]? = some u → os[i]? = some o → Seqs K H u o ∧ Items K H o
theorem ValAt.same {K : PySem.W.Frag} {H H' : Hp} {v : V} {o : Option (List (Option (List V)))} (s : Same H H') (h : ValAt K H v o) : ValAt K H' v o := by
  cases o with
  | none =>
    have h' : Seqs K H v none := h
    exact Seqs.same s h'
  | some os =>
    obtain ⟨vs, h1, h2, h3⟩ := h
    exact ⟨vs, h1.same s, h2, fun i u o a b => ⟨(h3 i u o a b).1.same s, (h3 i u o a b).2.same s⟩⟩
theorem Seqs.sqB {K : PySem.W.Frag} {H : Hp} {v : V} {xs : List V} (h : Seqs K H v (some xs)) : ∃ b a, v = .ref a ∧ SqB K b H a xs ∧ xs.length < sizeLine := by
  obtain ⟨_, hz, a, e, h2⟩ := h
  obtain ⟨b, q⟩ := SqB.or h2
  exact ⟨b, a, e, q, hz⟩
def ptsB (os : List (Option (List V))) (l m : V) : Bool := match os with
  | [] => false
  | o :: r => lenB o l m && (o :: r).all fun q => lenB q (.int (o.getD []).length) (.int (o.getD []).length) && intsB q
def spPts (K : PySem.W.Frag) : Sp := fun vs H Q _ => ∃ (v : V) (l m : Int) (os : List (Option (List V))), vs = [v, .int l, .int m] ∧ ValAt K H v (some os) ∧ os ≠ [] ∧ ∀ H', Same H H' → Q (.bl (ptsB os (.int l) (.int m))) H'
section
variable {P : Program} {w : World} {K : PySem.W.Frag} {mg : Str → Option Value} {base : Heap} {f g g2 g3 C : Addr} {fd : FuncData}
theorem ValAt.get {K : PySem.W.Frag} {H : Hp} {vs : List V} {os : List (Option (List V))} (l : vs.length = os.length) (z : ∀ (i : Nat) (u : V) (o : Option (List V)), vs[i]? = some u → os[i]? = some o → Seqs K H u o ∧ Items K H o) {i : Nat} (hi : i < os.length) :
    ∃ u, vs[i]? = some u ∧ os[i]? = some os[i] ∧ Seqs K H u os[i] ∧ Items K H os[i] := by
  have h1 : vs[i]? = some (vs[i]'(by omega)) := List.getElem?_eq_getElem (by omega)
  have h2 : os[i]? = some os[i] := List.getElem?_eq_getElem hi
  exact ⟨_, h1, h2, z i _ _ h1 h2⟩
theorem sc_are_points : FnScope ["value", "least_wide", "most_wide", "point"] ["value", "least_wide", "most_wide"] (defScope st_are_points) := ⟨rfl, rfl, rfl, by decide +kernel, rfl, by decide +kernel, by decide +kernel⟩
theorem ok_are_points (F : Fun K "are_points" "are_points" st_are_points f fd) (T : Nm mg) (D_is_list : Dn P w K mg base 3 "is_list" g ["value", "least", "most"] (spIsList K)) (D_is_point : Dn P w K mg base 5 "is_point" g2 ["value", "wide"] (spIsPoint K)) :
    FnOk P w K mg base CX0 6 f fd ["value", "least_wide", "most_wide"] (spPts K) := by
  refine F.ok sc_are_points (fun vs H Q E h => ?_) (fun cdv A outer s H vs Q E hr h => ?_)
  · obtain ⟨v, l, m, os, rfl, _⟩ := h
    rfl
  · obtain ⟨v, l, m, os, rfl, hv, hne, k⟩ := h
    refine ⟨_, (pss_cons (ps_if (pt_not (pt_val (pe_dn D_is_list (hr.mono (by decide)) rfl (pa_cons (pe_ix (ix_K K) (pv 0) pe_int (fun _ _ => rfl)) (pa_cons (pv 1) (pa_cons (pv 2) pa_nil)))))) (pss_one (ps_ret pe_bl)) pss_nil)
    (pss_one (ps_ret (pe_callB (cr_all rfl) (by rfl) T.n_all (by decide +kernel) (pa_cons (pe_lc (own := [("point", 3)]) (g := gName 3) (tt := tYes) rfl sc_are_points.nd (pi_seqK K (pv 0)) (blkOk_by (N := ["value", "least_wide", "most_wide", "point"]) (sc := defScope st_are_points) (by decide +kernel)) (fun _ _ _ _ _ => (pg_name (i := 3) sc_are_points.nd rfl (Or.inl rfl))) (fun _ _ _ _ _ => pts_nil) (fun _ _ _ _ _ => (pe_dn D_is_point (hr.mono (by decide)) rfl (pa_cons (pv 3) (pa_cons (pe_callB (call_lenK K) (by rfl) T.n_len (by decide +kernel) (pa_cons (pe_ix (ix_K K) (pv 0) pe_int (fun _ _ => rfl)) pa_nil)) pa_nil))))) pa_nil))))), ?_⟩
    obtain ⟨vs, hS, hl, hz⟩ := id hv
    obtain ⟨b, a, rfl, hB, hz2⟩ := hS.sqB
    cases os with
    | nil => exact absurd rfl hne
    | cons o r =>
      obtain ⟨u0, e0, _, hs0, hi0⟩ := ValAt.get hl hz (i := 0) (by simp)
      have at0 : atI vs 0 = some u0 := atI_nat (j := 0) e0
      refine ⟨_, rfl, b, a, vs, 0, u0, rfl, rfl, hB, at0, _, rfl, _, rfl, u0, .int l, .int m, o, rfl, hs0, .inr ⟨l, rfl⟩, .inr ⟨m, rfl⟩, fun H1 s1 => ⟨_, rfl, ?_⟩⟩
      cases c : lenB o (.int l) (.int m) with
      | false =>
        refine iteT ?_
        have q := k H1 s1
        have e : ptsB (o :: r) (.int l) (.int m) = (lenB o (.int l) (.int m) && (o :: r).all fun q => lenB q (.int (o.getD []).length) (.int (o.getD []).length) && intsB q) := rfl
        rw [e, c] at q
        exact q
      | true =>
        refine iteF ?_
        cases o with
        | none => cases c
        | some ys =>
          have hs0' : Seqs K H u0 (some ys) := hs0
          obtain ⟨b0, a0, eu, hB0, _⟩ := hs0'.sqB
          subst eu
          refine ⟨_, rfl, b, a, rfl, ⟨_, hB.same s1⟩, fun D hD => lc_fun (fun i => V.bl (lenB (((some ys) :: r).getD i none) (.int (ys.length : Nat)) (.int (ys.length : Nat)) && intsB (((some ys) :: r).getD i none))) walk_seq hD hz2 (fun H2 s2 => hB.same (s1.trans s2)) ?_ ?_⟩
          · rintro i x H2 H3 hi s2 _ ⟨rfl, hx⟩ Rk kk
            have hi2 : i < ((some ys) :: r).length := by omega
            obtain ⟨u, e1, e2, hs, hit⟩ := ValAt.get hl hz hi2
            rw [e1] at hx
            cases hx
            have s12 := s1.trans s2
            refine ⟨rfl, _, rfl, _, rfl, b, a, vs, 0, _, rfl, rfl, hB.same s12, at0, b0, a0, ys, rfl, hB0.same s12, _, (ys.length : Nat), _, rfl, hs.same s12, hit.same s12, fun H4 s4 => ?_⟩
            have e := kk H4 s4
            rw [getD_of hi2] at e
            exact e
          · intro H2 hD2 s2
            refine ⟨D, (List.range vs.length).map (fun i => lenB (((some ys) :: r).getD i none) (.int (ys.length : Nat)) (.int (ys.length : Nat)) && intsB (((some ys) :: r).getD i none)), rfl, .of ?_, ?_⟩
            · rw [hD2, List.map_map]
              rfl
            · have q := k H2 (s1.trans s2)
              have e : ptsB (some ys :: r) (.int l) (.int m) = (lenB (some ys) (.int l) (.int m) && (some ys :: r).all fun q => lenB q (.int (ys.length : Nat)) (.int (ys.length : Nat)) && intsB q) := rfl
              rw [e, c, Bool.true_and] at q
              rw [hl, range_map_getD ((some ys) :: r) none (fun q => lenB q (.int (ys.length : Nat)) (.int (ys.length : Nat)) && intsB q), List.all_map]
              exact q
end
end K0


set_option Elab.async false
set_option linter.all false
set_option maxRecDepth 100000
set_option maxHeartbeats 4000000
set_option exponentiation.threshold 100000
namespace K0
open PySem PySem.Spec PyProof.Rows L2 RZ K0z K3

/-- the rows as vectors -/
def mat (M : List Vec) : List (Option (List V)) := M.map fun x => some (x.map V.int)
def toI : V → Int
  | .int n => n
  | _ => 0
theorem isI_int {x : V} (h : isI x = true) : ∃ n, x = .int n := by
  cases x with
  | int n => exact ⟨n, rfl⟩
  | _ => cases h
theorem ints_of : ∀ {xs : List V}, xs.all isI = true → (xs.map toI).map V.int = xs
  | [], _ => rfl
  | x :: xs, h => by
    rw [List.all_cons, Bool.and_eq_true] at h
    obtain ⟨n, rfl⟩ := isI_int h.1
    rw [List.map_cons, List.map_cons, ints_of h.2]
    rfl
theorem lenB_int {o : Option (List V)} {l m : Int} : lenB o (.int l) (.int m) = true ↔ ∃ xs, o = some xs ∧ l ≤ xs.length ∧ (xs.length : Int) ≤ m := by
  cases o with
  | none => simp [lenB]
  | some xs => simp [lenB, within, leB, geB]
theorem pts_mat {os : List (Option (List V))} (h : ptsB os (.int 1) (.int 8) = true) : ∃ M n, os = mat M ∧ M ≠ [] ∧ 1 ≤ n ∧ n ≤ 8 ∧ ∀ r ∈ M, r.length = n := by
  cases os with
  | nil => cases h
  | cons o r =>
    have e : ptsB (o :: r) (.int 1) (.int 8) = (lenB o (.int 1) (.int 8) && (o :: r).all fun q => lenB q (.int (o.getD []).length) (.int (o.getD []).length) && intsB q) := rfl
    rw [e, Bool.and_eq_true] at h
    obtain ⟨h1, h2⟩ := h
    obtain ⟨ys, rfl, l1, l2⟩ := lenB_int.mp h1
    rw [List.all_eq_true] at h2
    have key : ∀ q ∈ some ys :: r, ∃ xs : List V, q = some xs ∧ xs.length = ys.length ∧ (xs.map toI).map V.int = xs := fun q hq => by
      have := h2 q hq
      rw [Bool.and_eq_true] at this
      obtain ⟨xs, rfl, a, b⟩ := lenB_int.mp this.1
      have a' : ((ys.length : Nat) : Int) ≤ xs.length := a
      have b' : (xs.length : Int) ≤ ((ys.length : Nat) : Int) := b
      exact ⟨xs, rfl, by omega, ints_of this.2⟩
    refine ⟨(some ys :: r).map fun q => (q.getD []).map toI, ys.length, ?_, by simp, by omega, by omega, fun x hx => ?_⟩
    · unfold mat
      rw [List.map_map]
      conv => lhs; rw [← List.map_id (some ys :: r)]
      refine List.map_congr_left fun q hq => ?_
      obtain ⟨xs, rfl, _, e⟩ := key q hq
      show some xs = some ((xs.map toI).map V.int)
      rw [e]
    · obtain ⟨q, hq, rfl⟩ := List.mem_map.mp hx
      obtain ⟨xs, rfl, l, _⟩ := key q hq
      show (xs.map toI).length = _
      rw [List.length_map, l]
theorem mat_inj : ∀ {M N : List Vec}, mat M = mat N → M = N
  | [], [], _ => rfl
  | [], _ :: _, h => by cases h
  | _ :: _, [], h => by cases h
  | x :: M, y :: N, h => by
    have h1 : some (x.map V.int) = some (y.map V.int) := (List.cons.inj h).1
    have h2 := mat_inj (M := M) (N := N) (List.cons.inj h).2
    have h3 : x.map V.int = y.map V.int := Option.some.inj h1
    have : x = y := List.map_inj_right (fun a b e => V.int.inj e) |>.mp h3
    rw [this, h2]
def okB (vo : Option (List (Option (List V)))) (lo : Nat) : Bool := match vo with
  | none => false
  | some os => decide (lo ≤ os.length) && decide (os.length ≤ 16) && (os.isEmpty || ptsB os (.int 1) (.int 8))
def rankL (M : List Vec) : Int := ((M.headD []).length : Nat) - ((heldM (M.headD []).length M).length : Nat)
def spanL (M : List Vec) : Int := ((M.headD []).length : Nat) - ((heldM ((M.headD []).length + 1) (M.map (· ++ [1]))).length : Nat)
def Small (vo : Option (List (Option (List V)))) : Prop := ∀ M, vo = some (mat M) → ∀ r ∈ M, ∀ b ∈ r, b.natAbs < 2 ^ 100
def spAsk (K : PySem.W.Frag) (C : Addr) (lo : Nat) (part : Str) (g : List Vec → Int) : Sp := fun vs H Q E => ∃ (v : V) (vo : Option (List (Option (List V)))), vs = [v] ∧ ValAt K H v vo ∧ Small vo ∧
  (okB vo lo = true → ∀ M, vo = some (mat M) → ∀ H', Same H H' → Q (.int (g M)) H') ∧
  (okB vo lo = false → ∀ (d : Addr) (H' : Hp), H d = none → H' d = some (.xd (fs1 "part" [.str part])) → Same H H' → E (.ref C) (some d) H')
theorem rows_of_val {K : PySem.W.Frag} {H : Hp} {v : V} {M : List Vec} (h : ValAt K H v (some (mat M))) : RowsAt K H v M := by
  obtain ⟨vs, hS, hl, hz⟩ := h
  obtain ⟨b, a, rfl, hB, _⟩ := hS.sqB
  have hl' : vs.length = M.length := by rw [hl]; simp [mat]
  refine ⟨b, a, vs, rfl, hB, hl', fun i u x h1 h2 => ?_⟩
  have h3 : (mat M)[i]? = some (some (x.map V.int)) := by
    unfold mat
    rw [List.getElem?_map, h2]
    rfl
  obtain ⟨b0, a0, e, q, _⟩ := (hz i u _ h1 h3).1.sqB
  exact ⟨b0, a0, e, q⟩
section
variable {P : Program} {w : World} {K : PySem.W.Frag} {mg : Str → Option Value} {base : Heap} {f g g2 g3 C : Addr} {fd : FuncData}
theorem sc_rank_of : FnScope ["rows"] ["rows"] (defScope st_rank_of) := ⟨rfl, rfl, rfl, by decide +kernel, rfl, by decide +kernel, by decide +kernel⟩
theorem ok_rank_of (F : Fun K "rank_of" "rank_of" st_rank_of f fd) (T : Nm mg) (D_is_list : Dn P w K mg base 3 "is_list" g ["value", "least", "most"] (spIsList K)) (D_are_points : Dn P w K mg base 6 "are_points" g2 ["value", "least_wide", "most_wide"] (spPts K))
    (D_rank_among : Dn P w K mg base 5 "rank_among" g3 ["rows", "wide"] (spRank K)) (R_BadNumber : RaiseC P w K mg base "BadNumber" C "part") : FnOk P w K mg base (L2.CX P w) 7 f fd ["rows"] (spAsk K C 1 "rows" rankL) := by
  refine F.okX sc_rank_of (fun vs H Q E h => ?_) (fun cdv A outer s H vs Q E hr h => ?_)
  · obtain ⟨v, vo, rfl, _⟩ := h
    rfl
  · obtain ⟨v, vo, rfl, hv, hsm, k1, k2⟩ := h
    refine ⟨_, (pss_cons (ps_if (PW.pt (pw_or (pt_not (pt_val (pe_dn D_is_list (hr.mono (by decide)) rfl (pa_cons (pv 0) (pa_cons pe_int (pa_cons (pe_cint (by rfl) T.c_MOST_POINTS) pa_nil)))))) (pw_or1 (pt_not (pt_val (pe_dn D_are_points (hr.mono (by decide)) rfl (pa_cons (pv 0) (pa_cons pe_int (pa_cons (pe_cint (by rfl) T.c_MOST_WIDE) pa_nil))))))))) (pss_one (ps_raise rfl (takes_of rfl rfl rfl rfl) (pmk_c R_BadNumber (hr.mono (by decide)) rfl (pa_cons pe_str pa_nil)))) pss_nil)
    (pss_one (ps_ret (pe_dn D_rank_among (hr.mono (by decide)) rfl (pa_cons (pv 0) (pa_cons (pe_callB (call_lenK K) (by rfl) T.n_len (by decide +kernel) (pa_cons (pe_ix (ix_K K) (pv 0) pe_int (fun _ _ => rfl)) pa_nil)) pa_nil)))))), ?_⟩
    have bad : ∀ H1, Same H H1 → okB vo 1 = false → ∀ (d : Addr) (H' : Hp), H1 d = none → H' d = some (.xd (fs1 "part" [.str "rows"])) → Same H1 H' → E (.ref C) (some d) H' :=
      fun H1 s1 hb d H' hd e s2 => k2 hb d H' (s1.free hd) e (s1.trans s2)
    cases vo with
    | none =>
      have hv' : Seqs K H v none := hv
      refine ⟨_, rfl, v, .int 1, .int 16, none, rfl, hv', .inr ⟨1, rfl⟩, .inr ⟨16, rfl⟩, fun H1 s1 => ⟨_, rfl, ?_⟩⟩
      exact iteT (iteT (bad H1 s1 rfl))
    | some os =>
      obtain ⟨xs, hS, hl, hz⟩ := id hv
      refine ⟨_, rfl, v, .int 1, .int 16, some xs, rfl, hS, .inr ⟨1, rfl⟩, .inr ⟨16, rfl⟩, fun H1 s1 => ⟨_, rfl, ?_⟩⟩
      cases c : lenB (some xs) (.int 1) (.int 16) with
      | false =>
        refine iteT (iteT (bad H1 s1 ?_))
        have : ¬ (1 ≤ os.length ∧ os.length ≤ 16) := fun z => by
          have : lenB (some xs) (.int 1) (.int 16) = true := lenB_int.mpr ⟨xs, rfl, by omega, by omega⟩
          rw [c] at this
          cases this
        show (decide (1 ≤ os.length) && decide (os.length ≤ 16) && _) = false
        by_cases h1 : 1 ≤ os.length
        · have h2 : ¬ os.length ≤ 16 := fun z => this ⟨h1, z⟩
          simp [h1, h2]
        · simp [h1]
      | true =>
        obtain ⟨_, e, l1, l2⟩ := lenB_int.mp c
        cases e
        have ne : os ≠ [] := fun z => by rw [z] at hl; rw [hl] at l1; simp at l1
        refine iteF ⟨_, rfl, v, 1, 8, os, rfl, hv.same s1, ne, fun H2 s2 => ⟨_, rfl, ?_⟩⟩
        have eo : okB (some os) 1 = ptsB os (.int 1) (.int 8) := by
          show (decide (1 ≤ os.length) && decide (os.length ≤ 16) && (os.isEmpty || ptsB os (.int 1) (.int 8))) = _
          rw [decide_eq_true (by omega : 1 ≤ os.length), decide_eq_true (by omega : os.length ≤ 16)]
          cases os with
          | nil => exact absurd rfl ne
          | cons _ _ => rfl
        cases cp : ptsB os (.int 1) (.int 8) with
        | false => exact iteT (bad H2 (s1.trans s2) (by rw [eo, cp]))
        | true =>
          refine iteF ?_
          obtain ⟨M, n, rfl, hM, n1, n8, hn⟩ := pts_mat cp
          have hR := rows_of_val hv
          have s12 := s1.trans s2
          obtain ⟨b, a, vs, rfl, hB, hl2, hz2⟩ := id (hR.same s12)
          have hMl : 0 < M.length := List.length_pos_iff.mpr hM
          obtain ⟨u, e1, e2, ⟨b0, a0, rfl, hB0⟩⟩ := RowsAt.get hl2 hz2 hMl
          have hh : M.headD [] = M[0] := by
            cases M with
            | nil => exact absurd rfl hM
            | cons _ _ => rfl
          have hlen : (M.headD []).length = n := by rw [hh]; exact hn _ (List.getElem_mem hMl)
          have ml : M.length ≤ 16 := by
            have : (mat M).length = M.length := by simp [mat]
            omega
          refine ⟨_, rfl, _, rfl, b, a, vs, 0, _, rfl, rfl, hB, atI_nat (j := 0) e1, b0, a0, _, rfl, hB0, _, n, M, ?_, hR.same s12, by omega, ⟨ml, fun r hr => ⟨by rw [hn r hr]; omega, hsm M rfl r hr⟩⟩, fun H3 s3 => ?_⟩
          · rw [List.length_map, ← hh, hlen]
          · have q := k1 (by rw [eo, cp]) M rfl H3 (s12.trans s3)
            unfold rankL at q
            rw [hlen] at q
            exact q
theorem sc_span_of : FnScope ["points"] ["points"] (defScope st_span_of) := ⟨rfl, rfl, rfl, by decide +kernel, rfl, by decide +kernel, by decide +kernel⟩
theorem ok_span_of (F : Fun K "span_of" "span_of" st_span_of f fd) (T : Nm mg) (D_is_list : Dn P w K mg base 3 "is_list" g ["value", "least", "most"] (spIsList K)) (D_are_points : Dn P w K mg base 6 "are_points" g2 ["value", "least_wide", "most_wide"] (spPts K))
    (D_span_among : Dn P w K mg base 6 "span_among" g3 ["points", "wide"] (spSpan K)) (R_BadPoint : RaiseC P w K mg base "BadPoint" C "part") : FnOk P w K mg base (L2.CX P w) 7 f fd ["points"] (spAsk K C 0 "points" spanL) := by
  refine F.okX sc_span_of (fun vs H Q E h => ?_) (fun cdv A outer s H vs Q E hr h => ?_)
  · obtain ⟨v, vo, rfl, _⟩ := h
    rfl
  · obtain ⟨v, vo, rfl, hv, hsm, k1, k2⟩ := h
    refine ⟨_, (pss_cons (ps_if (pt_not (pt_val (pe_dn D_is_list (hr.mono (by decide)) rfl (pa_cons (pv 0) (pa_cons pe_int (pa_cons (pe_cint (by rfl) T.c_MOST_POINTS) pa_nil)))))) (pss_one (ps_raise rfl (takes_of rfl rfl rfl rfl) (pmk_c R_BadPoint (hr.mono (by decide)) rfl (pa_cons pe_str pa_nil)))) pss_nil)
    (pss_cons (ps_if (pt_cmpR op_eq (pe_callB (call_lenK K) (by rfl) T.n_len (by decide +kernel) (pa_cons (pv 0) pa_nil)) pe_int (nomark _)) (pss_one (ps_ret (pe_un un_neg pe_int))) pss_nil)
    (pss_cons (ps_if (pt_not (pt_val (pe_dn D_are_points (hr.mono (by decide)) rfl (pa_cons (pv 0) (pa_cons pe_int (pa_cons (pe_cint (by rfl) T.c_MOST_WIDE) pa_nil)))))) (pss_one (ps_raise rfl (takes_of rfl rfl rfl rfl) (pmk_c R_BadPoint (hr.mono (by decide)) rfl (pa_cons pe_str pa_nil)))) pss_nil)
    (pss_one (ps_ret (pe_dn D_span_among (hr.mono (by decide)) rfl (pa_cons (pv 0) (pa_cons (pe_callB (call_lenK K) (by rfl) T.n_len (by decide +kernel) (pa_cons (pe_ix (ix_K K) (pv 0) pe_int (fun _ _ => rfl)) pa_nil)) pa_nil)))))))), ?_⟩
    have bad : ∀ H1, Same H H1 → okB vo 0 = false → ∀ (d : Addr) (H' : Hp), H1 d = none → H' d = some (.xd (fs1 "part" [.str "points"])) → Same H1 H' → E (.ref C) (some d) H' :=
      fun H1 s1 hb d H' hd e s2 => k2 hb d H' (s1.free hd) e (s1.trans s2)
    cases vo with
    | none =>
      have hv' : Seqs K H v none := hv
      refine ⟨_, rfl, v, .int 0, .int 16, none, rfl, hv', .inr ⟨0, rfl⟩, .inr ⟨16, rfl⟩, fun H1 s1 => ⟨_, rfl, ?_⟩⟩
      exact iteT (bad H1 s1 rfl)
    | some os =>
      obtain ⟨xs, hS, hl, hz⟩ := id hv
      refine ⟨_, rfl, v, .int 0, .int 16, some xs, rfl, hS, .inr ⟨0, rfl⟩, .inr ⟨16, rfl⟩, fun H1 s1 => ⟨_, rfl, ?_⟩⟩
      cases c : lenB (some xs) (.int 0) (.int 16) with
      | false =>
        refine iteT (bad H1 s1 ?_)
        have : ¬ os.length ≤ 16 := fun z => by
          have : lenB (some xs) (.int 0) (.int 16) = true := lenB_int.mpr ⟨xs, rfl, by omega, by omega⟩
          rw [c] at this
          cases this
        show (decide (0 ≤ os.length) && decide (os.length ≤ 16) && _) = false
        simp [this]
      | true =>
        obtain ⟨_, e, l1, l2⟩ := lenB_int.mp c
        cases e
        obtain ⟨bB, aB, rfl, hBB, _⟩ := hS.sqB
        refine iteF ⟨_, rfl, bB, aB, xs, rfl, hBB.same s1, rfl, _, rfl, ?_⟩
        by_cases hne : os = []
        · have e0 : decide (V.int (xs.length : Nat) = V.int 0) = true := by rw [hl, hne]; rfl
          rw [e0]
          refine iteT ⟨_, rfl, ?_⟩
          have q := k1 (by rw [hne]; rfl) [] (by rw [hne]; rfl) H1 s1
          have e1 : spanL [] = -1 := by decide
          rw [e1] at q
          exact q
        · have hp : 0 < os.length := List.length_pos_iff.mpr hne
          have e0 : decide (V.int (xs.length : Nat) = V.int 0) = false := decide_eq_false fun z => by
            have := V.int.inj z
            omega
          rw [e0]
          refine iteF ⟨_, rfl, .ref aB, 1, 8, os, rfl, hv.same s1, hne, fun H2 s2 => ⟨_, rfl, ?_⟩⟩
          have eo : okB (some os) 0 = ptsB os (.int 1) (.int 8) := by
            show (decide (0 ≤ os.length) && decide (os.length ≤ 16) && (os.isEmpty || ptsB os (.int 1) (.int 8))) = _
            rw [decide_eq_true (by omega : 0 ≤ os.length), decide_eq_true (by omega : os.length ≤ 16)]
            cases os with
            | nil => exact absurd rfl hne
            | cons _ _ => rfl
          cases cp : ptsB os (.int 1) (.int 8) with
          | false => exact iteT (bad H2 (s1.trans s2) (by rw [eo, cp]))
          | true =>
            refine iteF ?_
            obtain ⟨M, n, rfl, hM, n1, n8, hn⟩ := pts_mat cp
            have hR := rows_of_val hv
            have s12 := s1.trans s2
            obtain ⟨b, a, vs, ea, hB, hl2, hz2⟩ := id (hR.same s12)
            cases ea
            have hMl : 0 < M.length := List.length_pos_iff.mpr hM
            obtain ⟨u, e1, e2, ⟨b0, a0, rfl, hB0⟩⟩ := RowsAt.get hl2 hz2 hMl
            have hh : M.headD [] = M[0] := by
              cases M with
              | nil => exact absurd rfl hM
              | cons _ _ => rfl
            have hlen : (M.headD []).length = n := by rw [hh]; exact hn _ (List.getElem_mem hMl)
            have ml : M.length ≤ 16 := by
              have : (mat M).length = M.length := by simp [mat]
              omega
            refine ⟨_, rfl, _, rfl, b, aB, vs, 0, _, rfl, rfl, hB, atI_nat (j := 0) e1, b0, a0, _, rfl, hB0, _, n, M, ?_, hR.same s12, by omega, ml, fun r hr => ⟨by rw [hn r hr]; omega, hsm M rfl r hr⟩, fun H3 s3 => ?_⟩
            · rw [List.length_map, ← hh, hlen]
            · have q := k1 (by rw [eo, cp]) M rfl H3 (s12.trans s3)
              unfold spanL at q
              rw [hlen] at q
              exact q
end
end K0


set_option Elab.async false
set_option linter.all false
set_option maxRecDepth 100000
set_option maxHeartbeats 4000000
namespace K0
open PySem PySem.Spec PyProof.Rows L2

/-! ### what draws -/
/-- the coil at c: its cells at d, how many were begun (at most m), what is left -/
def Coil (H : Hp) (c d : Addr) (ns : List Int) (m : Nat) : Prop := ns.length ≤ 63 ∧ c ≠ d ∧ H d = some (.lst (ns.map V.int)) ∧
  ∃ a b : Int, H c = some (.lst [.ref d, .int a, .int b]) ∧ 0 ≤ a ∧ a ≤ m ∧ 0 ≤ b
def SameBut (c : Addr) (H H' : Hp) : Prop := ∀ b o, b ≠ c → H b = some o → H' b = some o
theorem SameBut.refl (c : Addr) (H : Hp) : SameBut c H H := fun _ _ _ e => e
theorem SameBut.trans {c : Addr} {H H1 H2 : Hp} (a : SameBut c H H1) (b : SameBut c H1 H2) : SameBut c H H2 := fun x o n e => b x o n (a x o n e)
theorem SameBut.of {c : Addr} {H H' : Hp} (s : Same H H') : SameBut c H H' := fun b o _ e => s b o e
theorem SameBut.to {c : Addr} {H H0 H' : Hp} (s : SameBut c H H') (h : Same H0 H) (hc : H0 c = none) : Same H0 H' := fun b o e => s b o (ne_of_none e hc) (h b o e)
def spCoil (K : PySem.W.Frag) : Sp := fun vs H Q _ => ∃ (a : Addr) (ns : List Int), vs = [.ref a] ∧ SqL K H a (ns.map V.int) ∧ ns.length ≤ 63 ∧
  ∀ (c d : Addr) (H' : Hp), H c = none → Same H H' → Coil H' c d ns 0 → Q (.ref c) H'
def spTurn : Sp := fun vs H Q _ => ∃ (c d : Addr) (ns : List Int) (m : Nat) (many : Int), vs = [.ref c, .int many] ∧ Coil H c d ns m ∧ m ≤ 100000 ∧ 0 < many ∧ many.natAbs < 2 ^ 9000 ∧
  ∀ (r : Int) (H' : Hp), 0 ≤ r → r < many → Coil H' c d ns (m + 1) → SameBut c H H' → Q (.int r) H'
section
variable {P : Program} {w : World} {K : PySem.W.Frag} {mg : Str → Option Value} {base : Heap} {f g g2 : Addr} {fd : FuncData}
theorem sc_coil : FnScope ["script", "cell"] ["script"] (defScope st__law_purse) := ⟨rfl, rfl, rfl, by decide +kernel, rfl, by decide +kernel, by decide +kernel⟩
theorem int_sel (ns : List Int) : (ns.map V.int).filterMap (fun x => match x with | .int n => some (V.int n) | _ => none) = ns.map V.int := by
  induction ns with
  | nil => rfl
  | cons n ns ih => simp only [List.map_cons, List.filterMap_cons, ih]
theorem ok_coil (F : Fun K "_law_purse" "_law_purse" st__law_purse f fd) (T : Nm mg) : FnOk P w K mg base CX0 1 f fd ["script"] (spCoil K) := by
  refine F.ok sc_coil (fun vs H Q E h => ?_) (fun cdv A outer s H vs Q E hr h => ?_)
  · obtain ⟨a, ns, rfl, _⟩ := h
    rfl
  · obtain ⟨a, ns, rfl, hS, hl, k⟩ := h
    refine ⟨_, (pss_one (ps_ret (pe_lst (pa_cons (pe_lc (own := [("cell", 1)]) (g := gName 1) (tt := tYes) rfl sc_coil.nd (pi_list (pe_slice sl_list (pv 0) po_none (po_some pe_int))) (blkOk_by (N := ["script", "cell"]) (sc := defScope st__law_purse) (by decide +kernel)) (fun _ _ _ _ _ => pg_name (i := 1) sc_coil.nd rfl (Or.inl rfl)) (fun _ _ _ _ _ => pts_nil) (fun _ _ _ _ _ => (pe_callTy call_int1 (by rfl) T.n_int (by decide +kernel) (pa_cons (pv 1) pa_nil)))) (pa_cons pe_int (pa_cons pe_int pa_nil)))))), ?_⟩
    have ec : cutV (ns.map V.int) none (some 63) = ns.map V.int := by
      show ((ns.map V.int).drop 0).take (HT.sIx (ns.map V.int).length (ns.map V.int).length (some ((63 : Nat) : Int)) - 0) = _
      rw [HT.sIx_nat, List.drop_zero]
      refine List.take_of_length_le ?_
      rw [List.length_map]
      omega
    refine ⟨_, rfl, 63, rfl, a, _, rfl, hS, fun p hp => ⟨p, rfl, ⟨_, .of upd_same⟩, fun D hD => ?_⟩⟩
    rw [ec] at hD ⊢
    refine lcl (xs := ns.map V.int) (fun x => match x with | .int n => some (V.int n) | _ => none) hD (.of upd_same) (by rw [List.length_map]; exact Nat.lt_of_le_of_lt hl (by decide)) (fun _ => rfl) ?_ ?_ ?_
    · intro x hx H2 _ R hR
      obtain ⟨n, _, rfl⟩ := List.mem_map.mp hx
      exact hR H2 (Same.refl H2)
    · intro x hx y hy H2 _ R hR
      obtain ⟨n, _, rfl⟩ := List.mem_map.mp hx
      cases hy
      exact ⟨_, rfl, .inl ⟨n, rfl, hR H2 (Same.refl H2)⟩⟩
    · rintro H2 ⟨h1, h2⟩
      rw [int_sel] at h1
      refine ⟨(by show 3 ≤ sizeLine; decide), fun c hc => ?_⟩
      have s0 : Same H H2 := (same_upd hp).trans h2
      have ncd : c ≠ D := fun e => by
        rw [e, h1] at hc
        cases hc
      refine k c D _ (s0.free hc) (s0.trans (same_upd hc)) ⟨hl, ncd, ?_, 0, 0, upd_same, by decide, by decide, by decide⟩
      rw [upd_ne (Ne.symm ncd)]
      exact h1
theorem sc_turn : FnScope ["purse", "many", "rest", "at", "cell", "mixed"] ["purse", "many"] (defScope st__law_coin) := ⟨rfl, rfl, rfl, by decide +kernel, rfl, by decide +kernel, by decide +kernel⟩
theorem mod_rng {i j : Int} (h : 0 < j) : 0 ≤ i % j ∧ i % j < j := ⟨Int.emod_nonneg i (by omega), Int.emod_lt_of_pos i h⟩
theorem mix_bound {x a : Int} (h0 : 0 ≤ a) (h1 : a ≤ 100000) (hx0 : 0 ≤ x) (hx1 : x < 2147483579) : (x * (2 * a + 3307) + 48611 * a * a + 27103).natAbs < 2 ^ 64 := by
  have e1 : x * (2 * a + 3307) ≤ 2147483579 * 203307 := Int.mul_le_mul (by omega) (by omega) (by omega) (by omega)
  have e2 : 0 ≤ x * (2 * a + 3307) := Int.mul_nonneg hx0 (by omega)
  have e3 : 48611 * a * a ≤ 4861100000 * 100000 := Int.mul_le_mul (by omega) h1 h0 (by omega)
  have e4 : 0 ≤ 48611 * a * a := Int.mul_nonneg (by omega) h0
  generalize x * (2 * a + 3307) = y at e1 e2 ⊢
  generalize 48611 * a * a = z at e3 e4 ⊢
  omega
theorem ok_turn (F : Fun K "_law_coin" "_law_coin" st__law_coin f fd) (T : Nm mg) : FnOk P w K mg base CX0 1 f fd ["purse", "many"] spTurn := by
  refine F.ok sc_turn (fun vs H Q E h => ?_) (fun cdv A outer s H vs Q E hr h => ?_)
  · obtain ⟨c, d, ns, m, many, rfl, _⟩ := h
    rfl
  · obtain ⟨c, d, ns, m, many, rfl, ⟨hl, ncd, hd, a, b, hc, ha0, ha1, hb⟩, hm, hp, hw, k⟩ := h
    have hdiv : ∀ x : Int, CDivW x many := fun x => wide_div (b := 9000) hp hw (by decide) (by decide)
    have qdiv : ∀ x : Int, 0 ≤ x → 0 ≤ x / many := fun x hx => Int.ediv_nonneg hx (by omega)
    refine ⟨_, (pss_cons (ps_if (pt_cmpR op_gt (pe_ix ix_list (pv 0) pe_int (fun _ _ => rfl)) pe_int (nomark _)) (pss_cons (ps_set (i := 2) sc_turn.nd rfl (Or.inl rfl) (pe_callTy call_int1 (by rfl) T.n_int (by decide +kernel) (pa_cons (pe_ix ix_list (pv 0) pe_int (fun _ _ => rfl)) pa_nil)))
    (pss_cons (ps_asg (pe_op op_fdivW (pv 2) (pv 1)) (pg_sub (pv 0) pe_int set_list))
    (pss_one (ps_ret (pe_op op_mod (pe_callTy call_int1 (by rfl) T.n_int (by decide +kernel) (pa_cons (pv 2) pa_nil)) (pv 1)))))) pss_nil)
    (pss_cons (ps_set (i := 3) sc_turn.nd rfl (Or.inl rfl) (pe_ix ix_list (pv 0) pe_int (fun _ _ => rfl)))
    (pss_cons (ps_asg (pe_op op_add (pv 3) pe_int) (pg_sub (pv 0) pe_int set_list))
    (pss_cons (ps_set (i := 4) sc_turn.nd rfl (Or.inl rfl) (pe_op op_add (pe_op op_mul pe_int (pv 3)) pe_int))
    (pss_cons (ps_if (pt_cmpR (op_neD hr.units) (pe_ix ix_list (pv 0) pe_int (fun _ _ => rfl)) (pe_lst pa_nil) (nomark _)) (pss_one (ps_set (i := 4) sc_turn.nd rfl (Or.inl rfl) (pe_ix ix_list (pe_ix ix_list (pv 0) pe_int (fun _ _ => rfl)) (pe_op op_mod (pe_callTy call_int1 (by rfl) T.n_int (by decide +kernel) (pa_cons (pv 3) pa_nil)) (pe_callB call_len_seq (by rfl) T.n_len (by decide +kernel) (pa_cons (pe_ix ix_list (pv 0) pe_int (fun _ _ => rfl)) pa_nil))) (fun _ _ => rfl)))) pss_nil)
    (pss_cons (ps_if (PW.pt (pw_and (pt_cmpR op_lt (pv 3) (pe_callB call_len_seq (by rfl) T.n_len (by decide +kernel) (pa_cons (pe_ix ix_list (pv 0) pe_int (fun _ _ => rfl)) pa_nil)) (nomark _)) (pw_and1 (pt_cmpR op_ge (pe_callB call_abs (by rfl) T.n_abs (by decide +kernel) (pa_cons (pv 4) pa_nil)) (pe_op op_pow pe_int pe_int) (nomark _))))) (pss_cons (ps_set (i := 2) sc_turn.nd rfl (Or.inl rfl) (pe_op op_add (pe_op op_mul pe_int (pe_op op_sub (pe_callB call_abs (by rfl) T.n_abs (by decide +kernel) (pa_cons (pv 4) pa_nil)) (pe_op op_pow pe_int pe_int))) (pe_callTy call_int1 (by rfl) T.n_int (by decide +kernel) (pa_cons (pe_cmpR op_lt (pv 4) pe_int (nomark _)) pa_nil))))
    (pss_cons (ps_asg (pe_op op_fdivW (pe_callTy call_int1 (by rfl) T.n_int (by decide +kernel) (pa_cons (pv 2) pa_nil)) (pv 1)) (pg_sub (pv 0) pe_int set_list))
    (pss_one (ps_ret (pe_op op_mod (pe_callTy call_int1 (by rfl) T.n_int (by decide +kernel) (pa_cons (pv 2) pa_nil)) (pv 1)))))) pss_nil)
    (pss_cons (ps_set (i := 5) sc_turn.nd rfl (Or.inl rfl) (pe_op op_mod (pe_callTy call_int1 (by rfl) T.n_int (by decide +kernel) (pa_cons (pe_op op_pow (pe_op op_add (pe_op op_add (pe_op op_mod (pe_callTy call_int1 (by rfl) T.n_int (by decide +kernel) (pa_cons (pv 4) pa_nil)) pe_int) (pe_op op_mul pe_int (pv 3))) pe_int) pe_int) pa_nil)) pe_int))
    (pss_cons (ps_set (i := 5) sc_turn.nd rfl (Or.inl rfl) (pe_op op_mod (pe_callTy call_int1 (by rfl) T.n_int (by decide +kernel) (pa_cons (pe_op op_pow (pe_op op_add (pe_op op_add (pe_op op_mul (pv 5) (pe_op op_add (pe_op op_mul pe_int (pv 3)) pe_int)) (pe_op op_mul (pe_op op_mul pe_int (pv 3)) (pv 3))) pe_int) pe_int) pa_nil)) pe_int))
    (pss_one (ps_ret (pe_op op_mod (pe_callTy call_int1 (by rfl) T.n_int (by decide +kernel) (pa_cons (pe_op op_fdivW (pv 5) pe_int) pa_nil)) (pv 1)))))))))))), ?_⟩
    -- coil[2] > 0
    refine ⟨_, rfl, c, _, 2, _, rfl, rfl, .of hc, atI_nat (j := 2) rfl, ⟨b, 0, rfl, rfl, _, rfl, ?_⟩⟩
    by_cases cb : 0 < b
    · rw [decide_eq_true cb]
      refine iteT ⟨_, rfl, c, _, 2, _, rfl, rfl, .of hc, atI_nat (j := 2) rfl, (.inl ⟨b, rfl, ?_⟩)⟩
      refine ⟨_, rfl, _, rfl, b, many, rfl, rfl, hdiv b, _, rfl, c, _, 2, 2, rfl, rfl, hc, rfl, ?_⟩
      refine ⟨_, rfl, .inl ⟨b, rfl, _, rfl, b, many, rfl, rfl, hp, ?_⟩⟩
      refine k _ _ (mod_rng hp).1 (mod_rng hp).2 ⟨hl, ncd, (by rw [upd_ne (Ne.symm ncd)]; exact hd), a, b / many, upd_same, ha0, by omega, qdiv b (by omega)⟩ fun x o n e => ?_
      rw [upd_ne n]
      exact e
    · rw [decide_eq_false cb]
      have eb : b = 0 := by omega
      subst eb
      -- at = coil[1]; coil[1] = at + 1; cell = ..
      refine iteF ⟨_, rfl, c, _, 1, _, rfl, rfl, .of hc, atI_nat (j := 1) rfl, ?_⟩
      refine ⟨_, rfl, a, 1, rfl, rfl, _, rfl, c, _, 1, 1, rfl, rfl, hc, rfl, ?_⟩
      refine ⟨_, rfl, 48611, a, rfl, rfl, .inl ⟨by decide, by decide⟩, _, 7129, rfl, rfl, ?_⟩
      have hd1 : upd H c (.lst [.ref d, .int (a + 1), .int 0]) d = some (.lst (ns.map V.int)) := by
        rw [upd_ne (Ne.symm ncd)]
        exact hd
      -- what comes behind the choice of the cell
      have tail : ∀ (x : Int) (H2 : Hp), H2 c = some (.lst [.ref d, .int (a + 1), .int 0]) → H2 d = some (.lst (ns.map V.int)) → SameBut c H H2 →
          (tSeq (tIfS (tAnd (tTest (tOp (rI0 fun i j => .bl (decide (i < j))) (tVar 3) (tCB (fun xs H Q => ∃ p ys, xs = [.ref p] ∧ (SqL K H p ys ∨ SqT K H p ys) ∧ Q (.int ys.length) H) (tCons (tOp (rIxL K) (tVar 0) (tC (.int 0))) tNil))))
              (tTest (tOp (rI0 fun i j => .bl (decide (j ≤ i))) (tCB (fun xs H Q => ∃ i, xs = [.int i] ∧ Q (.int (if i < 0 then -i else i)) H) (tCons (tVar 4) tNil)) (tOp (rI CPow fun i j => .int (i ^ j.toNat)) (tC (.int 10)) (tC (.int 18))))))
            (tSeq (tAsg (tOp (rI0 fun i j => .int (i + j)) (tOp (rI CMul fun i j => .int (i * j)) (tC (.int 2)) (tOp (rI0 fun i j => .int (i - j)) (tCB (fun xs H Q => ∃ i, xs = [.int i] ∧ Q (.int (if i < 0 then -i else i)) H) (tCons (tVar 4) tNil)) (tOp (rI CPow fun i j => .int (i ^ j.toNat)) (tC (.int 10)) (tC (.int 18)))))
                (tCB (fun xs H Q => (∃ i, xs = [.int i] ∧ Q (.int i) H) ∨ ∃ k, xs = [.bl k] ∧ Q (.int (if k then 1 else 0)) H) (tCons (tOp (rI0 fun i j => .bl (decide (i < j))) (tVar 4) (tC (.int 0))) tNil))) (gName 2))
              (tSeq (tAsg (tOp (rI CDivW fun i j => .int (i / j)) (tCB (fun xs H Q => (∃ i, xs = [.int i] ∧ Q (.int i) H) ∨ ∃ k, xs = [.bl k] ∧ Q (.int (if k then 1 else 0)) H) (tCons (tVar 2) tNil)) (tVar 1)) (gSub (tVar 0) (tC (.int 2)) rSetL))
                (tRet (tOp (rI (fun _ j => 0 < j) fun i j => .int (i % j)) (tCB (fun xs H Q => (∃ i, xs = [.int i] ∧ Q (.int i) H) ∨ ∃ k, xs = [.bl k] ∧ Q (.int (if k then 1 else 0)) H) (tCons (tVar 2) tNil)) (tVar 1))))) tNext)
          (tSeq (tAsg (tOp (rI (fun _ j => 0 < j) fun i j => .int (i % j)) (tCB (fun xs H Q => (∃ i, xs = [.int i] ∧ Q (.int i) H) ∨ ∃ k, xs = [.bl k] ∧ Q (.int (if k then 1 else 0)) H) (tCons (tOp (rI CPow fun i j => .int (i ^ j.toNat)) (tOp (rI0 fun i j => .int (i + j)) (tOp (rI0 fun i j => .int (i + j)) (tOp (rI (fun _ j => 0 < j) fun i j => .int (i % j)) (tCB (fun xs H Q => (∃ i, xs = [.int i] ∧ Q (.int i) H) ∨ ∃ k, xs = [.bl k] ∧ Q (.int (if k then 1 else 0)) H) (tCons (tVar 4) tNil)) (tC (.int 2147483647))) (tOp (rI CMul fun i j => .int (i * j)) (tC (.int 27103)) (tVar 3))) (tC (.int 7129))) (tC (.int 5))) tNil)) (tC (.int 2147483579))) (gName 5))
          (tSeq (tAsg (tOp (rI (fun _ j => 0 < j) fun i j => .int (i % j)) (tCB (fun xs H Q => (∃ i, xs = [.int i] ∧ Q (.int i) H) ∨ ∃ k, xs = [.bl k] ∧ Q (.int (if k then 1 else 0)) H) (tCons (tOp (rI CPow fun i j => .int (i ^ j.toNat)) (tOp (rI0 fun i j => .int (i + j)) (tOp (rI0 fun i j => .int (i + j)) (tOp (rI CMul fun i j => .int (i * j)) (tVar 5) (tOp (rI0 fun i j => .int (i + j)) (tOp (rI CMul fun i j => .int (i * j)) (tC (.int 2)) (tVar 3)) (tC (.int 3307)))) (tOp (rI CMul fun i j => .int (i * j)) (tOp (rI CMul fun i j => .int (i * j)) (tC (.int 48611)) (tVar 3)) (tVar 3))) (tC (.int 27103))) (tC (.int 3))) tNil)) (tC (.int 2147483549))) (gName 5))
            (tRet (tOp (rI (fun _ j => 0 < j) fun i j => .int (i % j)) (tCB (fun xs H Q => (∃ i, xs = [.int i] ∧ Q (.int i) H) ∨ ∃ k, xs = [.bl k] ∧ Q (.int (if k then 1 else 0)) H) (tCons (tOp (rI CDivW fun i j => .int (i / j)) (tVar 5) (tC (.int 64))) tNil)) (tVar 1))))))
          { nx := fun _ H' => Q .non H', rt := Q } [some (.ref c), some (.int many), none, some (.int a), some (.int x), none] H2 := by
        intro x H2 hc2 hd2 sb
        have mixed : (tSeq (tAsg (tOp (rI (fun _ j => 0 < j) fun i j => .int (i % j)) (tCB (fun xs H Q => (∃ i, xs = [.int i] ∧ Q (.int i) H) ∨ ∃ k, xs = [.bl k] ∧ Q (.int (if k then 1 else 0)) H) (tCons (tOp (rI CPow fun i j => .int (i ^ j.toNat)) (tOp (rI0 fun i j => .int (i + j)) (tOp (rI0 fun i j => .int (i + j)) (tOp (rI (fun _ j => 0 < j) fun i j => .int (i % j)) (tCB (fun xs H Q => (∃ i, xs = [.int i] ∧ Q (.int i) H) ∨ ∃ k, xs = [.bl k] ∧ Q (.int (if k then 1 else 0)) H) (tCons (tVar 4) tNil)) (tC (.int 2147483647))) (tOp (rI CMul fun i j => .int (i * j)) (tC (.int 27103)) (tVar 3))) (tC (.int 7129))) (tC (.int 5))) tNil)) (tC (.int 2147483579))) (gName 5))
          (tSeq (tAsg (tOp (rI (fun _ j => 0 < j) fun i j => .int (i % j)) (tCB (fun xs H Q => (∃ i, xs = [.int i] ∧ Q (.int i) H) ∨ ∃ k, xs = [.bl k] ∧ Q (.int (if k then 1 else 0)) H) (tCons (tOp (rI CPow fun i j => .int (i ^ j.toNat)) (tOp (rI0 fun i j => .int (i + j)) (tOp (rI0 fun i j => .int (i + j)) (tOp (rI CMul fun i j => .int (i * j)) (tVar 5) (tOp (rI0 fun i j => .int (i + j)) (tOp (rI CMul fun i j => .int (i * j)) (tC (.int 2)) (tVar 3)) (tC (.int 3307)))) (tOp (rI CMul fun i j => .int (i * j)) (tOp (rI CMul fun i j => .int (i * j)) (tC (.int 48611)) (tVar 3)) (tVar 3))) (tC (.int 27103))) (tC (.int 3))) tNil)) (tC (.int 2147483549))) (gName 5))
            (tRet (tOp (rI (fun _ j => 0 < j) fun i j => .int (i % j)) (tCB (fun xs H Q => (∃ i, xs = [.int i] ∧ Q (.int i) H) ∨ ∃ k, xs = [.bl k] ∧ Q (.int (if k then 1 else 0)) H) (tCons (tOp (rI CDivW fun i j => .int (i / j)) (tVar 5) (tC (.int 64))) tNil)) (tVar 1)))))
          { nx := fun _ H' => Q .non H', rt := Q } [some (.ref c), some (.int many), none, some (.int a), some (.int x), none] H2 := by
          have b1 := mod_rng (i := x) (j := 2147483647) (by decide)
          refine ⟨_, rfl, .inl ⟨x, rfl, x, 2147483647, rfl, rfl, (by show (0 : Int) < 2147483647; decide), ?_⟩⟩
          refine ⟨_, rfl, 27103, a, rfl, rfl, .inl ⟨by decide, by decide⟩, _, _, rfl, rfl, _, 7129, rfl, rfl, _, 5, rfl, rfl, ⟨by decide, by decide, ?_⟩, .inl ⟨_, rfl, _, 2147483579, rfl, rfl, (by show (0 : Int) < 2147483579; decide), ?_⟩⟩
          · generalize x % 2147483647 = z at b1 ⊢
            omega
          · dsimp only
            generalize ((x % 2147483647 + 27103 * a + 7129) ^ (5 : Int).toNat) = y
            have b2 := mod_rng (i := y) (j := 2147483579) (by decide)
            generalize y % 2147483579 = z at b2 ⊢
            refine ⟨_, rfl, _, rfl, 2, a, rfl, rfl, .inl ⟨by decide, by decide⟩, _, 3307, rfl, rfl, z, _, rfl, rfl, .inl ⟨by omega, by omega⟩, ?_⟩
            refine ⟨_, rfl, 48611, a, rfl, rfl, .inl ⟨by decide, by decide⟩, _, rfl, _, a, rfl, rfl, .inr ⟨by omega, by omega⟩, _, _, rfl, rfl, _, 27103, rfl, rfl, _, 3, rfl, rfl, ⟨by decide, by decide, ?_⟩, .inl ⟨_, rfl, _, 2147483549, rfl, rfl, (by show (0 : Int) < 2147483549; decide), ?_⟩⟩
            · exact mix_bound ha0 (by omega) b2.1 b2.2
            · dsimp only
              generalize ((z * (2 * a + 3307) + 48611 * a * a + 27103) ^ (3 : Int).toNat) = y2
              refine ⟨_, rfl, _, 64, rfl, rfl, wide_div (b := 10) (by decide) (by decide) (by decide) (by decide), .inl ⟨_, rfl, _, rfl, _, many, rfl, rfl, hp, ?_⟩⟩
              exact k _ _ (mod_rng hp).1 (mod_rng hp).2 ⟨hl, ncd, hd2, a + 1, 0, hc2, by omega, by omega, by decide⟩ sb
        refine ⟨_, rfl, _, rfl, c, _, 0, _, rfl, rfl, .of hc2, atI_nat (j := 0) rfl, ⟨d, ns.map V.int, rfl, .inl (.of hd2), a, _, rfl, rfl, _, rfl, ?_⟩⟩
        by_cases c1 : a < ((ns.map V.int).length : Nat)
        · rw [decide_eq_true c1]
          refine iteT ⟨_, rfl, x, rfl, 10, 18, rfl, rfl, ⟨by decide, by decide, by decide⟩, _, _, rfl, rfl, _, rfl, ?_⟩
          generalize hP : (10 : Int) ^ (18 : Int).toNat = P
          by_cases c2 : P ≤ (if x < 0 then -x else x)
          · rw [decide_eq_true c2]
            refine iteT ⟨_, rfl, x, rfl, 10, 18, rfl, rfl, ⟨by decide, by decide, by decide⟩, _, _, rfl, rfl, 2, _, rfl, rfl, .inl ⟨by decide, by decide⟩, ?_⟩
            rw [hP]
            refine ⟨_, rfl, x, 0, rfl, rfl, .inr ⟨_, rfl, _, _, rfl, rfl, ?_⟩⟩
            dsimp only
            generalize hz : 2 * ((if x < 0 then -x else x) - P) + (if (decide (x < 0)) = true then 1 else 0) = z
            have hz0 : 0 ≤ z := by
              rw [← hz]
              split <;> omega
            refine ⟨_, rfl, .inl ⟨z, rfl, _, rfl, z, many, rfl, rfl, hdiv z, _, rfl, c, _, 2, 2, rfl, rfl, hc2, rfl, ?_⟩⟩
            refine ⟨_, rfl, .inl ⟨z, rfl, _, rfl, z, many, rfl, rfl, hp, ?_⟩⟩
            refine k _ _ (mod_rng hp).1 (mod_rng hp).2 ⟨hl, ncd, (by rw [upd_ne (Ne.symm ncd)]; exact hd2), a + 1, z / many, upd_same, by omega, by omega, qdiv z hz0⟩ fun y o n e => ?_
            rw [upd_ne n]
            exact sb y o n e
          · rw [decide_eq_false c2]
            exact iteF mixed
        · rw [decide_eq_false c1]
          exact iteF mixed
      have sb1 : SameBut c H (upd H c (.lst [.ref d, .int (a + 1), .int 0])) := fun y o n e => by
        rw [upd_ne n]
        exact e
      refine ⟨_, rfl, c, _, 0, _, rfl, rfl, .of (upd_same), atI_nat (j := 0) rfl, ⟨(by show 0 ≤ sizeLine; decide), fun p hp2 => ?_⟩⟩
      have hp2 : (upd H c (.lst [.ref d, .int (a + 1), .int 0])) p = none := hp2
      have npc : p ≠ c := fun e => by
        rw [e, upd_same] at hp2
        cases hp2
      have npd : p ≠ d := fun e => by
        rw [e, hd1] at hp2
        cases hp2
      have hc3 : (upd (upd H c (.lst [.ref d, .int (a + 1), .int 0])) p (.lst [])) c = some (.lst [.ref d, .int (a + 1), .int 0]) := by
        rw [upd_ne (Ne.symm npc), upd_same]
      have hd3 : (upd (upd H c (.lst [.ref d, .int (a + 1), .int 0])) p (.lst [])) d = some (.lst (ns.map V.int)) := by
        rw [upd_ne (Ne.symm npd)]
        exact hd1
      have sb3 : SameBut c H (upd (upd H c (.lst [.ref d, .int (a + 1), .int 0])) p (.lst [])) := fun y o n e => by
        have e1 := sb1 y o n e
        rw [upd_ne (ne_of_none e1 hp2)]
        exact e1
      refine ⟨.list ((ns.map V.int).map toD), .list [], dpL (.of hd3) (flat_ints ns), dpNil (.of upd_same), shapedL (flat_ints ns), shapedNil, _, rfl, ?_⟩
      rw [eqvNil]
      cases hns : (ns.map V.int).isEmpty with
      | true => exact iteF (tail _ _ hc3 hd3 sb3)
      | false =>
        refine iteT ?_
        have hlen : 0 < ns.length := by
          cases ns with
          | nil => cases hns
          | cons n1 nr => exact Nat.succ_pos _
        refine ⟨_, rfl, c, _, 0, _, rfl, rfl, .of hc3, atI_nat (j := 0) rfl, _, rfl, .inl ⟨a, rfl, _, rfl, c, _, 0, _, rfl, rfl, .of hc3, atI_nat (j := 0) rfl, d, ns.map V.int, rfl, .inl (.of hd3), a, _, rfl, rfl, ?_, ?_⟩⟩
        · rw [List.length_map]
          show (0 : Int) < (ns.length : Int)
          omega
        · have hb2 := mod_rng (i := a) (j := ((ns.map V.int).length : Nat)) (by rw [List.length_map]; omega)
          rw [List.length_map] at hb2 ⊢
          dsimp only
          generalize hz : a % (ns.length : Int) = z at hb2 ⊢
          obtain ⟨j, rfl⟩ : ∃ j : Nat, z = (j : Int) := ⟨z.toNat, by omega⟩
          have hj : j < ns.length := by omega
          refine ⟨d, ns.map V.int, _, .int ns[j], rfl, rfl, .of hd3, atI_nat (by simp [hj]), ?_⟩
          exact tail _ _ hc3 hd3 sb3
end
end K0


set_option Elab.async false
set_option linter.all false
set_option maxRecDepth 100000
set_option maxHeartbeats 4000000
set_option exponentiation.threshold 100000
namespace K0
open PySem PySem.Spec PyProof.Rows L2 RZ K0z K3

theorem Coil.but {H H' : Hp} {c d : Addr} {ns : List Int} {m : Nat} (h : Coil H c d ns m) (s : Same H H') : Coil H' c d ns m := by
  obtain ⟨h1, h2, h3, a, b, h4, r⟩ := h
  exact ⟨h1, h2, s _ _ h3, a, b, s _ _ h4, r⟩
theorem Coil.ne {H : Hp} {c d : Addr} {ns : List Int} {m : Nat} (h : Coil H c d ns m) {p : Addr} (hp : H p = none) : p ≠ c ∧ p ≠ d := by
  obtain ⟨h1, h2, h3, a, b, h4, r⟩ := h
  exact ⟨fun e => (by rw [e, h4] at hp; cases hp), fun e => (by rw [e, h3] at hp; cases hp)⟩
theorem Coil.upd {H : Hp} {p c d : Addr} {o : HO} {ns : List Int} {m : Nat} (h : Coil H c d ns m) (hc : p ≠ c) (hd : p ≠ d) : Coil (upd H p o) c d ns m := by
  obtain ⟨h1, h2, h3, a, b, h4, r⟩ := h
  exact ⟨h1, h2, by rw [upd_ne (Ne.symm hd)]; exact h3, a, b, by rw [upd_ne (Ne.symm hc)]; exact h4, r⟩
theorem Coil.more {H : Hp} {c d : Addr} {ns : List Int} {m m' : Nat} (h : Coil H c d ns m) (l : m ≤ m') : Coil H c d ns m' := by
  obtain ⟨h1, h2, h3, a, b, h4, h5, h6, h7⟩ := h
  exact ⟨h1, h2, h3, a, b, h4, h5, by omega, h7⟩
theorem SameBut.off {c : Addr} {H H' : Hp} (s : SameBut c H H') : Same (Off c H) (Off c H') := same_off s
theorem SameBut.up {c : Addr} {H H' : Hp} (s : SameBut c H H') : Same (Off c H) H' := s.off.trans (off_same c H')
theorem sameBut_of {c : Addr} {H H' : Hp} (s : Same (Off c H) H') : SameBut c H H' := fun b o n e => s b o (by rw [off_ne n]; exact e)
theorem new_but {c : Addr} {H : Hp} {p : Addr} {o : HO} (hp : H p = none) : SameBut c H (upd H p o) := SameBut.of (same_upd hp)
section
variable {P : Program} {w : World} {K : PySem.W.Frag} {mg : Str → Option Value} {base : Heap} {f g g2 g3 : Addr} {fd : FuncData}
def spOne (K : PySem.W.Frag) : Sp := fun vs H Q _ => ∃ (c d : Addr) (ns : List Int) (m : Nat) (b : Bool) (a : Addr) (xs : List V), vs = [.ref c, .ref a] ∧ Coil H c d ns m ∧ m ≤ 100000 ∧ SqB K b (Off c H) a xs ∧ 0 < xs.length ∧ xs.length ≤ 100000 ∧
  ∀ (i : Nat) (y : V) (H' : Hp), xs[i]? = some y → Coil H' c d ns (m + 1) → SameBut c H H' → Q y H'
theorem sc_one_of : FnScope ["purse", "some"] ["purse", "some"] (defScope st__law_one_of) := ⟨rfl, rfl, rfl, by decide +kernel, rfl, by decide +kernel, by decide +kernel⟩
theorem natAbs_small {n k : Nat} (h : n ≤ 100000) : ((n : Nat) : Int).natAbs < 2 ^ 9000 := by
  have : (100000 : Nat) < 2 ^ 9000 := Nat.lt_of_lt_of_le (by decide : 100000 < 2 ^ 17) (Nat.pow_le_pow_right (by decide) (by decide))
  omega
theorem small9000 {n : Int} (h : n.natAbs < 2 ^ 200) : n.natAbs < 2 ^ 9000 := Nat.lt_of_lt_of_le h (Nat.pow_le_pow_right (by decide) (by decide))
theorem ok_one_of (F : Fun K "_law_one_of" "_law_one_of" st__law_one_of f fd) (T : Nm mg) (D__law_coin : Dn P w K mg base 1 "_law_coin" g ["purse", "many"] spTurn) : FnOk P w K mg base CX0 2 f fd ["purse", "some"] (spOne K) := by
  refine F.ok sc_one_of (fun vs H Q E h => ?_) (fun cdv A outer s H vs Q E hr h => ?_)
  · obtain ⟨c, d, ns, m, b, a, xs, rfl, _⟩ := h
    rfl
  · obtain ⟨c, d, ns, m, b, a, xs, rfl, hC, hm, hx, h0, h1, k⟩ := h
    refine ⟨_, (pss_one (ps_ret (pe_ix (ix_K K) (pv 1) (pe_dn D__law_coin (hr.mono (by decide)) rfl (pa_cons (pv 0) (pa_cons (pe_callB (call_lenK K) (by rfl) T.n_len (by decide +kernel) (pa_cons (pv 1) pa_nil)) pa_nil))) (fun _ _ => rfl)))), ?_⟩
    refine ⟨_, rfl, _, rfl, _, rfl, b, a, xs, rfl, hx.same (off_same c H), c, d, ns, m, (xs.length : Nat), rfl, hC, hm, by omega, natAbs_small (k := 0) h1, fun r H1 r0 r1 hC1 sb => ?_⟩
    obtain ⟨j, rfl⟩ : ∃ j : Nat, r = (j : Int) := ⟨r.toNat, by omega⟩
    have hj : j < xs.length := by omega
    have e := List.getElem?_eq_getElem hj
    exact ⟨b, a, xs, _, _, rfl, rfl, hx.same sb.up, atI_nat e, k j _ H1 e hC1 sb⟩
def spNum : Sp := fun vs H Q _ => ∃ (c d : Addr) (ns : List Int) (m : Nat) (size : Int), vs = [.ref c, .int size] ∧ Coil H c d ns m ∧ m ≤ 90000 ∧ 0 < size ∧ size ≤ 100000000000000000 ∧
  ∀ (r : Int) (H' : Hp), r.natAbs < 2 ^ 68 → Coil H' c d ns (m + 2) → SameBut c H H' → Q (.int r) H'
theorem sc_number : FnScope ["purse", "size"] ["purse", "size"] (defScope st__law_number) := ⟨rfl, rfl, rfl, by decide +kernel, rfl, by decide +kernel, by decide +kernel⟩
theorem cm {i j : Int} (hi : i.natAbs ≤ 1000000000000000000) (hj : j.natAbs ≤ 1000000000000000000) : CMulW i j :=
  wide_mul (a := 100) (b := 100) (Nat.lt_of_le_of_lt hi (by decide)) (Nat.lt_of_le_of_lt hj (by decide)) (by decide) (by decide) (by decide)
theorem ok_number (F : Fun K "_law_number" "_law_number" st__law_number f fd) (D__law_coin : Dn P w K mg base 1 "_law_coin" g ["purse", "many"] spTurn) : FnOk P w K mg base CX0 2 f fd ["purse", "size"] spNum := by
  refine F.ok sc_number (fun vs H Q E h => ?_) (fun cdv A outer s H vs Q E hr h => ?_)
  · obtain ⟨c, d, ns, m, size, rfl, _⟩ := h
    rfl
  · obtain ⟨c, d, ns, m, size, rfl, hC, hm, h0, h1, k⟩ := h
    refine ⟨_, (pss_cons (ps_if (pt_cmpR op_lt (pv 1) pe_int (nomark _)) (pss_one (ps_ret (pe_op op_sub (pe_dn D__law_coin (hr.mono (by decide)) rfl (pa_cons (pv 0) (pa_cons (pe_op op_add (pe_op op_mulW pe_int (pv 1)) pe_int) pa_nil))) (pv 1)))) pss_nil)
    (pss_one (ps_ret (pe_op op_sub (pe_op op_add (pe_op op_mulW (pe_op op_sub (pe_dn D__law_coin (hr.mono (by decide)) rfl (pa_cons (pv 0) (pa_cons pe_int pa_nil))) pe_int) (pv 1)) (pe_dn D__law_coin (hr.mono (by decide)) rfl (pa_cons (pv 0) (pa_cons pe_int pa_nil)))) pe_int)))), ?_⟩
    refine ⟨_, rfl, _, _, rfl, rfl, _, rfl, ?_⟩
    have e200 : ∀ n : Int, n.natAbs ≤ 1000000000000000000 → n.natAbs < 2 ^ 9000 := fun n hn => small9000 (Nat.lt_of_le_of_lt hn (by decide))
    by_cases c1 : size < 100
    · rw [decide_eq_true c1]
      refine iteT ⟨_, rfl, _, rfl, 2, size, rfl, rfl, cm (by omega) (by omega), _, _, rfl, rfl, c, d, ns, m, _, rfl, hC, by omega, by omega, e200 _ (by omega), fun r H1 r0 r1 hC1 sb => ?_⟩
      refine ⟨_, rfl, _, _, rfl, rfl, k _ H1 ?_ (hC1.more (by omega)) sb⟩
      have : (100 : Nat) < 2 ^ 68 := by decide
      omega
    · rw [decide_eq_false c1]
      refine iteF ⟨_, rfl, c, d, ns, m, 2001, rfl, hC, by omega, by decide, e200 _ (by decide), fun r H1 r0 r1 hC1 sb => ?_⟩
      refine ⟨_, _, rfl, rfl, _, rfl, _, _, rfl, rfl, cm (by omega) (by omega), ?_⟩
      refine ⟨_, rfl, c, d, ns, m + 1, 7, rfl, hC1, by omega, by decide, e200 _ (by decide), fun r2 H2 r20 r21 hC2 sb2 => ?_⟩
      refine ⟨_, _, rfl, rfl, _, _, rfl, rfl, k _ H2 ?_ hC2 (sb.trans sb2)⟩
      have a1 : (r - 1000) * size ≤ 1000 * 100000000000000000 := by
        rcases Int.le_total 0 (r - 1000) with z | z
        · exact Int.mul_le_mul (by omega) h1 (by omega) (by omega)
        · have := Int.mul_nonneg (by omega : 0 ≤ -(r - 1000)) (by omega : 0 ≤ size)
          have e : -(r - 1000) * size = -((r - 1000) * size) := Int.neg_mul ..
          omega
      have a2 : -(1000 * 100000000000000000) ≤ (r - 1000) * size := by
        rcases Int.le_total 0 (r - 1000) with z | z
        · have := Int.mul_nonneg z (by omega : 0 ≤ size)
          omega
        · have := Int.mul_le_mul (by omega : -(r - 1000) ≤ 1000) h1 (by omega) (by omega)
          have e : -(r - 1000) * size = -((r - 1000) * size) := Int.neg_mul ..
          omega
      generalize (r - 1000) * size = z at a1 a2 ⊢
      have : (200000000000000000000 : Nat) < 2 ^ 68 := by decide
      omega
/-! ### stirred -/
theorem perm_erase {α : Type} : ∀ (l : List α) (j : Nat) (h : j < l.length), ([l[j]] ++ l.eraseIdx j).Perm l
  | a :: l, 0, _ => List.Perm.refl _
  | a :: l, j + 1, h => by
    have hj : j < l.length := by simpa using h
    have ih := perm_erase l j hj
    show (l[j] :: a :: l.eraseIdx j).Perm (a :: l)
    exact (List.Perm.swap a l[j] _).trans (List.Perm.cons a ih)

def spStir (K : PySem.W.Frag) : Sp := fun vs H Q _ => ∃ (c d : Addr) (ns : List Int) (m : Nat) (b : Bool) (a : Addr) (xs : List V), vs = [.ref c, .ref a] ∧ Coil H c d ns m ∧ m + 100 ≤ 100000 ∧ SqB K b (Off c H) a xs ∧ xs.length ≤ 60 ∧
  ∀ (p : Addr) (ys : List V) (H' : Hp), ys.Perm xs → H p = none → p ≠ c → p ≠ d → H' p = some (.lst ys) → Coil H' c d ns (m + xs.length) → SameBut c H H' → Q (.ref p) H'
theorem sc_stirred : FnScope ["purse", "some", "left", "found"] ["purse", "some"] (defScope st__law_stirred) := ⟨rfl, rfl, rfl, by decide +kernel, rfl, by decide +kernel, by decide +kernel⟩
theorem ok_stirred (F : Fun K "_law_stirred" "_law_stirred" st__law_stirred f fd) (T : Nm mg) (D__law_coin : Dn P w K mg base 1 "_law_coin" g ["purse", "many"] spTurn) : FnOk P w K mg base CX0 2 f fd ["purse", "some"] (spStir K) := by
  refine F.ok sc_stirred (fun vs H Q E h => ?_) (fun cdv A outer s H vs Q E hr h => ?_)
  · obtain ⟨c, d, ns, m, b, a, xs, rfl, _⟩ := h
    rfl
  · obtain ⟨c, d, ns, m, b, a, xs, rfl, hC, hm, hx, hz, k⟩ := h
    refine ⟨_, (pss_cons (ps_par (i := 2) (j := 3) (by rfl) sc_stirred.nd rfl rfl (by decide) rfl rfl (pa_cons (pe_callTy (call_listK K) (by rfl) T.n_list (by decide +kernel) (pa_cons (pv 1) pa_nil)) (pa_cons (pe_lst pa_nil) pa_nil)) (by rfl))
    (pss_cons (ps_while PassesOwn.never (pt_cmpR (op_neNil K hr.units) (pv 2) (pe_lst pa_nil) (nomark _)) (pss_one (ps_expr (pe_bm PySem.F.plainAttrs_list PySem.F.slot_list_append PySem.F.type_list_append mt_append (pv 3) (pa_cons (pe_bm PySem.F.plainAttrs_list PySem.F.slot_list_pop PySem.F.type_list_pop mt_popAt (pv 2) (pa_cons (pe_dn D__law_coin (hr.mono (by decide)) rfl (pa_cons (pv 0) (pa_cons (pe_callB (call_lenK K) (by rfl) T.n_len (by decide +kernel) (pa_cons (pv 2) pa_nil)) pa_nil))) pa_nil)) pa_nil)))))
    (pss_one (ps_ret (pv 3))))), ?_⟩
    refine ⟨_, rfl, b, a, xs, rfl, hx.same (off_same c H), fun L hL => ⟨(by show 0 ≤ sizeLine; decide), fun Fd hF => ⟨_, _, rfl, ?_⟩⟩⟩
    have nLF : L ≠ Fd := fun e => by rw [← e, upd_same] at hF; cases hF
    obtain ⟨nLc, nLd⟩ := hC.ne hL
    have hC1 := hC.upd (o := .lst xs) nLc nLd
    obtain ⟨nFc, nFd⟩ := hC1.ne hF
    have hC2 := hC1.upd (o := .lst []) nFc nFd
    have hFH : H Fd = none := by rw [upd_ne (Ne.symm nLF)] at hF; exact hF
    refine while_by (fun σ H2 => σ = [some (.ref c), some (.ref a), some (.ref L), some (.ref Fd)] ∧ ∃ ls fs : List V, H2 L = some (.lst ls) ∧ H2 Fd = some (.lst fs) ∧ (fs ++ ls).Perm xs ∧ Coil H2 c d ns (m + fs.length) ∧ SameBut c H H2)
      (fun σ H2 => match H2 L with | some (.lst l) => l.length | _ => 0) ⟨rfl, xs, [], ?_, upd_same, by simp, hC2, ?_⟩ ?_ ?_
    · rw [upd_ne nLF, upd_same]
    · exact (new_but hL).trans (new_but hF)
    · rintro σ H2 ⟨rfl, ls, fs, h1, h2, hp, hC3, sb⟩
      refine ⟨_, rfl, (by show 0 ≤ sizeLine; decide), fun p hpn => ⟨L, p, ls, rfl, rfl, .of ?_, .of upd_same, _, rfl, ?_⟩⟩
      · rw [upd_ne (ne_of_none h1 hpn)]; exact h1
      have s2 : Same H2 (upd H2 p (.lst [])) := same_upd hpn
      have lp : fs.length + ls.length = xs.length := by rw [← List.length_append]; exact hp.length_eq
      cases ls with
      | nil =>
        refine iteF ⟨_, rfl, ?_⟩
        rw [List.append_nil] at hp
        have hf : fs.length = xs.length := hp.length_eq
        rw [hf] at hC3
        exact k Fd fs _ hp hFH nFc nFd (s2 _ _ h2) (hC3.but s2) (sb.trans (SameBut.of s2))
      | cons l0 lr =>
        refine iteT ?_
        have hlen : (l0 :: lr).length = lr.length + 1 := rfl
        refine ⟨.ref Fd, rfl, .inl ⟨rfl, _, .of (s2 _ _ h2)⟩, .ref L, rfl, .inl ⟨rfl, _, .of (s2 _ _ h1)⟩, _, rfl, _, rfl, false, L, _, rfl, .of (s2 _ _ h1), c, d, ns, _, _, rfl, hC3.but s2, by omega, by rw [hlen]; omega, natAbs_small (k := 0) (by omega), fun r H3 r0 r1 hC4 sb4 => ?_⟩
        obtain ⟨j, rfl⟩ : ∃ j : Nat, r = (j : Int) := ⟨r.toNat, by omega⟩
        have hj : j < (l0 :: lr).length := by omega
        have e := List.getElem?_eq_getElem hj
        have h31 := sb4 _ _ nLc (s2 _ _ h1)
        have h32 := sb4 _ _ nFc (s2 _ _ h2)
        refine ⟨L, l0 :: lr, (j : Nat), j, _, rfl, rfl, h31, by omega, by omega, PySem.seqIndex_of (by omega) (by omega), e, ?_⟩
        refine ⟨Fd, fs, _, rfl, rfl, by rw [upd_ne (Ne.symm nLF)]; exact h32, Nat.lt_of_le_of_lt (by omega : fs.length ≤ 60) (by decide), ?_⟩
        have nl : ((l0 :: lr).eraseIdx j).length = lr.length := by rw [List.length_eraseIdx_of_lt hj]; rfl
        refine ⟨⟨rfl, (l0 :: lr).eraseIdx j, fs ++ [(l0 :: lr)[j]], ?_, upd_same, ?_, ?_, ?_⟩, ?_⟩
        · rw [upd_ne nLF, upd_same]
        · refine List.Perm.trans ?_ hp
          rw [List.append_assoc]
          refine List.Perm.append_left fs ?_
          exact perm_erase _ j hj
        · rw [List.length_append]
          exact (hC4.upd nLc nLd).upd nFc nFd
        · intro x o n e
          rw [upd_ne (ne_of_none e hFH), upd_ne (ne_of_none e hL)]
          exact sb4 x o n (s2 x o (sb x o n e))
        · have e1 : upd (upd H3 L (.lst ((l0 :: lr).eraseIdx j))) Fd (.lst (fs ++ [(l0 :: lr)[j]])) L = some (.lst ((l0 :: lr).eraseIdx j)) := by rw [upd_ne nLF, upd_same]
          rw [e1, h1]
          show ((l0 :: lr).eraseIdx j).length < (l0 :: lr).length
          rw [nl]
          exact Nat.lt_succ_self _
    · rintro σ H2 Q1 Q2 hh ⟨v, e1, h1, z⟩
      refine ⟨v, e1, h1, fun p hp => ?_⟩
      obtain ⟨a1, b1, xs1, q1, q2, q3, q4, kk, q5, q6⟩ := z p hp
      exact ⟨a1, b1, xs1, q1, q2, q3, q4, kk, q5, hh _ _ q6⟩
end
end K0


set_option Elab.async false
set_option linter.all false
set_option maxRecDepth 100000
set_option maxHeartbeats 8000000
set_option exponentiation.threshold 100000
namespace K0
open PySem PySem.Spec PyProof.Rows L2 RZ K0z K3

theorem cut_take (xs : List V) (k : Nat) : cutV xs none (some (k : Int)) = xs.take k := by
  show (xs.drop 0).take (HT.sIx xs.length xs.length (some (k : Int)) - 0) = _
  rw [HT.sIx_nat, List.drop_zero, Nat.sub_zero]
  by_cases h : k ≤ xs.length
  · rw [Nat.min_eq_left h]
  · rw [Nat.min_eq_right (by omega), List.take_length, List.take_of_length_le (by omega)]
theorem lc_draw {te : TE} {vs : List Nat} {σ : L2.St} {H1 : Hp} {D : Addr} {Qd : Hp → Prop} {i0 n : Nat} {lo : Int} {c d : Addr} {ns : List Int} {m : Nat} (hn : n ≤ 1000) (hD : H1 D = none) (hC : Coil H1 c d ns m) (hw : ∀ x, wipe ((wipe σ vs).set i0 (some x)) vs = wipe σ vs)
    (he : ∀ x H m', m' ≤ m + 2 * n → Coil H c d ns m' → ∀ R : VK, (∀ (r : Int) H', r.natAbs < 2 ^ 68 → Coil H' c d ns (m' + 2) → SameBut c H H' → R (.int r) H') → te ((wipe σ vs).set i0 (some x)) H R)
    (hd : ∀ H (xs : Vec), xs.length = n → (∀ b ∈ xs, b.natAbs < 2 ^ 68) → H D = some (.lst (xs.map V.int)) → Coil H c d ns (m + 2 * n) → SameBut c H1 H → Qd H) :
    ∃ W : Nat → Nat → Hp → Prop, (∃ m, W 0 m (upd H1 D (.lst []))) ∧ ∀ i m H, W i m H →
      ((Itr lo n).stop i H ∧ Qd H) ∨ ((Itr lo n).go i H ∧ ∃ Nx : Hp → Prop, (∀ H', Nx H' → ∃ m', m' < m ∧ W (i + 1) m' H') ∧ ∀ x H', (Itr lo n).yld i H x H' → gName i0 x (wipe σ vs) H' fun σ2 H2 => wipe σ2 vs = wipe σ vs ∧ tYes σ2 H2 fun b H3 =>
        if b = true then te σ2 H3 fun y H4 => ∃ acc, H4 D = some (.lst acc) ∧ acc.length < sizeLine ∧ Nx (upd H4 D (.lst (acc ++ [y]))) else Nx H3) := by
  obtain ⟨nDc, nDd⟩ := hC.ne hD
  refine lc_it walk_range (fun i H => ∃ xs : Vec, xs.length = i ∧ (∀ b ∈ xs, b.natAbs < 2 ^ 68) ∧ H D = some (.lst (xs.map V.int)) ∧ Coil H c d ns (m + 2 * i) ∧ SameBut c H1 H)
    ⟨[], rfl, fun _ h => absurd h List.not_mem_nil, upd_same, hC.upd nDc nDd, new_but hD⟩ (fun _ _ _ _ => trivial) ?_ ?_
  · rintro i x H H' hi ⟨xs, l, hb, hx, hC2, sb⟩ ⟨rfl, rfl⟩
    refine ⟨hw _, ?_⟩
    refine he _ _ _ (by omega) hC2 _ fun r H2 hr hC3 sb2 => ⟨_, sb2 _ _ nDc hx, ?_, xs ++ [r], by rw [List.length_append, l]; rfl, fun b hb' => ?_, ?_, hC3.upd nDc nDd, fun b o n e => ?_⟩
    · rw [List.length_map, l]
      exact Nat.lt_of_lt_of_le hi (Nat.le_trans hn (by decide))
    · rcases List.mem_append.mp hb' with z | z
      · exact hb b z
      · rw [List.mem_singleton.mp z]; exact hr
    · rw [upd_same, List.map_append]
      rfl
    · rw [upd_ne (ne_of_none e hD)]
      exact sb2 _ _ n (sb _ _ n e)
  · rintro H ⟨xs, l, hb, hx, hC2, sb⟩
    exact hd H xs l hb hx hC2 sb
/-- these refs stand for these vectors, each a list at an address that is neither c nor a -/
def Rws (H : Hp) (c a : Addr) (vs : List V) (M : List Vec) : Prop := vs.length = M.length ∧ ∀ (i : Nat) (u : V) (x : Vec), vs[i]? = some u → M[i]? = some x → ∃ q, u = .ref q ∧ q ≠ c ∧ q ≠ a ∧ H q = some (.lst (x.map V.int))
theorem Rws.mono {H H' : Hp} {c a : Addr} {vs : List V} {M : List Vec} (h : Rws H c a vs M) (s : ∀ b o, b ≠ c → b ≠ a → H b = some o → H' b = some o) : Rws H' c a vs M :=
  ⟨h.1, fun i u x h1 h2 => let ⟨q, e, n1, n2, z⟩ := h.2 i u x h1 h2; ⟨q, e, n1, n2, s q _ n1 n2 z⟩⟩
theorem Rws.snoc {H : Hp} {c a q : Addr} {vs : List V} {M : List Vec} {x : Vec} (h : Rws H c a vs M) (n1 : q ≠ c) (n2 : q ≠ a) (hq : H q = some (.lst (x.map V.int))) : Rws H c a (vs ++ [.ref q]) (M ++ [x]) := by
  refine ⟨by rw [List.length_append, List.length_append, h.1]; rfl, fun i u y h1 h2 => ?_⟩
  by_cases hi : i < vs.length
  · rw [List.getElem?_append_left hi] at h1
    rw [List.getElem?_append_left (by rw [← h.1]; exact hi)] at h2
    exact h.2 i u y h1 h2
  · rw [List.getElem?_append_right (by omega)] at h1
    rw [List.getElem?_append_right (by rw [← h.1]; omega), ← h.1] at h2
    have e : i - vs.length = 0 := by
      refine Nat.eq_zero_of_not_pos fun z => ?_
      rw [List.getElem?_eq_none (by show 1 ≤ i - vs.length; omega)] at h1
      cases h1
    rw [e] at h1 h2
    cases h1
    cases h2
    exact ⟨q, rfl, n1, n2, hq⟩
theorem Rws.nil (H : Hp) (c a : Addr) : Rws H c a [] [] := ⟨rfl, fun i u x h => by cases h⟩
/-- what such a ref stands for -/
def cont (H : Hp) : V → Vec
  | .ref q => match H q with
    | some (.lst l) => l.map toI
    | _ => []
  | _ => []
theorem toI_map (x : Vec) : (x.map V.int).map toI = x := by
  rw [List.map_map]
  exact List.map_id' x
theorem cont_ref {H : Hp} {q : Addr} {x : Vec} (z : H q = some (.lst (x.map V.int))) : cont H (.ref q) = x := by
  show (match H q with
    | some (HO.lst l) => l.map toI
    | _ => []) = x
  rw [z]
  exact toI_map x
theorem Rws.cont {H : Hp} {c a : Addr} {vs : List V} {M : List Vec} (h : Rws H c a vs M) : M = vs.map (cont H) := by
  refine List.ext_getElem (by rw [List.length_map, h.1]) fun i h1 h2 => ?_
  rw [List.length_map] at h2
  obtain ⟨q, e, _, _, z⟩ := h.2 i _ _ (List.getElem?_eq_getElem h2) (List.getElem?_eq_getElem h1)
  rw [List.getElem_map, e]
  exact (cont_ref z).symm
theorem Rws.perm {H : Hp} {c a : Addr} {vs ys : List V} {M : List Vec} (h : Rws H c a vs M) (p : ys.Perm vs) : ∃ N, N.Perm M ∧ Rws H c a ys N := by
  refine ⟨ys.map (K0.cont H), ?_, by rw [List.length_map], fun i u x h1 h2 => ?_⟩
  · have := p.map (K0.cont H)
    rw [← h.cont] at this
    exact this
  · have hm : u ∈ vs := p.mem_iff.mp (List.mem_of_getElem? h1)
    obtain ⟨j, hj⟩ := List.mem_iff_getElem?.mp hm
    have hjl : j < M.length := by rw [← h.1]; exact (List.getElem?_eq_some_iff.mp hj).1
    obtain ⟨q, e, n1, n2, z⟩ := h.2 j u _ hj (List.getElem?_eq_getElem hjl)
    rw [List.getElem?_map, h1] at h2
    have e2 : K0.cont H u = x := Option.some.inj h2
    have e3 : K0.cont H u = M[j] := by
      rw [e]
      exact cont_ref z
    exact ⟨q, e, n1, n2, by rw [← e2, e3]; exact z⟩
theorem perm_nats {n : Nat} {ys : List V} (p : ys.Perm (rgV 0 n)) : ∃ P : List Nat, P.Perm (List.range n) ∧ ys = P.map fun i : Nat => V.int (i : Nat) := by
  have e : rgV 0 n = (List.range n).map fun i : Nat => V.int (i : Nat) := by
    unfold rgV
    rw [show ((n : Int) - 0).toNat = n by omega]
    refine List.map_congr_left fun i _ => ?_
    rw [Int.zero_add]
  rw [e] at p
  refine ⟨ys.map fun v => (toI v).toNat, ?_, ?_⟩
  · have := p.map fun v => (toI v).toNat
    rw [List.map_map] at this
    refine this.trans (List.Perm.of_eq ?_)
    conv => rhs; rw [← List.map_id (List.range n)]
    exact List.map_congr_left fun i _ => by simp [toI]
  · rw [List.map_map]
    conv => lhs; rw [← List.map_id ys]
    refine List.map_congr_left fun v hv => ?_
    obtain ⟨i, _, rfl⟩ := List.mem_map.mp (p.mem_iff.mp hv)
    simp [toI]
structure Heads (w : Nat) (P : List Nat) (E : List Vec) : Prop where
  a : ∀ (t : Nat) (e : Vec) (p : Nat), E[t]? = some e → P[t]? = some p → e.length = w ∧ e.getD p 0 ≠ 0
  b : ∀ (s t : Nat) (e : Vec) (p : Nat), s < t → E[t]? = some e → P[s]? = some p → e.getD p 0 = 0
  len : ∀ e ∈ E, e.length = w
  bd : ∀ e ∈ E, ∀ b ∈ e, b.natAbs ≤ 2 ^ 69
theorem Heads.nil (w : Nat) (P : List Nat) : Heads w P [] := ⟨fun t e p h => (by cases h), fun s t e p _ h => (by cases h), fun _ h => absurd h List.not_mem_nil, fun _ h => absurd h List.not_mem_nil⟩
theorem snoc_get {α : Type} {l : List α} {x y : α} {i : Nat} (h : (l ++ [x])[i]? = some y) : l[i]? = some y ∨ (i = l.length ∧ y = x) := by
  by_cases hi : i < l.length
  · rw [List.getElem?_append_left hi] at h
    exact .inl h
  · rw [List.getElem?_append_right (by omega)] at h
    have e : i - l.length = 0 := by
      refine Nat.eq_zero_of_not_pos fun z => ?_
      rw [List.getElem?_eq_none (by show 1 ≤ i - l.length; omega)] at h
      cases h
    rw [e] at h
    exact .inr ⟨by omega, (Option.some.inj h).symm⟩
theorem Heads.snoc {w : Nat} {P : List Nat} {E : List Vec} (h : Heads w P E) {x : Vec} {p : Nat} {v : Int} (hl : x.length = w) (hp : P[E.length]? = some p) (hw : p < w) (nd : P.Nodup) (nv : v ≠ 0) (bv : v.natAbs ≤ 2 ^ 69) (bx : ∀ b ∈ x, b.natAbs ≤ 2 ^ 69) :
    Heads w P (E ++ [(zeroAt x (P.take E.length)).set p v]) := by
  have lz : (zeroAt x (P.take E.length)).length = w := by rw [zeroAt_len, hl]
  refine ⟨fun t e q h1 h2 => ?_, fun s t e q hs h1 h2 => ?_, fun e he => ?_, fun e he => ?_⟩
  · rcases snoc_get h1 with z | ⟨z, rfl⟩
    · exact h.a t e q z h2
    · rw [z, hp] at h2
      cases h2
      refine ⟨by rw [List.length_set, lz], ?_⟩
      rw [set_get, if_pos ⟨rfl, by rw [lz]; exact hw⟩]
      exact nv
  · rcases snoc_get h1 with z | ⟨z, rfl⟩
    · exact h.b s t e q hs z h2
    · rw [set_get, if_neg, zeroAt_get]
      · rw [z] at hs
        refine List.mem_of_getElem? (i := s) ?_
        rw [List.getElem?_take, if_pos hs]
        exact h2
      · rintro ⟨e1, _⟩
        rw [z] at hs
        have l1 := (List.getElem?_eq_some_iff.mp h2).1
        have l2 := (List.getElem?_eq_some_iff.mp hp).1
        have : s = E.length := (List.getElem?_inj l1 nd).mp (by rw [h2, hp, e1])
        omega
  · rcases List.mem_append.mp he with z | z
    · exact h.len e z
    · rw [List.mem_singleton.mp z, List.length_set, lz]
  · rcases List.mem_append.mp he with z | z
    · exact h.bd e z
    · rw [List.mem_singleton.mp z]
      exact set_bound bv (zeroAt_bound _ _ bx)
theorem ixN_nat {n j : Nat} (hj : j < n) : ixN n (j : Int) = some j := by
  unfold ixN
  rw [if_pos (by omega), if_pos (by omega)]
  simp
theorem zip_list (b : Int) (x y : Vec) : (List.range (min x.length y.length)).map (fun t => V.int (x.getD t 0 + b * y.getD t 0)) = (List.zipWith (fun mine its => mine + b * its) x y).map V.int := by
  refine List.ext_getElem (by simp) fun i h1 h2 => ?_
  simp only [List.length_map, List.length_zipWith] at h2
  have hx : i < x.length := by omega
  have hy : i < y.length := by omega
  simp [List.getD_eq_getElem?_getD, List.getElem?_eq_getElem hx, List.getElem?_eq_getElem hy]
theorem rep_noughts (w : Nat) : (List.replicate ((w : Nat) : Int).toNat [V.int 0]).flatten = (comb w [] []).map V.int := by
  rw [Int.toNat_natCast, comb_nil, List.map_replicate]
  induction w with
  | zero => rfl
  | succ w ih => rw [List.replicate_succ, List.flatten_cons, ih]; rfl
theorem Rws.to {H H' : Hp} {c a a' : Addr} {vs : List V} {M : List Vec} (h : Rws H c a vs M) (s : SameBut c H H') (ha : H a' = none) : Rws H' c a' vs M :=
  ⟨h.1, fun i u x h1 h2 => let ⟨q, e, n1, _, z⟩ := h.2 i u x h1 h2; ⟨q, e, n1, ne_of_none z ha, s q _ n1 z⟩⟩
theorem map_set_int (x : Vec) (p : Nat) (v : Int) : (x.map V.int).set p (.int v) = (x.set p v).map V.int := by rw [List.map_set]
section
variable {P : Program} {w : World} {K : PySem.W.Frag} {mg : Str → Option Value} {base : Heap} {f g g2 g3 g4 : Addr} {fd : FuncData}
def spRanked (K : PySem.W.Frag) : Sp := fun vs H Q _ => ∃ (c d : Addr) (ns : List Int) (m r w n : Nat), vs = [.ref c, .int (r : Nat), .int (w : Nat), .int (n : Nat)] ∧ Coil H c d ns m ∧ m + 1000 ≤ 80000 ∧ r ≤ w ∧ r ≤ n ∧ w ≤ 8 ∧ n ≤ 16 ∧
  ∀ (p : Addr) (us : List V) (M : List Vec) (H' : Hp), H p = none → p ≠ c → p ≠ d → H' p = some (.lst us) → Rws H' c p us M → Ranked w r M → M.length = n → (∀ x ∈ M, ∀ b ∈ x, b.natAbs ≤ 2 ^ 75) → Coil H' c d ns (m + 1000) → SameBut c H H' → Q (.ref p) H'
abbrev N_ranked : List Str := ["purse", "rank", "wide", "many", "places", "size", "rows", "turn", "place", "row", "spot", "heads", "head", "by", "mine", "its"]
theorem sc_ranked : FnScope ["purse", "rank", "wide", "many", "places", "size", "rows", "turn", "place", "row", "spot", "heads", "head", "by", "mine", "its"] ["purse", "rank", "wide", "many"] (defScope st__law_ranked) := ⟨rfl, rfl, rfl, by decide +kernel, rfl, by decide +kernel, by decide +kernel⟩
theorem ok_ranked (F : Fun K "_law_ranked" "_law_ranked" st__law_ranked f fd) (T : Nm mg) (D__law_coin : Dn P w K mg base 1 "_law_coin" g ["purse", "many"] spTurn) (D__law_one_of : Dn P w K mg base 2 "_law_one_of" g2 ["purse", "some"] (spOne K))
    (D__law_number : Dn P w K mg base 2 "_law_number" g3 ["purse", "size"] spNum) (D__law_stirred : Dn P w K mg base 2 "_law_stirred" g4 ["purse", "some"] (spStir K)) : FnOk P w K mg base CX0 3 f fd ["purse", "rank", "wide", "many"] (spRanked K) := by
  refine F.ok sc_ranked (fun vs H Q E h => ?_) (fun cdv A outer s H vs Q E hr h => ?_)
  · obtain ⟨c, d, ns, m, r, w, n, rfl, _⟩ := h
    rfl
  · obtain ⟨c, d, ns, m, r, wd, n, rfl, hC, hm, hrw, hrn, hw8, hn16, k⟩ := h
    refine ⟨_, (pss_cons (ps_set (i := 4) sc_ranked.nd rfl (Or.inl rfl) (pe_slice sl_list (pe_dn D__law_stirred (hr.mono (by decide)) rfl (pa_cons (pv 0) (pa_cons (pe_listRg rfl (by rfl) T.n_list (prg_1 (by rfl) T.n_range (pv 2))) pa_nil))) po_none (po_some (pv 1))))
    (pss_cons (ps_asg (pe_tup (pa_cons (pe_dn D__law_one_of (hr.mono (by decide)) rfl (pa_cons (pv 0) (pa_cons (pe_lst (pa_cons pe_int (pa_cons pe_int (pa_cons pe_int (pa_cons (pe_op op_pow pe_int pe_int) (pa_cons (pe_op op_pow pe_int pe_int) pa_nil)))))) pa_nil))) (pa_cons (pe_lst pa_nil) pa_nil))) (pg_tup (by rfl) (pgs_cons (pg_name (i := 5) sc_ranked.nd rfl (Or.inr rfl)) (pgs_cons (pg_name (i := 6) sc_ranked.nd rfl (Or.inl rfl)) pgs_nil))))
    (pss_cons (ps_for PassesOwn.never rfl (pi_enum (by rfl) T.n_enumerate (pa_cons (pv 4) pa_nil)) (pg_tup (by rfl) (pgs_cons (pg_name (i := 7) sc_ranked.nd rfl (Or.inl rfl)) (pgs_cons (pg_name (i := 8) sc_ranked.nd rfl (Or.inl rfl)) pgs_nil)))
      (pss_cons (ps_setLc (i := 9) (own := [("spot", 10)]) (g := gName 10) (tt := tYes) rfl sc_ranked.nd rfl rfl (sw_true rfl rfl rfl (by decide +kernel)) (pi_range1 (by rfl) T.n_range (pa_cons (pv 2) pa_nil)) (blkOk_by (N := ["purse", "rank", "wide", "many", "places", "size", "rows", "turn", "place", "row", "spot", "heads", "head", "by", "mine", "its"]) (sc := defScope st__law_ranked) (by decide +kernel)) (fun _ _ _ _ _ => (pg_name (i := 10) sc_ranked.nd rfl (Or.inl rfl))) (fun _ _ _ _ _ => pts_nil) (fun _ _ _ _ _ => (pe_dn D__law_number (hr.mono (by decide)) rfl (pa_cons (pv 0) (pa_cons (pv 5) pa_nil)))))
    (pss_cons (ps_for PassesOwn.never rfl (pi_seqK K (pe_slice sl_list (pv 4) po_none (po_some (pv 7)))) (pg_name (i := 10) sc_ranked.nd rfl (Or.inl rfl))
      (pss_one (ps_asg pe_int (pg_sub (pv 9) (pv 10) set_list))))
    (pss_cons (ps_asg (pe_op op_mulW (pe_op op_sub pe_int (pe_op op_mulW pe_int (pe_dn D__law_coin (hr.mono (by decide)) rfl (pa_cons (pv 0) (pa_cons pe_int pa_nil))))) (pe_op op_add pe_int (pe_callB call_abs (by rfl) T.n_abs (by decide +kernel) (pa_cons (pe_dn D__law_number (hr.mono (by decide)) rfl (pa_cons (pv 0) (pa_cons (pv 5) pa_nil))) pa_nil)))) (pg_sub (pv 9) (pv 8) set_list))
    (pss_one (ps_expr (pe_bm PySem.F.plainAttrs_list PySem.F.slot_list_append PySem.F.type_list_append mt_append (pv 6) (pa_cons (pv 9) pa_nil))))))))
    (pss_cons (ps_setLc (i := 11) (own := [("row", 9)]) (g := gName 9) (tt := tYes) rfl sc_ranked.nd rfl rfl (sw_true rfl rfl rfl (by decide +kernel)) (pi_seqK K (pv 6)) (blkOk_by (N := ["purse", "rank", "wide", "many", "places", "size", "rows", "turn", "place", "row", "spot", "heads", "head", "by", "mine", "its"]) (sc := defScope st__law_ranked) (by decide +kernel)) (fun _ _ _ _ _ => (pg_name (i := 9) sc_ranked.nd rfl (Or.inl rfl))) (fun _ _ _ _ _ => pts_nil) (fun _ _ _ _ _ => (pe_callTy (call_listK K) (by rfl) T.n_list (by decide +kernel) (pa_cons (pv 9) pa_nil))))
    (pss_cons (ps_for PassesOwn.never rfl (pi_range1 (by rfl) T.n_range (pa_cons (pe_op op_sub (pv 3) (pv 1)) pa_nil)) (pg_name (i := 7) sc_ranked.nd rfl (Or.inl rfl))
      (pss_cons (ps_set (i := 9) sc_ranked.nd rfl (Or.inl rfl) (pe_op op_rep (pe_lst (pa_cons pe_int pa_nil)) (pv 2)))
    (pss_cons (ps_for PassesOwn.never rfl (pi_seqK K (pv 11)) (pg_name (i := 12) sc_ranked.nd rfl (Or.inl rfl))
      (pss_cons (ps_set (i := 13) sc_ranked.nd rfl (Or.inr rfl) (pe_op op_sub (pe_dn D__law_coin (hr.mono (by decide)) rfl (pa_cons (pv 0) (pa_cons pe_int pa_nil))) pe_int))
    (pss_one (ps_setLc (i := 9) (own := [("mine", 14), ("its", 15)]) (g := gTup K 2 (gCons (gName 14) (gCons (gName 15) gNil))) (tt := tYes) rfl sc_ranked.nd rfl rfl (sw_true rfl rfl rfl (by decide +kernel)) (pi_zipMK K (by rfl) T.n_zip (pa_cons (pv 9) (pa_cons (pv 12) pa_nil))) (blkOk_by (N := ["purse", "rank", "wide", "many", "places", "size", "rows", "turn", "place", "row", "spot", "heads", "head", "by", "mine", "its"]) (sc := defScope st__law_ranked) (by decide +kernel)) (fun _ _ _ _ _ => (pg_tup (by rfl) (pgs_cons (pg_name (i := 14) sc_ranked.nd rfl (Or.inl rfl)) (pgs_cons (pg_name (i := 15) sc_ranked.nd rfl (Or.inl rfl)) pgs_nil)))) (fun _ _ _ _ _ => pts_nil) (fun _ _ _ _ _ => (pe_op op_add (pv 14) (pe_op op_mulW (pv 13) (pv 15))))))))
    (pss_one (ps_expr (pe_bm PySem.F.plainAttrs_list PySem.F.slot_list_append PySem.F.type_list_append mt_append (pv 6) (pa_cons (pv 9) pa_nil)))))))
    (pss_one (ps_ret (pe_dn D__law_stirred (hr.mono (by decide)) rfl (pa_cons (pv 0) (pa_cons (pv 6) pa_nil)))))))))), ?_⟩
    refine ⟨_, rfl, _, rfl, _, rfl, RgOk.of_le (by omega) (by omega) (by omega) (by omega), fun p0 hp0 => ?_⟩
    obtain ⟨n0c, n0d⟩ := hC.ne hp0
    have hC0 := hC.upd (o := .lst (rgV 0 (wd : Nat))) n0c n0d
    refine ⟨c, d, ns, m, false, p0, rgV 0 (wd : Nat), rfl, hC0, by omega, .of (by rw [off_ne n0c, upd_same]), by rw [rgV_length]; omega, fun p1 ys H1 hpm hp1 n1c n1d hys hC1 sb1 => ?_⟩
    rw [rgV_length] at hC1
    have sb01 : SameBut c H H1 := (new_but hp0).trans sb1
    obtain ⟨Pl, hPl, rfl⟩ := perm_nats (n := wd) hpm
    refine ⟨_, rfl, r, rfl, p1, _, rfl, .of hys, fun PL hPL => ?_⟩
    rw [cut_take, ← List.map_take]
    obtain ⟨nPc, nPd⟩ := hC1.ne hPL
    have nd : (Pl.take r).Nodup := (hPl.nodup_iff.mpr List.nodup_range).sublist (List.take_sublist r Pl)
    have lr : (Pl.take r).length = r := by rw [List.length_take, hPl.length_eq, List.length_range]; omega
    have ltw : ∀ p ∈ Pl.take r, p < wd := fun p hp => List.mem_range.mp (hPl.mem_iff.mp (List.mem_of_mem_take hp))
    generalize Pl.take r = Ps at nd lr ltw
    have hC2 : Coil (upd H1 PL (.lst (Ps.map fun i : Nat => V.int (i : Nat)))) c d ns (m + 8) := (hC1.upd nPc nPd).more (by omega)
    have sb02 : SameBut c H (upd H1 PL (.lst (Ps.map fun i : Nat => V.int (i : Nat)))) := sb01.trans (new_but hPL)
    have hP2 : upd H1 PL (.lst (Ps.map fun i : Nat => V.int (i : Nat))) PL = some (.lst (Ps.map fun i : Nat => V.int (i : Nat))) := upd_same
    generalize upd H1 PL (.lst (Ps.map fun i : Nat => V.int (i : Nat))) = H2 at hC2 sb02 hP2 ⊢
    -- size, rows
    refine ⟨_, rfl, 10, 6, rfl, rfl, ⟨by decide, by decide, by decide⟩, 10, 17, rfl, rfl, ⟨by decide, by decide, by decide⟩, (by show 5 ≤ sizeLine; decide), fun L hL => ?_⟩
    obtain ⟨nLc, nLd⟩ := hC2.ne hL
    refine ⟨c, d, ns, m + 8, false, L, _, rfl, hC2.upd nLc nLd, by omega, .of (by rw [off_ne nLc, upd_same]), by decide, by decide, fun iz y H3 hy hC3 sb3 => ?_⟩
    obtain ⟨size, rfl, sz0, sz1⟩ : ∃ size : Int, y = .int size ∧ 0 < size ∧ size ≤ 100000000000000000 := by
      have := List.mem_of_getElem? hy
      simp only [List.mem_cons, List.not_mem_nil, or_false] at this
      rcases this with rfl | rfl | rfl | rfl | rfl
      · exact ⟨_, rfl, by decide, by decide⟩
      · exact ⟨_, rfl, by decide, by decide⟩
      · exact ⟨_, rfl, by decide, by decide⟩
      · exact ⟨_, rfl, by decide, by decide⟩
      · exact ⟨_, rfl, by decide, by decide⟩
    have sb03 : SameBut c H H3 := sb02.trans ((new_but hL).trans sb3)
    have hP3 : H3 PL = some (.lst (Ps.map fun i : Nat => V.int (i : Nat))) := sb3 _ _ nPc ((same_upd hL) _ _ hP2)
    refine ⟨(by show 0 ≤ sizeLine; decide), fun RL hRL => ⟨(by show 2 ≤ sizeLine; decide), fun T0 hT0 => ?_⟩⟩
    obtain ⟨nRc, nRd⟩ := hC3.ne hRL
    have nRP : RL ≠ PL := fun e => by rw [e, hP3] at hRL; cases hRL
    have hC4 := (hC3.upd (o := .lst []) nRc nRd)
    obtain ⟨nTc, nTd⟩ := hC4.ne hT0
    refine ⟨T0, _, rfl, .of upd_same, rfl, _, _, rfl, _, _, rfl, rfl, ?_⟩
    have hRH : H RL = none := by
      cases e : H RL with
      | none => rfl
      | some o => rw [sb03 _ _ nRc e] at hRL; cases hRL
    have sb04 : SameBut c H (upd (upd H3 RL (.lst [])) T0 (.tup [.int size, .ref RL])) := sb03.trans ((new_but hRL).trans (new_but hT0))
    have hR4 : upd (upd H3 RL (.lst [])) T0 (.tup [.int size, .ref RL]) RL = some (.lst []) := (same_upd hT0) _ _ upd_same
    have hP4 : upd (upd H3 RL (.lst [])) T0 (.tup [.int size, .ref RL]) PL = some (.lst (Ps.map fun i : Nat => V.int (i : Nat))) := (same_upd hT0) _ _ (by rw [upd_ne (Ne.symm nRP)]; exact hP3)
    have hC5 : Coil (upd (upd H3 RL (.lst [])) T0 (.tup [.int size, .ref RL])) c d ns (m + 10) := (hC4.upd nTc nTd).more (by omega)
    generalize upd (upd H3 RL (.lst [])) T0 (.tup [.int size, .ref RL]) = H4 at sb04 hR4 hP4 hC5 ⊢
    refine ⟨_, rfl, PL, _, rfl, .of hP4, for_it walk_enum (fun i σ H2 => ∃ (x7 x8 x9 x10 : Option V) (E : List Vec) (vs : List V), σ = [some (.ref c), some (.int (r : Nat)), some (.int (wd : Nat)), some (.int (n : Nat)), some (.ref PL), some (.int size), some (.ref RL), x7, x8, x9, x10, none, none, none, none, none] ∧
        H2 PL = some (.lst (Ps.map fun i : Nat => V.int (i : Nat))) ∧ H2 RL = some (.lst vs) ∧ Rws H2 c RL vs E ∧ E.length = i ∧ Heads wd Ps E ∧ Coil H2 c d ns (m + 10 + 20 * i) ∧ SameBut c H H2)
      ⟨none, none, none, none, [], [], rfl, hP4, hR4, Rws.nil _ _ _, rfl, Heads.nil _ _, hC5, sb04⟩ (fun i σ H2 _ h => by obtain ⟨_, _, _, _, _, _, _, h, _⟩ := h; exact .of h) ?_ ?_⟩
    · rintro i x σ H2 H3 hi ⟨x7, x8, x9, x10, E, vs, rfl, hP, hR, hRw, hE, hH, hC6, sb⟩ ⟨T1, a1, a2, rfl, hT1, rfl, e1, e2⟩
      cases e1
      have e2' : (Ps.map fun i : Nat => V.int (i : Nat))[i]? = some a2 := e2
      rw [List.getElem?_map] at e2'
      cases hpi : Ps[i]? with
      | none => rw [hpi] at e2'; cases e2'
      | some p =>
        rw [hpi] at e2'
        cases e2'
        have hpw : p < wd := ltw p (List.mem_of_getElem? hpi)
        have hi8 : i < r := by rw [← lr]; exact (List.getElem?_eq_some_iff.mp hpi).1
        have st := same_upd (o := .tup [.int (i : Nat), .int (p : Nat)]) hT1
        obtain ⟨nT1c, nT1d⟩ := hC6.ne hT1
        refine ⟨T1, _, rfl, .of upd_same, rfl, _, _, rfl, _, _, rfl, rfl, ?_⟩
        have hP7 := st _ _ hP
        have hR7 := st _ _ hR
        have hRw7 := hRw.mono fun b o _ _ e => st b o e
        have hC7 := hC6.but st
        have sb7 := sb.trans (SameBut.of st)
        generalize upd H2 T1 (.tup [.int (i : Nat), .int (p : Nat)]) = H5 at hP7 hR7 hRw7 hC7 sb7 ⊢
        refine ⟨_, rfl, _, rfl, by omega, by omega, fun q hq => lc_draw (lo := 0) (n := wd) (by omega) hq hC7 (fun x => rfl) ?_ ?_⟩
        · intro x H6 m' hm' hC8 R hR8
          exact ⟨_, rfl, _, rfl, c, d, ns, m', size, rfl, hC8, by omega, sz0, sz1, hR8⟩
        intro H6 xs lx bx hq6 hC8 sb8
        obtain ⟨nqc, nqd⟩ := hC7.ne hq
        have nqR : q ≠ RL := fun e => by rw [e, hR7] at hq; cases hq
        have nqP : q ≠ PL := fun e => by rw [e, hP7] at hq; cases hq
        -- the places ahead
        refine ⟨_, rfl, _, rfl, i, rfl, PL, _, rfl, .of (sb8 _ _ nPc hP7), fun Z hZ => ⟨false, Z, rfl, ⟨_, .of upd_same⟩, ?_⟩⟩
        rw [cut_take, ← List.map_take]
        have nZq : Z ≠ q := fun e => by rw [e, hq6] at hZ; cases hZ
        have sZ := same_upd (o := .lst ((Ps.take i).map fun i : Nat => V.int (i : Nat))) hZ
        obtain ⟨nZc, nZd⟩ := hC8.ne hZ
        have hZ9 : upd H6 Z (.lst ((Ps.take i).map fun i : Nat => V.int (i : Nat))) Z = _ := upd_same
        have hq9 := sZ _ _ hq6
        have hP9 := sZ _ _ (sb8 _ _ nPc hP7)
        have hR9 := sZ _ _ (sb8 _ _ nRc hR7)
        have hRw9 := (hRw7.mono fun b o n _ e => sb8 b o n e).mono fun b o _ _ e => sZ b o e
        have hC9 := hC8.but sZ
        have sb9 := (sb7.trans sb8).trans (SameBut.of sZ)
        have hqH : H q = none := by
          cases e : H q with
          | none => rfl
          | some o => rw [sb7 _ _ nqc e] at hq; cases hq
        generalize upd H6 Z (.lst ((Ps.take i).map fun i : Nat => V.int (i : Nat))) = H7 at hZ9 hq9 hP9 hR9 hRw9 hC9 sb9 ⊢
        have lti : (Ps.take i).length = i := by rw [List.length_take]; omega
        refine for_it (walk_seq (b := false) (xs := (Ps.take i).map fun i : Nat => V.int (i : Nat))) (fun j σ H8 => ∃ x10 : Option V, σ = [some (.ref c), some (.int (r : Nat)), some (.int (wd : Nat)), some (.int (n : Nat)), some (.ref PL), some (.int size), some (.ref RL), some (.int (i : Nat)), some (.int (p : Nat)), some (.ref q), x10, none, none, none, none, none] ∧
            H8 q = some (.lst ((zeroAt xs (Ps.take j)).map V.int)) ∧ ∀ b o, b ≠ q → H7 b = some o → H8 b = some o)
          ⟨_, rfl, hq9, fun _ _ _ h => h⟩ (fun j σ H8 _ ⟨_, _, _, h⟩ => .of (h _ _ nZq hZ9)) ?_ ?_
        · rintro j x σ H8 H9 hj ⟨x10, rfl, h1, h2⟩ ⟨rfl, hx⟩
          have hji : j < i := by rw [List.length_map, lti] at hj; exact hj
          rw [List.getElem?_map, List.getElem?_take, if_pos hji] at hx
          cases hpj : Ps[j]? with
          | none => rw [hpj] at hx; cases hx
          | some pj =>
            rw [hpj] at hx
            cases hx
            have hpjw : pj < wd := ltw pj (List.mem_of_getElem? hpj)
            refine ⟨_, rfl, _, rfl, q, _, pj, pj, rfl, rfl, h1, ixN_nat (by rw [List.length_map, zeroAt_len, lx]; exact hpjw), ⟨_, rfl, ?_, fun b o n e => ?_⟩⟩
            · rw [upd_same, map_set_int, take_get hpj, zeroAt_snoc]
            · rw [upd_ne n]; exact h2 b o n e
        rintro σ H8 ⟨x10, rfl, h1, h2⟩
        rw [List.length_map, lti] at h1
        have keep : ∀ b o, b ≠ q → H7 b = some o → H8 b = some o := h2
        have hP10 := h2 _ _ (Ne.symm nqP) hP9
        have hR10 := h2 _ _ (Ne.symm nqR) hR9
        have hqn : ∀ {b : Addr} {o : HO}, H5 b = some o → b ≠ q := fun {b o} e z => by rw [z, hq] at e; cases e
        have hC10 : Coil H8 c d ns (m + 10 + 20 * i + 2 * wd) := by
          obtain ⟨y1, y2, y3, ya, yb, y4, y5⟩ := hC9
          exact ⟨y1, y2, h2 _ _ (Ne.symm nqd) y3, ya, yb, h2 _ _ (Ne.symm nqc) y4, y5⟩
        have hRw10 : Rws H8 c RL vs E := ⟨hRw9.1, fun t u x y1 y2 => by
          obtain ⟨q', e, n1, n2, z⟩ := hRw9.2 t u x y1 y2
          obtain ⟨q'', e', _, _, z'⟩ := hRw7.2 t u x y1 y2
          rw [e] at e'
          cases e'
          exact ⟨q', e, n1, n2, h2 _ _ (hqn z') z⟩⟩
        have sb10 : SameBut c H H8 := fun b o nb e => h2 _ _ (ne_of_none e hqH) (sb9 _ _ nb e)
        -- row[place] = ..
        refine ⟨_, rfl, c, d, ns, _, 2, rfl, hC10, by omega, by decide, small9000 (by decide), fun r1 H9 r10 r11 hC11 sb11 => ?_⟩
        refine ⟨2, r1, rfl, rfl, cm (by decide) (by omega), 1, _, rfl, rfl, ?_⟩
        refine ⟨_, rfl, _, rfl, c, d, ns, _, size, rfl, hC11, by omega, sz0, sz1, fun r2 H10 hr2 hC12 sb12 => ?_⟩
        have hr1 : r1 = 0 ∨ r1 = 1 := by omega
        have b100 : (4 : Nat) < 2 ^ 100 := by decide
        have b68 : (2 : Nat) ^ 68 < 2 ^ 69 := Nat.pow_lt_pow_right (by decide) (by decide)
        have b69 : (2 : Nat) ^ 69 < 2 ^ 100 := Nat.pow_lt_pow_right (by decide) (by decide)
        have hsz : (if r2 < 0 then -r2 else r2) = (r2.natAbs : Int) := by split <;> omega
        refine ⟨_, rfl, 1, _, rfl, rfl, 1 - 2 * r1, 1 + (if r2 < 0 then -r2 else r2), rfl, rfl, wide_mul (a := 100) (b := 100) (by omega) (by rw [hsz]; omega) (by decide) (by decide) (by decide), ?_⟩
        dsimp only
        have hv0 : (1 - 2 * r1) * (1 + (if r2 < 0 then -r2 else r2)) ≠ 0 := by
          rw [hsz]
          rcases hr1 with e | e <;> rw [e] <;> omega
        have hvb : ((1 - 2 * r1) * (1 + (if r2 < 0 then -r2 else r2))).natAbs ≤ 2 ^ 69 := by
          rw [hsz]
          rcases hr1 with e | e <;> rw [e] <;> omega
        generalize (1 - 2 * r1) * (1 + (if r2 < 0 then -r2 else r2)) = v at hv0 hvb ⊢
        have sb1112 : SameBut c H8 H10 := sb11.trans sb12
        have hq12 := sb1112 _ _ nqc h1
        refine ⟨_, rfl, _, rfl, q, _, p, p, rfl, rfl, hq12, ixN_nat (by rw [List.length_map, zeroAt_len, lx]; exact hpw), ?_⟩
        -- rows.append(row)
        have hq13 : upd H10 q (.lst (((zeroAt xs (Ps.take i)).map V.int).set p (.int v))) q = some (.lst (((zeroAt xs (Ps.take i)).set p v).map V.int)) := by rw [upd_same, map_set_int]
        have k13 : ∀ b o, b ≠ q → H10 b = some o → upd H10 q (.lst (((zeroAt xs (Ps.take i)).map V.int).set p (.int v))) b = some o := fun b o nb e => by rw [upd_ne nb]; exact e
        have hC13 := hC12.upd (o := .lst (((zeroAt xs (Ps.take i)).map V.int).set p (.int v))) nqc nqd
        have hR13 := k13 _ _ (Ne.symm nqR) (sb1112 _ _ nRc hR10)
        have hP13 := k13 _ _ (Ne.symm nqP) (sb1112 _ _ nPc hP10)
        have hRw13 : Rws (upd H10 q (.lst (((zeroAt xs (Ps.take i)).map V.int).set p (.int v)))) c RL vs E := ⟨hRw10.1, fun t u x y1 y2 => by
          obtain ⟨q', e, n1, n2, z⟩ := hRw10.2 t u x y1 y2
          obtain ⟨q'', e', _, _, z'⟩ := hRw7.2 t u x y1 y2
          rw [e] at e'
          cases e'
          exact ⟨q', e, n1, n2, k13 _ _ (hqn z') (sb1112 _ _ n1 z)⟩⟩
        have sb13 : SameBut c H (upd H10 q (.lst (((zeroAt xs (Ps.take i)).map V.int).set p (.int v)))) := fun b o nb e => k13 _ _ (ne_of_none e hqH) (sb1112 _ _ nb (sb10 _ _ nb e))
        generalize upd H10 q (.lst (((zeroAt xs (Ps.take i)).map V.int).set p (.int v))) = H11 at hq13 hC13 hR13 hP13 hRw13 sb13 ⊢
        refine ⟨.ref RL, rfl, .inl ⟨rfl, _, .of hR13⟩, _, rfl, RL, vs, _, rfl, rfl, hR13, Nat.lt_of_le_of_lt (by rw [hRw13.1, hE]; omega : vs.length ≤ 60) (by decide), ?_⟩
        have kR : ∀ b o, b ≠ RL → H11 b = some o → upd H11 RL (.lst (vs ++ [.ref q])) b = some o := fun b o nb e => by rw [upd_ne nb]; exact e
        have hEl : Ps[E.length]? = some p := by rw [hE]; exact hpi
        have hH' := hH.snoc lx hEl hpw nd hv0 hvb fun b hb => by have := bx b hb; omega
        rw [hE] at hH'
        refine ⟨_, _, _, _, E ++ [(zeroAt xs (Ps.take i)).set p v], vs ++ [.ref q], rfl, kR _ _ (Ne.symm nRP) hP13, upd_same, ?_, by rw [List.length_append, hE]; rfl, hH', (hC13.upd nRc nRd).more (by omega), fun b o nb e => ?_⟩
        · exact (hRw13.mono fun b o _ nb e => kR b o nb e).snoc nqc nqR (kR _ _ nqR hq13)
        · exact kR _ _ (ne_of_none e hRH) (sb13 _ _ nb e)
    · rintro σ H5 ⟨x7, x8, x9, x10, E, vs, rfl, hP5, hR5, hRw5, hE, hH, hC6, sb5⟩
      rw [List.length_map, lr] at hE hC6
      -- heads
      have hvl : vs.length = r := by rw [hRw5.1, hE]
      refine ⟨_, rfl, false, RL, rfl, ⟨_, .of hR5⟩, fun HL hHL => lc_rel (R := fun i y H => ∃ (q : Addr) (x : Vec), y = .ref q ∧ q ≠ c ∧ q ≠ RL ∧ E[i]? = some x ∧ H q = some (.lst (x.map V.int))) (walk_seq (b := false)) hHL (Nat.lt_of_le_of_lt (by omega : vs.length ≤ 60) (by decide)) (fun H6 s6 => .of (s6 _ _ hR5))
        (fun i y H H' s ⟨q, x, e1, n1, n2, e2, t⟩ => ⟨q, x, e1, n1, n2, e2, s _ _ t⟩) ?_ ?_⟩
      · rintro i x H6 H7 hi s6 ⟨acc, hacc⟩ ⟨rfl, hx⟩ Rk kk
        have hiE : i < E.length := by omega
        obtain ⟨q, rfl, n1, n2, hq⟩ := hRw5.2 i x _ hx (List.getElem?_eq_getElem hiE)
        refine ⟨rfl, _, rfl, false, q, _, rfl, .of (s6 _ _ hq), fun l hl => kk _ _ (same_upd hl) ⟨l, E[i], rfl, fun e => ?_, fun e => ?_, List.getElem?_eq_getElem hiE, ?_⟩⟩
        · obtain ⟨_, _, _, ya, yb, y4, _⟩ := hC6
          rw [e, s6 _ _ y4] at hl
          cases hl
        · rw [e, s6 _ _ hR5] at hl
          cases hl
        · rw [off_ne (fun e => by rw [e, hacc] at hl; cases hl), upd_same]
      rintro H6 ⟨hs, lhs, hHL6, s6, hr6⟩
      have hRw6 : Rws H6 c RL hs E := ⟨by rw [lhs, hvl, hE], fun i u x y1 y2 => by
        obtain ⟨q, x', e1, n1, n2, e2, t⟩ := hr6 i u y1
        rw [y2] at e2
        cases e2
        exact ⟨q, e1, n1, n2, off_same _ _ _ _ t⟩⟩
      obtain ⟨nHc, nHd⟩ := hC6.ne hHL
      have nHR : HL ≠ RL := fun e => by rw [e, hR5] at hHL; cases hHL
      have hR6 := s6 _ _ hR5
      have hRo6 : Rws H6 c RL vs E := hRw5.mono fun b o _ _ e => s6 b o e
      have hC7 := hC6.but s6
      have sb6 := sb5.trans (SameBut.of s6)
      have hEl : ∀ e ∈ E, e.length = wd := hH.len
      -- the others
      have sp2 : H RL = none := hRH
      refine ⟨_, rfl, _, rfl, _, _, rfl, rfl, _, rfl, by omega, by omega, for_it walk_range (fun i σ H2 => ∃ (x7 x9 x12 x13 : Option V) (M : List Vec) (vs : List V), σ = [some (.ref c), some (.int (r : Nat)), some (.int (wd : Nat)), some (.int (n : Nat)), some (.ref PL), some (.int size), some (.ref RL), x7, x8, x9, x10, some (.ref HL), x12, x13, none, none] ∧
        H2 HL = some (.lst hs) ∧ H2 RL = some (.lst vs) ∧ Rws H2 c RL hs E ∧ Rws H2 c RL vs M ∧ M.length = r + i ∧ (∀ e ∈ E, e ∈ M) ∧ (∀ x ∈ M, ∃ gc : Vec, gc.length = r ∧ x = comb wd gc E) ∧ (∀ x ∈ M, ∀ b ∈ x, b.natAbs ≤ 2 ^ 75) ∧ Coil H2 c d ns (m + 200 + 10 * i) ∧ SameBut c H H2)
        ⟨_, _, _, _, E, vs, rfl, hHL6, hR6, hRw6, hRo6, by omega, fun _ h => h, ?_, ?_, hC7.more (by omega), sb6⟩ (fun _ _ _ _ _ => trivial) ?_ ?_⟩
      · intro x hx
        obtain ⟨t, ht⟩ := List.mem_iff_getElem?.mp hx
        exact ⟨unit r t, unit_len r t, (comb_unit hEl (by omega) ht).symm⟩
      · intro x hx b hb
        exact Nat.le_trans (hH.bd x hx b hb) (Nat.pow_le_pow_right (by decide) (by decide))
      · rintro i x σ H7 H8 hi ⟨x7, x9, x12, x13, M, us, rfl, hHL7, hR7, hRh, hRm, hMl, hEM, hMc, hMb, hC8, sb8⟩ ⟨rfl, rfl⟩
        have hin : i + r ≤ n := by omega
        refine ⟨(by show 1 ≤ sizeLine; decide), fun z0 hz0 => ⟨_, rfl, z0, (wd : Nat), [.int 0], rfl, rfl, upd_same, by omega, by omega, ?_, fun q0 hq0 => ?_⟩⟩
        · show 1 * ((wd : Nat) : Int).toNat ≤ sizeLine
          rw [Nat.one_mul, Int.toNat_natCast]
          exact Nat.le_trans hw8 (by decide)
        rw [rep_noughts]
        have sz0' := same_upd (o := .lst [.int 0]) hz0
        have sq0 := same_upd (o := .lst ((comb wd [] []).map V.int)) hq0
        have s8 := sz0'.trans sq0
        obtain ⟨nq0c, nq0d⟩ := (hC8.but sz0').ne hq0
        have nq0R : q0 ≠ RL := fun e => by rw [e, sz0' _ _ hR7] at hq0; cases hq0
        have hq0' : upd (upd H8 z0 (.lst [.int 0])) q0 (.lst ((comb wd [] []).map V.int)) q0 = _ := upd_same
        have hC9 := hC8.but s8
        generalize upd (upd H8 z0 (.lst [.int 0])) q0 (.lst ((comb wd [] []).map V.int)) = H9 at s8 hq0' hC9 ⊢
        have b71 : (2 : Nat) ^ 71 = 2 * 2 ^ 70 := by rw [show 71 = 70 + 1 from rfl, Nat.pow_succ, Nat.mul_comm]
        have b70 : (2 : Nat) ^ 70 = 2 * 2 ^ 69 := by rw [show 70 = 69 + 1 from rfl, Nat.pow_succ, Nat.mul_comm]
        refine ⟨_, rfl, false, HL, rfl, ⟨_, .of (s8 _ _ hHL7)⟩, for_it (walk_seq (b := false)) (fun j σ H10 => ∃ (x12 x13 : Option V) (q : Addr) (gc : Vec), σ = [some (.ref c), some (.int (r : Nat)), some (.int (wd : Nat)), some (.int (n : Nat)), some (.ref PL), some (.int size), some (.ref RL), some (.int (0 + (i : Nat))), x8, some (.ref q), x10, some (.ref HL), x12, x13, none, none] ∧
          H10 q = some (.lst ((comb wd gc (E.take j)).map V.int)) ∧ gc.length = j ∧ (∀ b ∈ comb wd gc (E.take j), b.natAbs ≤ j * 2 ^ 71) ∧ q ≠ c ∧ q ≠ RL ∧ Coil H10 c d ns (m + 200 + 10 * i + j) ∧ SameBut c H8 H10)
          ⟨_, _, q0, [], rfl, hq0', rfl, ?_, nq0c, nq0R, hC9, SameBut.of s8⟩ (fun j σ H10 _ h => by obtain ⟨_, _, _, _, _, _, _, _, _, _, _, h⟩ := h; exact .of (h _ _ nHc hHL7)) ?_ ?_⟩
        · intro b hb
          have : b = 0 := by
            rw [show (E.take 0) = [] from rfl, comb_nil] at hb
            exact (List.mem_replicate.mp hb).2
          rw [this]
          exact Nat.zero_le _
        · rintro j x σ H10 H11 hj ⟨x12, x13, q, gc, rfl, hq, hgl, hb, nqc, nqR, hC10, sb10⟩ ⟨rfl, hx⟩
          have hjE : j < E.length := by rw [← hRh.1]; exact hj
          have hEj := List.getElem?_eq_getElem hjE
          obtain ⟨qh, rfl, nhc, nhR, hqh⟩ := hRh.2 j x _ hx hEj
          have ejm := List.getElem_mem hjE
          refine ⟨_, rfl, c, d, ns, _, 5, rfl, hC10, by omega, by decide, small9000 (by decide), fun r5 H12 r50 r51 hC11 sb12 => ⟨_, _, rfl, rfl, ?_⟩⟩
          have hq12 := sb12 _ _ nqc hq
          have hqh12 := sb12 _ _ nhc (sb10 _ _ nhc hqh)
          have lc : (comb wd gc (E.take j)).length = wd := comb_len wd gc _ fun h hh => hEl h (List.mem_of_mem_take hh)
          have lE : (E[j]).length = wd := hEl _ ejm
          have hb12 : (r5 - 2).natAbs ≤ 2 := by omega
          refine ⟨_, rfl, _, rfl, false, false, q, qh, _, _, rfl, .of hq12, .of hqh12, fun D hD => lc_fun (fun t => V.int ((comb wd gc (E.take j)).getD t 0 + (r5 - 2) * (E[j]).getD t 0)) (walk_zipM (b1 := false) (b2 := false) rfl) hD ?_ (fun H13 s13 => ⟨.of (s13 _ _ hq12), .of (s13 _ _ hqh12)⟩) ?_ ?_⟩
          · rw [List.length_map, List.length_map, lc, lE]
            exact Nat.lt_of_le_of_lt (by omega : min wd wd ≤ 60) (by decide)
          · rintro t v H13 H14 ht s13 ha ⟨T', x', y', rfl, hT, rfl, e1, e2⟩ Rk kk
            obtain ⟨n1, hn1, rfl⟩ := map_int_get e1
            obtain ⟨n2, hn2, rfl⟩ := map_int_get e2
            have bn2 := hH.bd _ ejm n2 (List.mem_of_getElem? hn2)
            refine ⟨T', _, rfl, .of upd_same, rfl, _, _, rfl, _, _, rfl, rfl, rfl, _, rfl, _, rfl, _, rfl, r5 - 2, n2, rfl, rfl, wide_mul (a := 100) (b := 100) (Nat.lt_of_le_of_lt hb12 (by decide)) (Nat.lt_of_le_of_lt bn2 (Nat.pow_lt_pow_right (by decide) (by decide))) (by decide) (by decide) (by decide), n1, _, rfl, rfl, ?_⟩
            have e := kk _ (same_upd (o := .tup [.int n1, .int n2]) hT)
            rw [List.getD_eq_getElem?_getD, List.getD_eq_getElem?_getD, hn1, hn2] at e
            exact e
          · intro H13 hD13 s13
            rw [List.length_map, List.length_map, zip_list, comb_snoc (fun v hv => hEl v (List.mem_of_mem_take hv)) lE (by rw [hgl, List.length_take]; omega), ← take_get hEj] at hD13
            have nDc := (hC11.ne hD).1
            refine ⟨_, _, D, gc ++ [r5 - 2], rfl, hD13, by rw [List.length_append, hgl]; rfl, ?_, nDc, fun e => ?_, hC11.but s13, (sb10.trans sb12).trans (SameBut.of s13)⟩
            · rw [take_get hEj, ← comb_snoc (fun v hv => hEl v (List.mem_of_mem_take hv)) lE (by rw [hgl, List.length_take]; omega)]
              refine zip_bound (w := wd) hb12 hb (hH.bd _ ejm) ?_
              rw [Nat.succ_mul]
              omega
            · rw [e, sb12 _ _ nRc (sb10 _ _ nRc hR7)] at hD
              cases hD
        · rintro σ H10 ⟨x12, x13, q, gc, rfl, hq, hgl, hb, nqc, nqR, hC10, sb10⟩
          rw [hRh.1] at hq hgl hb hC10
          rw [List.take_length] at hq hb
          have hR10 := sb10 _ _ nRc hR7
          refine ⟨.ref RL, rfl, .inl ⟨rfl, _, .of hR10⟩, _, rfl, RL, us, _, rfl, rfl, hR10, Nat.lt_of_le_of_lt (by rw [hRm.1, hMl]; omega : us.length ≤ 60) (by decide), ?_⟩
          have kR : ∀ b o, b ≠ RL → H10 b = some o → upd H10 RL (.lst (us ++ [.ref q])) b = some o := fun b o nb e => by rw [upd_ne nb]; exact e
          refine ⟨_, _, _, _, M ++ [comb wd gc E], us ++ [.ref q], rfl, kR _ _ nHR (sb10 _ _ nHc hHL7), upd_same, ?_, ?_, by rw [List.length_append, hMl]; rfl, fun e he => List.mem_append_left _ (hEM e he), ?_, ?_, (hC10.upd nRc nRd).more (by omega), fun b o nb e => ?_⟩
          · exact (hRh.mono fun b o n1 _ e => sb10 b o n1 e).mono fun b o _ n2 e => kR b o n2 e
          · exact ((hRm.mono fun b o n1 _ e => sb10 b o n1 e).mono fun b o _ n2 e => kR b o n2 e).snoc nqc nqR (kR _ _ nqR hq)
          · intro x hx
            rcases List.mem_append.mp hx with z | z
            · exact hMc x z
            · exact ⟨gc, by omega, List.mem_singleton.mp z⟩
          · intro x hx
            rcases List.mem_append.mp hx with z | z
            · exact hMb x z
            · rw [List.mem_singleton.mp z]
              intro b hbm
              refine Nat.le_trans (hb b hbm) ?_
              have e1 : E.length * 2 ^ 71 ≤ 8 * 2 ^ 71 := Nat.mul_le_mul_right _ (by omega)
              have e2 : 8 * 2 ^ 71 = (2 : Nat) ^ 74 := by rw [show (8 : Nat) = 2 ^ 3 from rfl, ← Nat.pow_add]
              have e3 : (2 : Nat) ^ 74 ≤ 2 ^ 75 := Nat.pow_le_pow_right (by decide) (by decide)
              omega
          · exact kR _ _ (ne_of_none e hRH) (sb10 _ _ nb (sb8 _ _ nb e))
      · rintro σ H7 ⟨x7, x9, x12, x13, M, us, rfl, hHL7, hR7, hRh, hRm, hMl, hEM, hMc, hMb, hC8, sb8⟩
        refine ⟨_, rfl, _, rfl, c, d, ns, _, false, RL, us, rfl, hC8, by omega, .of (by rw [off_ne nRc]; exact hR7), by rw [hRm.1, hMl]; omega, fun p ys H8 hpm hp npc npd hys hC9 sb9 => ?_⟩
        obtain ⟨N, hN, hRN⟩ := hRm.perm hpm
        refine k p ys N H8 ?_ npc npd hys (hRN.to sb9 hp) ⟨E, ?_, hE, fun x hx => hMc x (hN.mem_iff.mp hx), fun e he => hN.mem_iff.mpr (hEM e he)⟩ ?_ (fun x hx => hMb x (hN.mem_iff.mp hx)) (hC9.more ?_) (sb8.trans sb9)
        · cases e : H p with
          | none => rfl
          | some o => rw [sb8 _ _ npc e] at hp; cases hp
        · exact ech_of E Ps (by omega) (fun t e p h1 h2 => hH.a t e p h1 h2) fun s t e p hst h1 h2 => hH.b s t e p hst h1 h2
        · rw [hN.length_eq, hMl]
          omega
        · rw [hRm.1, hMl]
          omega
end
end K0


set_option Elab.async false
set_option linter.all false
set_option maxRecDepth 100000
set_option maxHeartbeats 8000000
set_option exponentiation.threshold 100000
namespace K0
open PySem PySem.Spec PyProof.Rows L2 RZ K0z K3

/-- these refs stand for these vectors, each a list -/
def LLs (H : Hp) (vs : List V) (M : List Vec) : Prop := vs.length = M.length ∧ ∀ (i : Nat) (u : V) (x : Vec), vs[i]? = some u → M[i]? = some x → ∃ q, u = .ref q ∧ H q = some (.lst (x.map V.int))
theorem LLs.same {H H' : Hp} {vs : List V} {M : List Vec} (h : LLs H vs M) (s : Same H H') : LLs H' vs M :=
  ⟨h.1, fun i u x h1 h2 => let ⟨q, e, z⟩ := h.2 i u x h1 h2; ⟨q, e, s _ _ z⟩⟩
theorem LLs.get {H : Hp} {vs : List V} {M : List Vec} (h : LLs H vs M) {i : Nat} (hi : i < M.length) : ∃ q, vs[i]? = some (.ref q) ∧ M[i]? = some M[i] ∧ H q = some (.lst (M[i].map V.int)) := by
  have h1 : vs[i]? = some (vs[i]'(by have := h.1; omega)) := List.getElem?_eq_getElem (by have := h.1; omega)
  have h2 : M[i]? = some M[i] := List.getElem?_eq_getElem hi
  obtain ⟨q, e, z⟩ := h.2 i _ _ h1 h2
  exact ⟨q, by rw [h1, e], h2, z⟩
theorem LLs.append {H : Hp} {vs ws : List V} {M N : List Vec} (h : LLs H vs M) (k : LLs H ws N) : LLs H (vs ++ ws) (M ++ N) := by
  refine ⟨by rw [List.length_append, List.length_append, h.1, k.1], fun i u x h1 h2 => ?_⟩
  by_cases hi : i < vs.length
  · rw [List.getElem?_append_left hi] at h1
    rw [List.getElem?_append_left (by rw [← h.1]; exact hi)] at h2
    exact h.2 i u x h1 h2
  · rw [List.getElem?_append_right (by omega)] at h1
    rw [List.getElem?_append_right (by rw [← h.1]; omega), ← h.1] at h2
    exact k.2 _ u x h1 h2
theorem filter_range {α : Type} (d : α) (p : α → Bool) : ∀ (l : List α), l.filter p = ((List.range l.length).filter (fun i => p (l.getD i d))).map (fun i => l.getD i d)
  | [] => rfl
  | a :: l => by
    have ih := filter_range d p l
    have e : (fun i => p ((a :: l).getD i d)) ∘ Nat.succ = fun i => p (l.getD i d) := by
      funext i
      simp [Function.comp]
    rw [List.length_cons, List.range_succ_eq_map]
    by_cases h : p a = true
    · rw [List.filter_cons_of_pos h, List.filter_cons_of_pos (by simpa using h), List.filter_map, e, List.map_cons, List.map_map, ih]
      rfl
    · rw [List.filter_cons_of_neg h, List.filter_cons_of_neg (by simpa using h), List.filter_map, e, List.map_map, ih]
      rfl
/-- the refs that a comprehension with a test picks -/
theorem LLs.filter {H : Hp} {vs acc : List V} {M : List Vec} {f : Vec → Bool} {n : Nat} (h : LLs H vs M) (hn : vs.length = n) (la : acc.length = ((List.range n).filter fun i => f (M.getD i [])).length)
    (hr : ∀ (k : Nat) (y : V) (i : Nat), acc[k]? = some y → ((List.range n).filter fun i => f (M.getD i []))[k]? = some i → vs[i]? = some y) : LLs H acc (M.filter f) := by
  have hM : M.length = n := by rw [← h.1, hn]
  rw [filter_range [] f M, hM]
  refine ⟨by rw [la, List.length_map], fun k y x h1 h2 => ?_⟩
  rw [List.getElem?_map] at h2
  cases hi : ((List.range n).filter fun i => f (M.getD i []))[k]? with
  | none => rw [hi] at h2; cases h2
  | some i =>
    rw [hi] at h2
    cases h2
    have him : i < n := by
      have := List.mem_of_getElem? hi
      exact List.mem_range.mp (List.mem_filter.mp this).1
    have e := hr k y i h1 hi
    refine h.2 i y _ e ?_
    show M[i]? = some (M.getD i [])
    rw [List.getD_eq_getElem?_getD, List.getElem?_eq_getElem (by omega)]
    rfl
theorem cut_drop (xs : List V) : cutV xs (some 1) none = xs.drop 1 := by
  show (xs.drop (HT.sIx xs.length 0 (some ((1 : Nat) : Int)))).take (xs.length - HT.sIx xs.length 0 (some ((1 : Nat) : Int))) = _
  rw [HT.sIx_nat]
  refine List.ext_getElem? fun i => ?_
  rw [List.getElem?_take, List.getElem?_drop, List.getElem?_drop]
  by_cases hl : xs.length = 0
  · have : xs = [] := List.eq_nil_of_length_eq_zero hl
    subst this
    simp
  · rw [Nat.min_eq_left (by omega)]
    by_cases hi : i < xs.length - 1
    · rw [if_pos hi]
    · rw [if_neg hi, List.getElem?_eq_none (by omega)]
theorem atI_int {x : Vec} {p : Nat} (h : p < x.length) : atI (x.map V.int) ((p : Nat) : Int) = some (.int (x.getD p 0)) := by
  refine atI_nat ?_
  rw [List.getElem?_map, List.getD_eq_getElem?_getD, List.getElem?_eq_getElem h]
  rfl
abbrev scR : Scope := { kind := ScopeKind.function, names := [((".0" : Str), NameKind.local), (("row" : Str), NameKind.cell), (("zip" : Str), NameKind.globalImplicit), (("head" : Str), NameKind.cell), (("place" : Str), NameKind.cell)], isGenerator := false, isCoroutine := false }
section
variable {P : Program} {w : World} {K : PySem.W.Frag} {mg : Str → Option Value} {base : Heap} {f g g2 g3 g4 : Addr} {fd : FuncData}
def wideOf (M : List Vec) : Nat := (M.headD []).length
def spOwn (K : PySem.W.Frag) : Sp := fun vs H Q _ => ∃ (a : Addr) (us : List V) (M : List Vec), vs = [.ref a] ∧ SqL K H a us ∧ us.length = M.length ∧ (∀ (i : Nat) (u : V) (x : Vec), us[i]? = some u → M[i]? = some x → VecAt K H u x) ∧ M.length ≤ 16 ∧ wideOf M ≤ 8 ∧
  (∀ r ∈ M, r.length = wideOf M ∧ ∀ b ∈ r, b.natAbs < 2 ^ 90) ∧ ∀ H', Same H H' → Q (.int ((ownS M (wideOf M)).2 : Nat)) H'
theorem sc_own_rank : FnScope ["rows", "left", "rank", "row", "place", "heads", "head", "rest", "mine", "its"] ["rows"] (defScope st__law_own_rank) := ⟨rfl, rfl, rfl, by decide +kernel, rfl, by decide +kernel, by decide +kernel⟩
theorem own_small {M : List Vec} {p : Nat} (hp : p ≤ 8) (h : ∀ r ∈ M, r.length = wideOf M ∧ ∀ b ∈ r, b.natAbs < 2 ^ 90) : (ownS M p).1.length ≤ M.length ∧ ∀ r ∈ (ownS M p).1, r.length = wideOf M ∧ ∀ b ∈ r, b.natAbs < 2 ^ 30000 := by
  obtain ⟨h1, h2⟩ := own_bound h p
  refine ⟨h1, fun r hr => ⟨(h2 r hr).1, fun b hb => Nat.lt_of_lt_of_le ((h2 r hr).2 b hb) (Nat.pow_le_pow_right (by decide) ?_)⟩⟩
  have : 2 ^ p ≤ 2 ^ 8 := Nat.pow_le_pow_right (by decide) hp
  omega
theorem ok_own_rank (F : Fun K "_law_own_rank" "_law_own_rank" st__law_own_rank f fd) (T : Nm mg) : FnOk P w K mg base CX0 2 f fd ["rows"] (spOwn K) := by
  refine F.ok sc_own_rank (fun vs H Q E h => ?_) (fun cdv A outer s H vs Q E hr h => ?_)
  · obtain ⟨a, us, M, rfl, _⟩ := h
    rfl
  · obtain ⟨a, us, M, rfl, hS, hl, hz, h16, hw8, hM, k⟩ := h
    refine ⟨_, (pss_cons (ps_par (i := 1) (j := 2) (by rfl) sc_own_rank.nd rfl rfl (by decide) rfl rfl (pa_cons (pe_lc (own := [("row", 3)]) (g := gName 3) (tt := tYes) rfl sc_own_rank.nd (pi_seqK K (pv 0)) (blkOk_by (N := ["rows", "left", "rank", "row", "place", "heads", "head", "rest", "mine", "its"]) (sc := defScope st__law_own_rank) (by decide +kernel)) (fun _ _ _ _ _ => (pg_name (i := 3) sc_own_rank.nd rfl (Or.inl rfl))) (fun _ _ _ _ _ => pts_nil) (fun _ _ _ _ _ => (pe_callTy (call_listK K) (by rfl) T.n_list (by decide +kernel) (pa_cons (pv 3) pa_nil)))) (pa_cons pe_int pa_nil)) (by rfl))
    (pss_cons (ps_for PassesOwn.never rfl (pi_range1 (by rfl) T.n_range (pa_cons (pe_ifExp (pt_cmpR (op_neNil K hr.units) (pv 0) (pe_lst pa_nil) (nomark _)) (pe_callB (call_lenK K) (by rfl) T.n_len (by decide +kernel) (pa_cons (pe_ix (ix_K K) (pv 0) pe_int (fun _ _ => rfl)) pa_nil)) pe_int) pa_nil)) (pg_name (i := 4) sc_own_rank.nd rfl (Or.inr rfl))
      (pss_cons (ps_setLc (i := 5) (own := [("row", 3)]) (g := gName 3) rfl sc_own_rank.nd rfl rfl (sw_true rfl rfl rfl (by decide +kernel)) (pi_seqK K (pv 1)) (blkOk_by (N := ["rows", "left", "rank", "row", "place", "heads", "head", "rest", "mine", "its"]) (sc := defScope st__law_own_rank) (by decide +kernel)) (fun _ _ _ _ _ => (pg_name (i := 3) sc_own_rank.nd rfl (Or.inl rfl))) (fun _ _ _ _ _ => (pts_one (pt_cmpR op_ne (pe_ix (ix_K K) (pv 3) (pv 4) (fun _ _ => rfl)) pe_int (nomark _)))) (fun _ _ _ _ _ => (pv 3)))
    (pss_one (ps_if (pt_cmpR (op_neNil K hr.units) (pv 5) (pe_lst pa_nil) (nomark _)) (pss_cons (ps_set (i := 6) sc_own_rank.nd rfl (Or.inr rfl) (pe_ix (ix_K K) (pv 5) pe_int (fun _ _ => rfl)))
    (pss_cons (ps_setLc (i := 7) (own := [("row", 3)]) (g := gName 3) (tt := tYes) rfl sc_own_rank.nd rfl rfl (sw_true rfl rfl rfl (by decide +kernel)) (pi_seqK K (pe_slice sl_list (pv 5) (po_some pe_int) po_none)) (blkOk_by (N := ["rows", "left", "rank", "row", "place", "heads", "head", "rest", "mine", "its"]) (sc := defScope st__law_own_rank) (by decide +kernel)) (fun _ _ _ _ _ => (pg_name (i := 3) sc_own_rank.nd rfl (Or.inr rfl))) (fun _ _ _ _ _ => pts_nil) (fun _ _ _ _ _ => (pe_lc (own := [("mine", 8), ("its", 9)]) (g := gTup K 2 (gCons (gName 8) (gCons (gName 9) gNil))) (tt := tYes) rfl sc_own_rank.nd (pi_zipMK K (by rfl) T.n_zip (pa_cons (pv 3) (pa_cons (pv 6) pa_nil))) (blkOk_by (N := ["rows", "left", "rank", "row", "place", "heads", "head", "rest", "mine", "its"]) (sc := scR) (by decide +kernel)) (fun _ _ _ _ _ => (pg_tup (by rfl) (pgs_cons (pg_name (i := 8) sc_own_rank.nd rfl (Or.inl rfl)) (pgs_cons (pg_name (i := 9) sc_own_rank.nd rfl (Or.inl rfl)) pgs_nil)))) (fun _ _ _ _ _ => pts_nil) (fun _ _ _ _ _ => (pe_op op_sub (pe_op op_mulW (pe_ix (ix_K K) (pv 6) (pv 4) (fun _ _ => rfl)) (pv 8)) (pe_op op_mulW (pe_ix (ix_K K) (pv 3) (pv 4) (fun _ _ => rfl)) (pv 9)))))))
    (pss_one (ps_par (i := 1) (j := 2) (by rfl) sc_own_rank.nd rfl rfl (by decide) rfl rfl (pa_cons (pe_op op_cat (pe_lc (own := [("row", 3)]) (g := gName 3) rfl sc_own_rank.nd (pi_seqK K (pv 1)) (blkOk_by (N := ["rows", "left", "rank", "row", "place", "heads", "head", "rest", "mine", "its"]) (sc := defScope st__law_own_rank) (by decide +kernel)) (fun _ _ _ _ _ => (pg_name (i := 3) sc_own_rank.nd rfl (Or.inl rfl))) (fun _ _ _ _ _ => (pts_one (pt_cmpR op_eq (pe_ix (ix_K K) (pv 3) (pv 4) (fun _ _ => rfl)) pe_int (nomark _)))) (fun _ _ _ _ _ => (pv 3))) (pv 7)) (pa_cons (pe_op op_add (pv 2) pe_int) pa_nil)) (by rfl))))) pss_nil))))
    (pss_one (ps_ret (pv 2))))), ?_⟩
    have hul : us.length < sizeLine := Nat.lt_of_le_of_lt (by omega : us.length ≤ 16) (by decide)
    refine ⟨_, rfl, false, a, rfl, ⟨_, hS⟩, fun D hD => lc_rel (R := fun i y H => ∃ (q : Addr) (x : Vec), y = .ref q ∧ M[i]? = some x ∧ H q = some (.lst (x.map V.int))) (walk_seq (b := false)) hD hul (fun H2 s2 => Same.seq s2 hS)
      (fun i y H H' s ⟨q, x, e1, e2, t⟩ => ⟨q, x, e1, e2, s _ _ t⟩) ?_ ?_⟩
    · rintro i x H2 H3 hi s2 ⟨acc, hacc⟩ ⟨rfl, hx⟩ Rk kk
      have hiM : i < M.length := by omega
      obtain ⟨b, q, rfl, hq⟩ := (hz i x _ hx (List.getElem?_eq_getElem hiM)).same s2
      refine ⟨rfl, _, rfl, b, q, _, rfl, hq, fun l hl => kk _ _ (same_upd hl) ⟨l, M[i], rfl, List.getElem?_eq_getElem hiM, ?_⟩⟩
      rw [off_ne (fun e => by rw [e, hacc] at hl; cases hl), upd_same]
    rintro H1 ⟨ls0, ll0, hD1, s1, hr1⟩
    have hL0 : LLs H1 ls0 M := ⟨by rw [ll0, hl], fun i u x y1 y2 => by
      obtain ⟨q, x', e1, e2, t⟩ := hr1 i u y1
      rw [y2] at e2
      cases e2
      exact ⟨q, e1, off_same _ _ _ _ t⟩⟩
    refine ⟨_, _, rfl, ?_⟩
    refine ⟨_, rfl, (by show 0 ≤ sizeLine; decide), fun z hz9 => ⟨a, z, us, rfl, rfl, Same.seq (s1.trans (same_upd hz9)) hS, .of upd_same, _, rfl, ?_⟩⟩
    have sz := same_upd (o := .lst []) hz9
    have s2 := s1.trans sz
    have hL2 := hL0.same sz
    have hD2 := sz _ _ hD1
    generalize upd H1 z (.lst []) = H2 at sz s2 hL2 hD2 ⊢
    by_cases hne : us = []
    · have hM0 : M = [] := List.eq_nil_of_length_eq_zero (by rw [← hl, hne]; rfl)
      rw [hne]
      refine iteF ⟨0, rfl, by decide, by decide, for_it walk_range (fun i σ H3 => i = 0 ∧ ∃ x : List (Option V), σ = some (.ref a) :: some (.ref D) :: some (.int 0) :: x ∧ Same H2 H3) ⟨rfl, _, rfl, Same.refl _⟩ (fun _ _ _ _ _ => trivial) ?_ ?_⟩
      · rintro i x σ H3 H4 hi _ _
        exact absurd hi (Nat.not_lt_zero _)
      · rintro σ H3 ⟨_, x, rfl, s3⟩
        refine ⟨_, rfl, ?_⟩
        have q := k H3 (s2.trans s3)
        rw [hM0] at q
        exact q
    have hup : 0 < us.length := List.length_pos_iff.mpr hne
    have hi0 : (!us.isEmpty) = true := by cases us with
      | nil => exact absurd rfl hne
      | cons _ _ => rfl
    rw [hi0]
    obtain ⟨u0, hu0⟩ : ∃ u0, us[0]? = some u0 := ⟨_, List.getElem?_eq_getElem hup⟩
    have hM0 : M[0]? = some (M.headD []) := by
      cases M with
      | nil => exact absurd (by rw [hl]; rfl) (Nat.ne_of_gt hup)
      | cons _ _ => rfl
    obtain ⟨b0, q0, rfl, hq0⟩ := hz 0 u0 _ hu0 hM0
    refine iteT ⟨_, rfl, false, a, us, 0, _, rfl, rfl, Same.seq s2 hS, atI_nat (j := 0) hu0, b0, q0, _, rfl, hq0.same s2, ?_⟩
    rw [List.length_map, show (M.headD []).length = wideOf M from rfl]
    have hMp := fun p (hp : p ≤ 8) => own_small hp hM
    refine ⟨_, rfl, by omega, by omega, for_it walk_range (fun p σ H3 => ∃ (x3 x4 x5 x6 x7 : Option V) (Lp : Addr) (ls : List V), σ = [some (.ref a), some (.ref Lp), some (.int ((ownS M p).2 : Nat)), x3, x4, x5, x6, x7, none, none] ∧ H3 Lp = some (.lst ls) ∧ LLs H3 ls (ownS M p).1 ∧ Same H2 H3)
      ⟨_, _, _, _, _, D, ls0, rfl, hD2, hL2, Same.refl _⟩ (fun _ _ _ _ _ => trivial) ?_ ?_⟩
    · rintro p x σ H3 H4 hp ⟨x3, x4, x5, x6, x7, Lp, ls, rfl, hLp, hLL, s3⟩ ⟨rfl, rfl⟩
      have hpw : p < wideOf M := hp
      obtain ⟨hn16, hsm⟩ := hMp p (by omega)
      have eS : ownS M (p + 1) = K3.ownStep (ownS M p) p := ownS_succ M p
      generalize hLk : ownS M p = Lk at hLL hn16 hsm eS ⊢
      obtain ⟨L, kk⟩ := Lk
      dsimp only at hLL hn16 hsm
      have hlsz : ls.length < sizeLine := Nat.lt_of_le_of_lt (by rw [hLL.1]; omega : ls.length ≤ 16) (by decide)
      have pick : ∀ {i : Nat} {y : V}, i < ls.length → ls[i]? = some y → ∃ (q : Addr) (v : Vec), y = .ref q ∧ L[i]? = some v ∧ L.getD i [] = v ∧ v ∈ L ∧ H4 q = some (.lst (v.map V.int)) ∧ v.length = wideOf M := by
        intro i y hi hy
        have hiL : i < L.length := by rw [← hLL.1]; exact hi
        obtain ⟨q, e1, e2, e3⟩ := hLL.get hiL
        rw [hy] at e1
        cases e1
        exact ⟨q, L[i], rfl, e2, getD_of hiL _, List.getElem_mem hiL, e3, (hsm _ (List.getElem_mem hiL)).1⟩
      refine ⟨_, rfl, false, Lp, rfl, ⟨_, .of hLp⟩, fun HD hHD => lc_relF (R := fun i y _ => ls[i]? = some y) (fun i => (L.getD i []).getD p 0 != 0) (walk_seq (b := false)) hHD hlsz (fun H s => .of (s _ _ hLp)) (fun _ _ _ _ _ h => h) ?_ ?_⟩
      · rintro i y H5 H6 hi s5 ha ⟨rfl, hy⟩ Rt Rk h1 h2
        obtain ⟨q, v, rfl, e2, eg, hm, hq, hv⟩ := pick hi hy
        refine ⟨rfl, _, rfl, _, rfl, false, q, _, _, _, rfl, rfl, .of (s5 _ _ hq), by rw [Int.zero_add]; exact atI_int (by omega), rfl, _, rfl, ?_⟩
        by_cases c : v.getD p 0 = 0
        · rw [c]
          exact iteF (h1 (by rw [eg, c]; rfl) H6 (Same.refl _))
        · have e : decide (V.int (v.getD p 0) = V.int 0) = false := decide_eq_false fun z => c (V.int.inj z)
          rw [e]
          exact iteT ⟨_, rfl, h2 (by rw [eg]; simpa using c) _ H6 (Same.refl _) hy⟩
      rintro H5 ⟨hs, lhs, hHD5, s5, hr5⟩
      have hLh : LLs H5 hs (L.filter fun r => r.getD p 0 != 0) := (hLL.same s5).filter (f := fun r => r.getD p 0 != 0) rfl lhs hr5
      refine ⟨_, rfl, (by show 0 ≤ sizeLine; decide), fun z1 hz1 => ⟨HD, z1, hs, rfl, rfl, .of ((same_upd hz1) _ _ hHD5), .of upd_same, _, rfl, ?_⟩⟩
      have s6 := s5.trans (same_upd (o := .lst []) hz1)
      have hHD6 := (same_upd (o := .lst []) hz1) _ _ hHD5
      have hLh6 := hLh.same (same_upd (o := .lst []) hz1)
      generalize upd H5 z1 (.lst []) = H6 at s6 hHD6 hLh6 ⊢
      cases hf : L.filter fun r => r.getD p 0 != 0 with
      | nil =>
        have e0 : hs = [] := List.eq_nil_of_length_eq_zero (by rw [hLh.1, hf]; rfl)
        rw [e0]
        have eS' : ownS M (p + 1) = (L, kk) := by rw [eS]; simp only [K3.ownStep, hf]
        refine iteF ⟨x3, some (.int (0 + (p : Nat))), some (.ref HD), x6, x7, Lp, ls, by rw [eS']; rfl, s6 _ _ hLp, by rw [eS']; exact hLL.same s6, s3.trans s6⟩
      | cons hd tl =>
        rw [hf] at hLh6
        have hsl : hs.length = tl.length + 1 := by rw [hLh6.1]; rfl
        cases hs with
        | nil => simp at hsl
        | cons h0 hr =>
          obtain ⟨qh, e0, _, hqh⟩ := hLh6.get (i := 0) (by simp)
          cases e0
          have hqh' : H6 qh = some (.lst (hd.map V.int)) := hqh
          have sub : ∀ r, r ∈ hd :: tl → r ∈ L := fun r hr => by
            rw [← hf] at hr
            exact (List.mem_filter.mp hr).1
          have hdL := sub hd List.mem_cons_self
          have hdw := (hsm hd hdL).1
          have q0 : (0 : Int).natAbs < 2 ^ 30000 := Nat.pow_pos (by decide)
          have gb : ∀ {v : Vec}, v ∈ L → ∀ i, (v.getD i 0).natAbs < 2 ^ 30000 := fun hv i => getD_mem (i := i) (P := fun v => v.natAbs < 2 ^ 30000) q0 (hsm _ hv).2
          refine iteT ⟨_, rfl, false, HD, _, 0, _, rfl, rfl, .of hHD6, atI_nat (j := 0) rfl, ?_⟩
          refine ⟨_, rfl, 1, rfl, HD, _, rfl, .of hHD6, fun Z hZ => ⟨false, Z, rfl, ⟨_, .of upd_same⟩, fun RD hRD => ?_⟩⟩
          rw [cut_drop] at hRD ⊢
          have s7 := same_upd (o := .lst ((V.ref qh :: hr).drop 1)) hZ
          have hZ7 : upd H6 Z (.lst ((V.ref qh :: hr).drop 1)) Z = some (.lst hr) := upd_same
          have hqh7 := s7 _ _ hqh'
          have hLh7 := hLh6.same s7
          have s67 := s6.trans s7
          generalize upd H6 Z (.lst ((V.ref qh :: hr).drop 1)) = H7 at s7 hZ7 hqh7 hLh7 s67 hRD ⊢
          refine lc_rel (R := fun i y H => ∃ (q : Addr) (x : Vec), y = .ref q ∧ (tl.map fun row => lin (hd.getD p 0) (row.getD p 0) row hd)[i]? = some x ∧ H q = some (.lst (x.map V.int))) (walk_seq (b := false) (xs := hr)) hRD (Nat.lt_of_le_of_lt (by have : tl.length + 1 ≤ L.length := by
                                                                                                                                                                                                                                                             rw [← List.length_cons (a := hd), ← hf]; exact List.length_filter_le ..
                                                                                                                                                                                                                                                           simp at hsl; omega : hr.length ≤ 16) (by decide)) (fun H s => .of (s _ _ hZ7))
            (fun i y H H' s ⟨q, x, e1, e2, t⟩ => ⟨q, x, e1, e2, s _ _ t⟩) ?_ ?_
          · rintro i y H8 H9 hi s8 ⟨acc, hacc⟩ ⟨rfl, hy⟩ Rk kk2
            have hit : i < tl.length := by simp at hsl; omega
            obtain ⟨qi, e1, e2, hqi⟩ := hLh7.get (i := i + 1) (by simpa using hit)
            have e1' : hr[i]? = some (.ref qi) := e1
            rw [e1'] at hy
            cases hy
            have hri : ∀ h, (hd :: tl)[i + 1]'h = tl[i] := fun _ => rfl
            rw [hri] at hqi
            have him : tl[i] ∈ L := sub _ (List.mem_cons_of_mem _ (List.getElem_mem hit))
            have hiw := (hsm _ him).1
            refine ⟨rfl, _, rfl, _, rfl, false, false, qi, qh, _, _, rfl, .of (s8 _ _ hqi), .of (s8 _ _ hqh7), fun D9 hD9 => lc_fun (fun t => V.int ((tl[i]).getD t 0 * hd.getD p 0 - hd.getD t 0 * (tl[i]).getD p 0)) (walk_zipM (b1 := false) (b2 := false) rfl) hD9 ?_ (fun H s => ⟨.of (s _ _ (s8 _ _ hqi)), .of (s _ _ (s8 _ _ hqh7))⟩) ?_ ?_⟩
            · rw [List.length_map, List.length_map, hiw, hdw]
              exact Nat.lt_of_le_of_lt (by omega : min (wideOf M) (wideOf M) ≤ 60) (by decide)
            · rintro t w H10 H11 ht s10 _ ⟨T', x', y', rfl, hT, rfl, e3, e4⟩ Rk2 kk3
              obtain ⟨n1, hn1, rfl⟩ := map_int_get e3
              obtain ⟨n2, hn2, rfl⟩ := map_int_get e4
              have sT := same_upd (o := .tup [.int n1, .int n2]) hT
              have bn1 := (hsm _ him).2 n1 (List.mem_of_getElem? hn1)
              have bn2 := (hsm _ hdL).2 n2 (List.mem_of_getElem? hn2)
              refine ⟨T', _, rfl, .of upd_same, rfl, _, _, rfl, _, _, rfl, rfl, rfl, _, rfl, _, rfl, false, qh, _, _, _, rfl, rfl, .of (sT _ _ (s10 _ _ (s8 _ _ hqh7))), by rw [Int.zero_add]; exact atI_int (by omega), _, rfl, hd.getD p 0, n1, rfl, rfl, wide_mul (a := 30000) (b := 30000) (gb hdL p) bn1 (by decide) (by decide) (by decide),
                _, rfl, _, rfl, false, qi, _, _, _, rfl, rfl, .of (sT _ _ (s10 _ _ (s8 _ _ hqi))), by rw [Int.zero_add]; exact atI_int (by omega), _, rfl, (tl[i]).getD p 0, n2, rfl, rfl, wide_mul (a := 30000) (b := 30000) (gb him p) bn2 (by decide) (by decide) (by decide), _, _, rfl, rfl, ?_⟩
              have e := kk3 _ sT
              rw [List.getD_eq_getElem?_getD (l := tl[i]) (i := t), List.getD_eq_getElem?_getD (l := hd) (i := t), hn1, hn2] at e
              have e5 : n1 * hd.getD p 0 - n2 * (tl[i]).getD p 0 = hd.getD p 0 * n1 - (tl[i]).getD p 0 * n2 := by rw [Int.mul_comm n1, Int.mul_comm n2]
              show Rk2 (.int (hd.getD p 0 * n1 - (tl[i]).getD p 0 * n2)) _
              rw [← e5]
              exact e
            · intro H10 hD10 s10
              have em : min ((tl[i]).map V.int).length (hd.map V.int).length = (tl[i]).length := by rw [List.length_map, List.length_map, hiw, hdw, Nat.min_self]
              rw [em, lin_list _ _ _ _ (by rw [hiw, hdw])] at hD10
              refine kk2 _ _ s10 ⟨D9, lin (hd.getD p 0) ((tl[i]).getD p 0) tl[i] hd, rfl, ?_, ?_⟩
              · rw [List.getElem?_map, List.getElem?_eq_getElem hit]; rfl
              · rw [off_ne (fun e => by rw [e, hacc] at hD9; cases hD9)]
                exact hD10
          rintro H8 ⟨rs, lrs, hRD8, s8, hr8⟩
          have hLr : LLs H8 rs (tl.map fun row => lin (hd.getD p 0) (row.getD p 0) row hd) := ⟨by rw [lrs, List.length_map]; simp at hsl; omega, fun i u x y1 y2 => by
            obtain ⟨q, x', e1, e2, t⟩ := hr8 i u y1
            rw [y2] at e2
            cases e2
            exact ⟨q, e1, off_same _ _ _ _ t⟩⟩
          have s48 := s67.trans s8
          refine ⟨_, rfl, false, Lp, rfl, ⟨_, .of (s48 _ _ hLp)⟩, fun ZD hZD => lc_relF (R := fun i y _ => ls[i]? = some y) (fun i => (L.getD i []).getD p 0 == 0) (walk_seq (b := false)) hZD hlsz (fun H s => .of (s _ _ (s48 _ _ hLp))) (fun _ _ _ _ _ h => h) ?_ ?_⟩
          · rintro i y H9 H10 hi s9 ha ⟨rfl, hy⟩ Rt Rk h1 h2
            obtain ⟨q, v, rfl, e2, eg, hm, hq, hv⟩ := pick hi hy
            refine ⟨rfl, _, rfl, _, rfl, false, q, _, _, _, rfl, rfl, .of (s9 _ _ (s48 _ _ hq)), by rw [Int.zero_add]; exact atI_int (by omega), rfl, _, rfl, ?_⟩
            by_cases c : v.getD p 0 = 0
            · rw [c]
              exact iteT ⟨_, rfl, h2 (by rw [eg, c]; rfl) _ H10 (Same.refl _) hy⟩
            · have e : decide (V.int (v.getD p 0) = V.int 0) = false := decide_eq_false fun z => c (V.int.inj z)
              rw [e]
              exact iteF (h1 (by rw [eg]; simpa using c) H10 (Same.refl _))
          rintro H9 ⟨zs, lzs, hZD9, s9, hr9⟩
          have hLz : LLs H9 zs (L.filter fun r => r.getD p 0 == 0) := (hLL.same (s48.trans s9)).filter (f := fun r => r.getD p 0 == 0) rfl lzs hr9
          have hLr9 := hLr.same s9
          have l1 : zs.length ≤ 16 := by rw [hLz.1]; exact Nat.le_trans (List.length_filter_le ..) (by omega)
          have l2 : rs.length ≤ 16 := by
            have : tl.length + 1 ≤ L.length := by rw [← List.length_cons (a := hd), ← hf]; exact List.length_filter_le ..
            rw [hLr.1, List.length_map]
            omega
          refine ⟨_, rfl, ZD, RD, zs, rs, rfl, rfl, hZD9, s9 _ _ hRD8, Nat.le_trans (by omega : zs.length + rs.length ≤ 32) (by decide), fun N hN => ⟨_, rfl, _, _, rfl, rfl, _, _, rfl, ?_⟩⟩
          have s10 := same_upd (o := .lst (zs ++ rs)) hN
          have eS' : ownS M (p + 1) = (L.filter (fun r => r.getD p 0 == 0) ++ tl.map (fun row => lin (hd.getD p 0) (row.getD p 0) row hd), kk + 1) := by rw [eS]; simp only [K3.ownStep, hf]
          exact ⟨x3, some (.int (0 + (p : Nat))), some (.ref HD), some (.ref qh), some (.ref RD), N, zs ++ rs, by rw [eS']; rfl, upd_same, by rw [eS']; exact (hLz.append hLr9).same s10, s3.trans ((s48.trans s9).trans s10)⟩
    · rintro σ H3 ⟨x3, x4, x5, x6, x7, Lp, ls, rfl, hLp, hLL, s3⟩
      exact ⟨_, rfl, k H3 (s2.trans s3)⟩
end
end K0


set_option Elab.async false
set_option linter.all false
set_option maxRecDepth 100000
set_option maxHeartbeats 8000000
set_option exponentiation.threshold 100000
namespace K0
open PySem PySem.Spec PyProof.Rows L2 RZ K0z K3

def rSlK (K : PySem.W.Frag) : V → Option Int → Option Int → Hp → VK → Prop := fun x lo hi H Q => ∃ b a xs, x = .ref a ∧ SqB K b H a xs ∧ (b = true → ¬ (HT.sIx xs.length 0 lo = 0 ∧ HT.sIx xs.length xs.length hi = xs.length)) ∧
  ∀ p, H p = none → Q (.ref p) (upd H p (if b = true then .tup (cutV xs lo hi) else .lst (cutV xs lo hi)))
theorem sl_K {X : Cx} (K : PySem.W.Frag) (e : X.K = K := by rfl) : SlR X (rSlK K) := by
  subst e
  intro pins s σ H x v vl vu lo hi sl Q I rx hs pl pu h
  obtain ⟨b, a, xs, e, hx, hw, q⟩ := h
  cases b
  · exact sl_list pins s σ H x v vl vu lo hi sl Q I rx hs pl pu ⟨a, xs, e, hx, q⟩
  · exact sl_tup pins s σ H x v vl vu lo hi sl Q I rx hs pl pu ⟨a, xs, e, hx, hw rfl, q⟩
abbrev scS : Scope := { kind := ScopeKind.function, names := [((".0" : Str), NameKind.local), (("point" : Str), NameKind.local), (("zip" : Str), NameKind.globalImplicit), (("points" : Str), NameKind.cell)], isGenerator := false, isCoroutine := false }
def subV (x y : Vec) : Vec := List.zipWith (fun a b => a - b) x y
theorem sub_list (x y : Vec) : (List.range (min x.length y.length)).map (fun t => V.int (x.getD t 0 - y.getD t 0)) = (subV x y).map V.int := by
  unfold subV
  refine List.ext_getElem (by simp) fun i h1 h2 => ?_
  simp only [List.length_map, List.length_zipWith] at h2
  have hx : i < x.length := by omega
  have hy : i < y.length := by omega
  simp [List.getD_eq_getElem?_getD, List.getElem?_eq_getElem hx, List.getElem?_eq_getElem hy]
def stepsL (M : List Vec) : List Vec := (M.drop 1).map fun x => subV x (M.headD [])
section
variable {P : Program} {w : World} {K : PySem.W.Frag} {mg : Str → Option Value} {base : Heap} {f g g2 g3 g4 : Addr} {fd : FuncData}
def spSteps (K : PySem.W.Frag) : Sp := fun vs H Q _ => ∃ (v : V) (M : List Vec), vs = [v] ∧ RowsAt K H v M ∧ M ≠ [] ∧ M.length ≤ 16 ∧ (∀ r ∈ M, r.length ≤ 16) ∧
  ∀ (p : Addr) (us : List V) (H' : Hp), Same H H' → H' p = some (.lst us) → LLs H' us (stepsL M) → Q (.ref p) H'
theorem sc_steps : FnScope ["points", "number", "its", "point"] ["points"] (defScope st__law_steps) := ⟨rfl, rfl, rfl, by decide +kernel, rfl, by decide +kernel, by decide +kernel⟩
theorem ok_steps (F : Fun K "_law_steps" "_law_steps" st__law_steps f fd) (T : Nm mg) : FnOk P w K mg base CX0 2 f fd ["points"] (spSteps K) := by
  refine F.ok sc_steps (fun vs H Q E h => ?_) (fun cdv A outer s H vs Q E hr h => ?_)
  · obtain ⟨v, M, rfl, _⟩ := h
    rfl
  · obtain ⟨v, M, rfl, hR, hne, h16, hM, k⟩ := h
    refine ⟨_, (pss_one (ps_ret (pe_lc (own := [("point", 3)]) (g := gName 3) (tt := tYes) rfl sc_steps.nd (pi_seqK K (pe_slice (sl_K K) (pv 0) (po_some pe_int) po_none)) (blkOk_by (N := ["points", "number", "its", "point"]) (sc := defScope st__law_steps) (by decide +kernel)) (fun _ _ _ _ _ => (pg_name (i := 3) sc_steps.nd rfl (Or.inl rfl))) (fun _ _ _ _ _ => pts_nil) (fun _ _ _ _ _ => (pe_lc (own := [("number", 1), ("its", 2)]) (g := gTup K 2 (gCons (gName 1) (gCons (gName 2) gNil))) (tt := tYes) rfl sc_steps.nd (pi_zipMK K (by rfl) T.n_zip (pa_cons (pv 3) (pa_cons (pe_ix (ix_K K) (pv 0) pe_int (fun _ _ => rfl)) pa_nil))) (blkOk_by (N := ["points", "number", "its", "point"]) (sc := scS) (by decide +kernel)) (fun _ _ _ _ _ => (pg_tup (by rfl) (pgs_cons (pg_name (i := 1) sc_steps.nd rfl (Or.inl rfl)) (pgs_cons (pg_name (i := 2) sc_steps.nd rfl (Or.inl rfl)) pgs_nil)))) (fun _ _ _ _ _ => pts_nil) (fun _ _ _ _ _ => (pe_op op_sub (pv 1) (pv 2)))))))), ?_⟩
    obtain ⟨b, a, vs, rfl, hS, hl, hz⟩ := id hR
    have hMp : 0 < M.length := List.length_pos_iff.mpr hne
    obtain ⟨u0, e0, _, ⟨b0, a0, rfl, hB0⟩⟩ := RowsAt.get hl hz hMp
    have hh : M.headD [] = M[0] := by
      cases M with
      | nil => exact absurd rfl hne
      | cons _ _ => rfl
    refine ⟨_, rfl, 1, rfl, b, a, vs, rfl, hS, fun _ hw => ?_, fun Z hZ => ⟨b, Z, rfl, ⟨cutV vs (some 1) none, ?_⟩, fun D hD => ?_⟩⟩
    · have e : HT.sIx vs.length 0 (some 1) = min 1 vs.length := HT.sIx_nat vs.length 0 1
      rw [e, hl, Nat.min_eq_left (by omega)] at hw
      exact absurd hw.1 (by decide)
    · cases b
      · exact .of upd_same
      · exact .of upd_same
    rw [cut_drop] at hD ⊢
    have sZ := same_upd (o := if b = true then HO.tup (vs.drop 1) else HO.lst (vs.drop 1)) hZ
    have hZ1 : SqB K b (upd H Z (if b = true then HO.tup (vs.drop 1) else HO.lst (vs.drop 1))) Z (vs.drop 1) := by
      cases b
      · exact .of upd_same
      · exact .of upd_same
    generalize upd H Z (if b = true then HO.tup (vs.drop 1) else HO.lst (vs.drop 1)) = H1 at sZ hZ1 hD ⊢
    refine lc_rel (R := fun i y H => ∃ (q : Addr) (x : Vec), y = .ref q ∧ (stepsL M)[i]? = some x ∧ H q = some (.lst (x.map V.int))) (walk_seq (xs := vs.drop 1)) hD (Nat.lt_of_le_of_lt (by rw [List.length_drop]; omega : (vs.drop 1).length ≤ 16) (by decide)) (fun H2 s2 => hZ1.same s2)
      (fun i y H H' s ⟨q, x, e1, e2, t⟩ => ⟨q, x, e1, e2, s _ _ t⟩) ?_ ?_
    · rintro i x H2 H3 hi s2 ⟨acc, hacc⟩ ⟨rfl, hx⟩ Rk kk
      rw [List.length_drop] at hi
      have hi2 : i + 1 < M.length := by omega
      rw [List.getElem?_drop, Nat.add_comm] at hx
      obtain ⟨u, e1, e2, ⟨b1, a1, rfl, hB1⟩⟩ := RowsAt.get hl hz hi2
      rw [e1] at hx
      cases hx
      have s12 := sZ.trans s2
      refine ⟨rfl, _, rfl, _, rfl, b, a, vs, 0, _, rfl, rfl, hS.same s12, atI_nat (j := 0) e0, b1, b0, a1, a0, _, _, rfl, hB1.same s12, hB0.same s12, fun D2 hD2 => lc_fun (fun t => V.int ((M[i + 1]).getD t 0 - (M[0]).getD t 0)) (walk_zipM rfl) hD2 ?_ (fun H4 s4 => ⟨(hB1.same s12).same s4, (hB0.same s12).same s4⟩) ?_ ?_⟩
      · rw [List.length_map, List.length_map]
        have := hM _ (List.getElem_mem hi2)
        exact Nat.lt_of_le_of_lt (Nat.le_trans (Nat.min_le_left _ _) this) (by decide)
      · rintro t v H4 H5 ht s4 _ ⟨T', x', y', rfl, hT, rfl, e3, e4⟩ Rk2 kk3
        obtain ⟨n1, hn1, rfl⟩ := map_int_get e3
        obtain ⟨n2, hn2, rfl⟩ := map_int_get e4
        refine ⟨T', _, rfl, .of upd_same, rfl, _, _, rfl, _, _, rfl, rfl, rfl, _, rfl, _, rfl, n1, n2, rfl, rfl, ?_⟩
        have e := kk3 _ (same_upd (o := .tup [.int n1, .int n2]) hT)
        rw [List.getD_eq_getElem?_getD (l := M[i + 1]) (i := t), List.getD_eq_getElem?_getD (l := M[0]) (i := t), hn1, hn2] at e
        exact e
      · intro H4 hD4 s4
        rw [List.length_map, List.length_map, sub_list] at hD4
        refine kk _ _ s4 ⟨D2, subV M[i + 1] M[0], rfl, ?_, ?_⟩
        · unfold stepsL
          rw [List.getElem?_map, List.getElem?_drop, Nat.add_comm, e2, hh]
          rfl
        · rw [off_ne (fun e => by rw [e, hacc] at hD2; cases hD2)]
          exact hD4
    · rintro H2 ⟨acc, la, hD2, s2, hr2⟩
      refine k D acc H2 (sZ.trans s2) hD2 ⟨?_, fun i u x y1 y2 => ?_⟩
      · rw [la, List.length_drop, hl]
        simp [stepsL]
      · obtain ⟨q, x', e1, e2, t⟩ := hr2 i u y1
        rw [y2] at e2
        cases e2
        exact ⟨q, e1, off_same _ _ _ _ t⟩
theorem sc_lis_integer : FnScope ["value"] ["value"] (defScope st__law_is_integer) := ⟨rfl, rfl, rfl, by decide +kernel, rfl, by decide +kernel, by decide +kernel⟩
theorem ok_lis_integer (F : Fun K "_law_is_integer" "_law_is_integer" st__law_is_integer f fd) (T : Nm mg) : FnOk P w K mg base CX0 1 f fd ["value"] (spIsInt K) := by
  refine F.ok sc_lis_integer (fun vs H Q E h => ?_) (fun cdv A outer s H vs Q E hr h => ?_)
  · obtain ⟨v, q, rfl, _⟩ := h
    rfl
  · obtain ⟨v, q, rfl, ⟨t, i, b, ty, hi, hb, hib, _⟩, k⟩ := h
    refine ⟨_, (pss_one (ps_ret (pe_and (pe_callB call_isA (by rfl) T.n_isinstance (by decide +kernel) (pa_cons (pv 0) (pa_cons (pe_tyn "int" (by rfl) T.n_int (by decide +kernel)) pa_nil))) (pe_one (pe_not (pe_callB call_isA (by rfl) T.n_isinstance (by decide +kernel) (pa_cons (pv 0) (pa_cons (pe_tyn "bool" (by rfl) T.n_bool (by decide +kernel)) pa_nil)))))))), ?_⟩
    refine ⟨_, rfl, v, .ty "int", t, .type "int", i, rfl, .ty _, ty, hi, i, rfl, ?_⟩
    cases i with
    | false =>
      refine iteF ?_
      have e : isI v = false := hib.symm
      rw [← e]
      exact k H (Same.refl H)
    | true =>
      refine iteT ?_
      refine ⟨_, rfl, v, .ty "bool", t, .type "bool", b, rfl, .ty _, ty, hb, b, rfl, ?_⟩
      have e : isI v = !b := hib.symm
      rw [← e]
      exact k H (Same.refl H)
end
end K0


set_option Elab.async false
set_option linter.all false
set_option maxRecDepth 100000
set_option maxHeartbeats 8000000
set_option exponentiation.threshold 100000
namespace K0
open PySem PySem.Spec PyProof.Rows L2 RZ K0z K3

def Gd (n : Nat) (o : Option (List V)) : Prop := ∃ ys, o = some ys ∧ ys.length = n ∧ 1 ≤ n ∧ n ≤ 8 ∧ ys.all isI = true
def wO (os : List (Option (List V))) : Nat := ((os.headD none).getD []).length
theorem pts_iff {os : List (Option (List V))} (hne : os ≠ []) : ptsB os (.int 1) (.int 8) = true ↔ ∀ o ∈ os, Gd (wO os) o := by
  cases os with
  | nil => exact absurd rfl hne
  | cons o r =>
    have e : ptsB (o :: r) (.int 1) (.int 8) = (lenB o (.int 1) (.int 8) && (o :: r).all fun q => lenB q (.int (o.getD []).length) (.int (o.getD []).length) && intsB q) := rfl
    have ew : wO (o :: r) = (o.getD []).length := rfl
    rw [e, ew, Bool.and_eq_true, List.all_eq_true]
    constructor
    · rintro ⟨h1, h2⟩ q hq
      obtain ⟨ys, rfl, a1, a2⟩ := lenB_int.mp h1
      have := h2 q hq
      rw [Bool.and_eq_true] at this
      obtain ⟨zs, rfl, b1, b2⟩ := lenB_int.mp this.1
      have b1' : ((ys.length : Nat) : Int) ≤ zs.length := b1
      have b2' : (zs.length : Int) ≤ ((ys.length : Nat) : Int) := b2
      show Gd ys.length _
      exact ⟨zs, rfl, by omega, by omega, by omega, this.2⟩
    · intro h
      obtain ⟨ys, rfl, a1, a2, a3, a4⟩ := h o List.mem_cons_self
      have a2' : 1 ≤ ys.length := a2
      have a3' : ys.length ≤ 8 := a3
      refine ⟨lenB_int.mpr ⟨ys, rfl, by omega, by omega⟩, fun q hq => ?_⟩
      obtain ⟨zs, rfl, b1, _, _, b4⟩ := h q hq
      have b1' : zs.length = ys.length := b1
      rw [Bool.and_eq_true]
      exact ⟨lenB_int.mpr ⟨zs, rfl, by show ((ys.length : Nat) : Int) ≤ _; omega, by show _ ≤ ((ys.length : Nat) : Int); omega⟩, b4⟩
theorem ok_iff {os : List (Option (List V))} {lo : Nat} : okB (some os) lo = true ↔ lo ≤ os.length ∧ os.length ≤ 16 ∧ ∀ o ∈ os, Gd (wO os) o := by
  show (decide (lo ≤ os.length) && decide (os.length ≤ 16) && (os.isEmpty || ptsB os (.int 1) (.int 8))) = true ↔ _
  rw [Bool.and_eq_true, Bool.and_eq_true, decide_eq_true_eq, decide_eq_true_eq]
  by_cases hne : os = []
  · subst hne
    simp
  · have : os.isEmpty = false := by cases os with
      | nil => exact absurd rfl hne
      | cons _ _ => rfl
    rw [this, Bool.false_or, pts_iff hne, and_assoc]
theorem not_ok {vo : List (Option (List V))} {lo : Nat} (h : ¬ (lo ≤ vo.length ∧ vo.length ≤ 16 ∧ ∀ o ∈ vo, Gd (wO vo) o)) : okB (some vo) lo = false := by
  cases e : okB (some vo) lo with
  | false => rfl
  | true => exact absurd (ok_iff.mp e) h
section
variable {P : Program} {w : World} {K : PySem.W.Frag} {mg : Str → Option Value} {base : Heap} {f g g2 g3 g4 : Addr} {fd : FuncData}
def spLRows (K : PySem.W.Frag) : Sp := fun vs H Q _ => ∃ (v : V) (lo : Nat) (vo : Option (List (Option (List V)))), vs = [v, .int (lo : Nat)] ∧ ValAt K H v vo ∧ ∀ H', Same H H' → Q (.bl (okB vo lo)) H'
theorem sc_are_rows : FnScope ["value", "least", "row", "item"] ["value", "least"] (defScope st__law_are_rows) := ⟨rfl, rfl, rfl, by decide +kernel, rfl, by decide +kernel, by decide +kernel⟩
abbrev lt2 : List V := [.ty "list", .ty "tuple"]
theorem cls2 : Paired ClsV lt2 [.type "list", .type "tuple"] := .cons (.ty _) (.cons (.ty _) .nil)
theorem ok_are_rows (F : Fun K "_law_are_rows" "_law_are_rows" st__law_are_rows f fd) (T : Nm mg) (D__law_is_integer : Dn P w K mg base 1 "_law_is_integer" g ["value"] (spIsInt K)) : FnOk P w K mg base CX0 2 f fd ["value", "least"] (spLRows K) := by
  refine F.ok sc_are_rows (fun vs H Q E h => ?_) (fun cdv A outer s H vs Q E hr h => ?_)
  · obtain ⟨v, lo, vo, rfl, _⟩ := h
    rfl
  · obtain ⟨v, lo, vo, rfl, hv, k⟩ := h
    refine ⟨_, (pss_cons (ps_if (PW.pt (pw_or (pt_not (pt_val (pe_callB (call_isTK K) (by rfl) T.n_isinstance (by decide +kernel) (pa_cons (pv 0) (pa_cons (pe_tup (pa_cons (pe_tyn "list" (by rfl) T.n_list (by decide +kernel)) (pa_cons (pe_tyn "tuple" (by rfl) T.n_tuple (by decide +kernel)) pa_nil))) pa_nil))))) (pw_or (pt_cmpR op_lt (pe_callB (call_lenK K) (by rfl) T.n_len (by decide +kernel) (pa_cons (pv 0) pa_nil)) (pv 1) (nomark _)) (pw_or1 (pt_cmpR op_gt (pe_callB (call_lenK K) (by rfl) T.n_len (by decide +kernel) (pa_cons (pv 0) pa_nil)) pe_int (nomark _)))))) (pss_one (ps_ret pe_bl)) pss_nil)
    (pss_cons (ps_if (pt_cmpR (op_neNil K hr.units) (pe_lc (own := [("row", 2)]) (g := gName 2) rfl sc_are_rows.nd (pi_seqK K (pv 0)) (blkOk_by (N := ["value", "least", "row", "item"]) (sc := defScope st__law_are_rows) (by decide +kernel)) (fun _ _ _ _ _ => (pg_name (i := 2) sc_are_rows.nd rfl (Or.inl rfl))) (fun _ _ _ _ _ => (pts_one (pt_not (pt_val (pe_callB (call_isTK K) (by rfl) T.n_isinstance (by decide +kernel) (pa_cons (pv 2) (pa_cons (pe_tup (pa_cons (pe_tyn "list" (by rfl) T.n_list (by decide +kernel)) (pa_cons (pe_tyn "tuple" (by rfl) T.n_tuple (by decide +kernel)) pa_nil))) pa_nil))))))) (fun _ _ _ _ _ => (pv 2))) (pe_lst pa_nil) (nomark _)) (pss_one (ps_ret pe_bl)) pss_nil)
    (pss_cons (ps_for PassesOwn.never rfl (pi_seqK K (pv 0)) (pg_name (i := 2) sc_are_rows.nd rfl (Or.inl rfl))
      (pss_one (ps_if (PW.pt (pw_or (pt_cmpR op_ne (pe_callB (call_lenK K) (by rfl) T.n_len (by decide +kernel) (pa_cons (pv 2) pa_nil)) (pe_callB (call_lenK K) (by rfl) T.n_len (by decide +kernel) (pa_cons (pe_ix (ix_K K) (pv 0) pe_int (fun _ _ => rfl)) pa_nil)) (nomark _)) (pw_or (pt_cmpR op_lt (pe_callB (call_lenK K) (by rfl) T.n_len (by decide +kernel) (pa_cons (pv 2) pa_nil)) pe_int (nomark _)) (pw_or (pt_cmpR op_gt (pe_callB (call_lenK K) (by rfl) T.n_len (by decide +kernel) (pa_cons (pv 2) pa_nil)) pe_int (nomark _)) (pw_or1 (pt_cmpR (op_neNil K hr.units) (pe_lc (own := [("item", 3)]) (g := gName 3) rfl sc_are_rows.nd (pi_seqK K (pv 2)) (blkOk_by (N := ["value", "least", "row", "item"]) (sc := defScope st__law_are_rows) (by decide +kernel)) (fun _ _ _ _ _ => (pg_name (i := 3) sc_are_rows.nd rfl (Or.inl rfl))) (fun _ _ _ _ _ => (pts_one (pt_not (pt_val (pe_dn D__law_is_integer (hr.mono (by decide)) rfl (pa_cons (pv 3) pa_nil)))))) (fun _ _ _ _ _ => (pv 3))) (pe_lst pa_nil) (nomark _))))))) (pss_one (ps_ret pe_bl)) pss_nil)))
    (pss_one (ps_ret pe_bl))))), ?_⟩
    refine ⟨_, rfl, (by show 2 ≤ sizeLine; decide), fun p1 hp1 => ?_⟩
    have s1 := same_upd (o := .tup lt2) hp1
    have hp1' : upd H p1 (.tup lt2) p1 = some (.tup lt2) := upd_same
    cases vo with
    | none =>
      have hv' : Seqs K H v none := hv
      obtain ⟨t, i, b, ty, _, _, _, hq⟩ := hv'.asks.same s1
      refine ⟨v, p1, lt2, t, _, false, rfl, hp1', cls2, ty, hq, _, rfl, ?_⟩
      exact iteT (iteT (k _ s1))
    | some os =>
      obtain ⟨vs, hS, hl, hz⟩ := id hv
      obtain ⟨t, i, b, ty, _, _, _, hq⟩ := hS.asks.same s1
      refine ⟨v, p1, lt2, t, _, true, rfl, hp1', cls2, ty, hq, _, rfl, ?_⟩
      obtain ⟨bB, a, rfl, hB, hz2⟩ := hS.sqB
      refine iteF ⟨_, rfl, bB, a, vs, rfl, hB.same s1, _, rfl, _, _, rfl, rfl, _, rfl, ?_⟩
      by_cases c1 : (vs.length : Int) < (lo : Nat)
      · rw [decide_eq_true c1]
        refine iteT (iteT ?_)
        have q := k _ s1
        rw [not_ok (fun z => by omega)] at q
        exact q
      rw [decide_eq_false c1]
      refine iteF ⟨_, rfl, bB, a, vs, rfl, hB.same s1, _, _, rfl, rfl, _, rfl, ?_⟩
      by_cases c2 : (16 : Int) < (vs.length : Nat)
      · rw [decide_eq_true c2]
        refine iteT ?_
        have q := k _ s1
        rw [not_ok (fun z => by omega)] at q
        exact q
      rw [decide_eq_false c2]
      refine iteF ?_
      generalize upd H p1 (.tup lt2) = H1 at s1 ⊢
      -- rows that are none
      refine ⟨_, rfl, bB, a, rfl, ⟨_, hB.same s1⟩, fun D hD => lc_relF (R := fun _ _ _ => True) (fun i => (os.getD i none).isNone) walk_seq hD hz2 (fun H2 s2 => (hB.same s1).same s2) (fun _ _ _ _ _ _ => trivial) ?_ ?_⟩
      · rintro i x H2 H3 hi s2 ha ⟨rfl, hx⟩ Rt Rk h1 h2
        have hi2 : i < os.length := by omega
        obtain ⟨u, e1, e2, hs, _⟩ := ValAt.get hl hz hi2
        rw [e1] at hx
        cases hx
        have eg : os.getD i none = os[i] := getD_of hi2 _
        refine ⟨rfl, _, rfl, (by show 2 ≤ sizeLine; decide), fun p2 hp2 => ?_⟩
        have s3 := same_upd (o := .tup lt2) hp2
        obtain ⟨t, i', b', ty, _, _, _, hq⟩ := (hs.asks.same (s1.trans s2)).same s3
        refine ⟨_, p2, lt2, t, _, _, rfl, upd_same, cls2, ty, hq, _, rfl, ?_⟩
        cases co : os[i] with
        | none => exact iteT ⟨_, rfl, h2 (by rw [eg, co]; rfl) _ _ s3 trivial⟩
        | some ys => exact iteF (h1 (by rw [eg, co]; rfl) _ s3)
      rintro H2 ⟨acc, la, hD2, s2, _⟩
      refine ⟨(by show 0 ≤ sizeLine; decide), fun z hz9 => ⟨D, z, acc, rfl, rfl, .of ((same_upd hz9) _ _ hD2), .of upd_same, _, rfl, ?_⟩⟩
      have s3 := (s1.trans s2).trans (same_upd (o := .lst []) hz9)
      generalize upd H2 z (.lst []) = H3 at s3 ⊢
      cases ce : acc with
      | cons y ys =>
        refine iteT ?_
        have q := k _ s3
        rw [not_ok (fun zz => ?_)] at q
        · exact q
        · have hne : ((List.range vs.length).filter fun i => (os.getD i none).isNone) ≠ [] := fun e => by
            rw [e, ce] at la
            cases la
          obtain ⟨i, hi⟩ := List.exists_mem_of_ne_nil _ hne
          obtain ⟨m1, m2⟩ := List.mem_filter.mp hi
          have hi2 : i < os.length := by rw [← hl]; exact List.mem_range.mp m1
          rw [getD_of hi2] at m2
          obtain ⟨ys, e, _⟩ := zz.2.2 _ (List.getElem_mem hi2)
          rw [e] at m2
          cases m2
      | nil =>
        refine iteF ?_
        have allS : ∀ i (hi : i < os.length), ∃ ys, os[i] = some ys := fun i hi => by
          cases co : os[i] with
          | some ys => exact ⟨ys, rfl⟩
          | none =>
            have hm : i ∈ (List.range vs.length).filter fun i => (os.getD i none).isNone := List.mem_filter.mpr ⟨List.mem_range.mpr (by omega), by rw [getD_of hi, co]; rfl⟩
            rw [ce] at la
            have := List.eq_nil_of_length_eq_zero la.symm
            rw [this] at hm
            cases hm
        -- the rows
        refine ⟨_, rfl, bB, a, rfl, ⟨_, hB.same s3⟩, for_it walk_seq (fun i σ H4 => Same H H4 ∧ (∃ x2 x3, σ = [some (.ref a), some (.int (lo : Nat)), x2, x3]) ∧ ∀ j o, j < i → os[j]? = some o → Gd (wO os) o) ⟨s3, ⟨_, _, rfl⟩, fun j o h => absurd h (Nat.not_lt_zero _)⟩ (fun i σ H4 _ p => hB.same p.1) ?_ ?_⟩
        · rintro i x σ H4 H5 hi ⟨s4, ⟨x2, x3, rfl⟩, hg⟩ ⟨rfl, hx⟩
          have hi2 : i < os.length := by omega
          obtain ⟨u, e1, e2, hs, hit⟩ := ValAt.get hl hz hi2
          rw [e1] at hx
          cases hx
          obtain ⟨ys, ey⟩ := allS i hi2
          rw [ey] at e2 hs hit
          obtain ⟨b1, a1, rfl, hB1, hz3⟩ := hs.sqB
          have h0 : 0 < os.length := by omega
          obtain ⟨u0, f1, f2, hs0, _⟩ := ValAt.get hl hz h0
          obtain ⟨ys0, ey0⟩ := allS 0 h0
          rw [ey0] at f2 hs0
          obtain ⟨b0, a0, rfl, hB0, _⟩ := hs0.sqB
          have ew : wO os = ys0.length := by
            cases os with
            | nil => cases f2
            | cons o r =>
              have : o = some ys0 := by simpa using f2
              unfold wO
              rw [this]
              rfl
          have bad : ¬ Gd (wO os) (some ys) → okB (some os) lo = false := fun n => not_ok fun z => n (z.2.2 _ (List.mem_of_getElem? e2))
          refine ⟨_, rfl, b1, a1, ys, rfl, hB1.same s4, _, rfl, bB, a, vs, 0, _, rfl, rfl, hB.same s4, atI_nat (j := 0) f1, b0, a0, ys0, rfl, hB0.same s4, rfl, _, rfl, ?_⟩
          by_cases d1 : ys.length ≠ ys0.length
          · have e : (!decide (V.int (ys.length : Nat) = V.int (ys0.length : Nat))) = true := by
              rw [decide_eq_false (fun z => d1 (by have := V.int.inj z; omega))]
              rfl
            rw [e]
            refine iteT (iteT ?_)
            have q := k _ s4
            rw [bad (fun ⟨zs, ez, l1, _⟩ => d1 (by cases ez; rw [l1, ew]))] at q
            exact q
          have d1 : ys.length = ys0.length := Classical.not_not.mp d1
          have e : (!decide (V.int (ys.length : Nat) = V.int (ys0.length : Nat))) = false := by
            rw [d1]
            simp
          rw [e]
          refine iteF ⟨_, rfl, b1, a1, ys, rfl, hB1.same s4, _, _, rfl, rfl, _, rfl, ?_⟩
          by_cases d2 : (ys.length : Int) < 1
          · rw [decide_eq_true d2]
            refine iteT (iteT ?_)
            have q := k _ s4
            rw [bad (fun ⟨zs, ez, l1, l2, _⟩ => by omega)] at q
            exact q
          rw [decide_eq_false d2]
          refine iteF ⟨_, rfl, b1, a1, ys, rfl, hB1.same s4, _, _, rfl, rfl, _, rfl, ?_⟩
          by_cases d3 : (8 : Int) < (ys.length : Nat)
          · rw [decide_eq_true d3]
            refine iteT (iteT ?_)
            have q := k _ s4
            rw [bad (fun ⟨zs, ez, l1, _, l3, _⟩ => by omega)] at q
            exact q
          rw [decide_eq_false d3]
          refine iteF ?_
          refine ⟨_, rfl, b1, a1, rfl, ⟨_, hB1.same s4⟩, fun D5 hD5 => lc_relF (R := fun _ _ _ => True) (fun j => !isI (ys.getD j .non)) walk_seq hD5 hz3 (fun H s => (hB1.same s4).same s) (fun _ _ _ _ _ _ => trivial) ?_ ?_⟩
          · rintro j x H6 H7 hj s6 _ ⟨rfl, hx⟩ Rt Rk h1 h2
            obtain ⟨qb, aq⟩ := hit ys rfl x (List.mem_of_getElem? hx)
            have eg : ys.getD j .non = x := by rw [List.getD_eq_getElem?_getD, hx]; rfl
            refine ⟨rfl, _, rfl, x, qb, rfl, (aq.same s4).same s6, fun H8 s8 => ⟨_, rfl, ?_⟩⟩
            cases ci : isI x with
            | true => exact iteF (h1 (by rw [eg, ci]; rfl) _ s8)
            | false => exact iteT ⟨_, rfl, h2 (by rw [eg, ci]; rfl) _ _ s8 trivial⟩
          rintro H6 ⟨acc2, la2, hD6, s6, _⟩
          refine ⟨(by show 0 ≤ sizeLine; decide), fun z2 hz8 => ⟨D5, z2, acc2, rfl, rfl, .of ((same_upd hz8) _ _ hD6), .of upd_same, _, rfl, ?_⟩⟩
          have s7 := (s4.trans s6).trans (same_upd (o := .lst []) hz8)
          generalize upd H6 z2 (.lst []) = H7 at s7 ⊢
          have hall : acc2 = [] ↔ ys.all isI = true := by
            rw [List.all_eq_true]
            constructor
            · intro e y hy
              obtain ⟨j, hj⟩ := List.mem_iff_getElem?.mp hy
              have hjl := (List.getElem?_eq_some_iff.mp hj).1
              cases ci : isI y with
              | true => rfl
              | false =>
                have hm : j ∈ (List.range ys.length).filter fun j => !isI (ys.getD j .non) := List.mem_filter.mpr ⟨List.mem_range.mpr hjl, by rw [List.getD_eq_getElem?_getD, hj]; show (!isI y) = true; rw [ci]; rfl⟩
                rw [e] at la2
                have := List.eq_nil_of_length_eq_zero la2.symm
                rw [this] at hm
                cases hm
            · intro h
              refine List.eq_nil_of_length_eq_zero ?_
              rw [la2]
              refine List.length_eq_zero_iff.mpr (List.filter_eq_nil_iff.mpr fun j hj => ?_)
              have hjl := List.mem_range.mp hj
              rw [getD_of hjl, h _ (List.getElem_mem hjl)]
              simp
          cases ce2 : acc2 with
          | cons y2 y3 =>
            refine iteT ?_
            have q := k _ s7
            rw [bad (fun ⟨zs, ez, _, _, _, l4⟩ => by
              cases ez
              rw [hall.mpr l4] at ce2
              cases ce2)] at q
            exact q
          | nil =>
            refine iteF ⟨s7, ⟨_, _, rfl⟩, fun j o hj ho => ?_⟩
            by_cases hji : j = i
            · rw [hji, e2] at ho
              cases ho
              exact ⟨ys, rfl, by omega, by omega, by omega, hall.mp ce2⟩
            · exact hg j o (by omega) ho
        · rintro σ H4 ⟨s4, ⟨x2, x3, rfl⟩, hg⟩
          have q := k _ s4
          rw [ok_iff.mpr ⟨by omega, by omega, fun o ho => by
            obtain ⟨j, hj⟩ := List.mem_iff_getElem?.mp ho
            exact hg j o (by have := (List.getElem?_eq_some_iff.mp hj).1; omega) hj⟩] at q
          exact q
end
end K0


set_option Elab.async false
set_option linter.all false
set_option maxRecDepth 100000
set_option maxHeartbeats 8000000
set_option exponentiation.threshold 100000
namespace K0
open PySem PySem.Spec PyProof.Rows L2 RZ K0z K3

/-! ### a value as it is shown: simple ones, and a list or tuple of such -/
inductive ItsS (K : PySem.W.Frag) (H : Hp) : List V → List PyData → Prop
  | nil : ItsS K H [] []
  | cons {v : V} {d : PyData} {vs : List V} {ds : List PyData} (h : It K H v d) (sh : Short d) (r : ItsS K H vs ds) : ItsS K H (v :: vs) (d :: ds)
theorem Dp.same' {K : PySem.W.Frag} {H H' : Hp} (s : Same H H') : ∀ {d : PyData} {v : V}, Dp K H v d → Dp K H' v d := fun h => Dp.rec
  (motive_1 := fun v d _ => Dp K H' v d) (motive_2 := fun vs ds _ => DpAll K H' vs ds) .non (fun b => .bl b) (fun i => .int i) (fun x => .str x)
  (fun h _ ih => .lst (Same.seq s h) ih) (fun h _ ih => .tup (same_sqT s h) ih) .nil (fun _ _ ih1 ih2 => .cons ih1 ih2) h
theorem It.same {K : PySem.W.Frag} {H H' : Hp} {v : V} {d : PyData} (s : Same H H') (h : It K H v d) : It K H' v d := by
  cases h with
  | dp h n => exact .dp (Dp.same' s h) n
  | d0 h => exact .d0 (s _ _ h)
  | d1 h => exact .d1 (s _ _ h)
theorem ItsS.same {K : PySem.W.Frag} {H H' : Hp} (s : Same H H') : ∀ {vs : List V} {ds : List PyData}, ItsS K H vs ds → ItsS K H' vs ds
  | _, _, .nil => .nil
  | _, _, .cons h sh r => .cons (h.same s) sh (r.same s)
/-- v is shown as d -/
inductive Sw (K : PySem.W.Frag) (H : Hp) : V → PyData → Prop
  | it {v : V} {d : PyData} (h : It K H v d) (sh : Short d) : Sw K H v d
  | lst {a : Addr} {v : V} {vs : List V} {ds : List PyData} (h : SqL K H a (v :: vs)) (r : ItsS K H (v :: vs) ds) (sh : Short (.list ds)) : Sw K H (.ref a) (.list ds)
  | tup {a : Addr} {v : V} {vs : List V} {ds : List PyData} (h : SqT K H a (v :: vs)) (r : ItsS K H (v :: vs) ds) (sh : Short (.tuple ds)) : Sw K H (.ref a) (.tuple ds)
theorem Sw.same {K : PySem.W.Frag} {H H' : Hp} {v : V} {d : PyData} (s : Same H H') (h : Sw K H v d) : Sw K H' v d := by
  cases h with
  | it h sh => exact .it (h.same s) sh
  | lst h r sh => exact .lst (Same.seq s h) (r.same s) sh
  | tup h r sh => exact .tup (same_sqT s h) (r.same s) sh
def rRepr3 (K : PySem.W.Frag) : List V → Hp → VK → Prop := fun xs H Q => ∃ (v : V) (d : PyData), xs = [v] ∧ Sw K H v d ∧ Q (.str d.shown) H
section
variable {X : Cx}
theorem all_k {pins : List (Addr × Obj)} {σ : L2.St} {H : Hp} {s : Shared} (I : Inv X pins σ H s) : ∀ {vs : List V} {ds : List PyData} {us : List Value}, ItsS X.K H vs ds → Vals vs us →
    ∃ as bs, ReadsAll s.heap us ds as ∧ ReadAtMost s.heap (PyData.depthAll ds) bs ∧ ReprAllK X.prog X.w bs s.heap (PyData.depthAll ds) us (PyData.shownAll ds)
  | _, _, _, .nil, .nil => ⟨[], [], .nil, (fun _ h => nomatch h), by simp only [PyData.shownAll]; exact .nil⟩
  | _, _, _, .cons h ⟨a1, _, a3⟩ r, .cons r1 r2 => by
    obtain ⟨as1, rd1, n1⟩ := It.rd I h r1
    obtain ⟨b1, hb1, k1⟩ := ReprK.of_reads (prog := X.prog) (w := X.w) rd1 a1 n1 (Nat.le_trans a3 lineOk)
    obtain ⟨as2, b2, rd2, hb2, k2⟩ := all_k I r r2
    refine ⟨_, b1 ++ b2, .cons rd1 rd2, ?_, ?_⟩
    · intro b hm
      simp only [PyData.depthAll]
      rcases List.mem_append.mp hm with hm | hm
      · obtain ⟨d', as', r', hd'⟩ := hb1 b hm
        exact ⟨d', as', r', Nat.le_trans hd' (Nat.le_max_left _ _)⟩
      · obtain ⟨d', as', r', hd'⟩ := hb2 b hm
        exact ⟨d', as', r', Nat.le_trans hd' (Nat.le_max_right _ _)⟩
    · simp only [PyData.depthAll, PyData.shownAll]
      exact .cons ((k1.more fun b hb => List.mem_append_left _ hb).level_le (Nat.le_max_left _ _)) (k2.more_le (fun b hb => List.mem_append_right _ hb) (Nat.le_max_right _ _))
theorem call_repr3 (K : PySem.W.Frag) (hg : X.A.guards = some []) (hu : X.A.units + 64 < cLine) (eK : X.K = K := by rfl) : CallR X (.builtin "repr") (rRepr3 K) := by
  subst eK
  intro pins s σ H xs us Q I r h
  obtain ⟨v, d, rfl, hw, q⟩ := h
  cases hw with
  | it h sh => exact call_repr hg hu pins s σ H _ us Q I r ⟨v, d, rfl, h, sh, q⟩
  | @lst a v vs ds h r2 sh =>
    obtain ⟨u, rfl, ru⟩ := vals1 r
    cases ru
    obtain ⟨its, rv, ⟨o, n, ho, hc, _, hd⟩, _⟩ := I.list h
    obtain ⟨as, bs, rd, hb, hk⟩ := all_k I r2 rv
    have hdp : PyData.depthAll ds ≤ 20 := by have := sh.dp; simp only [PyData.depth] at this; omega
    have hsz : (listText (PyData.shownAll ds)).length ≤ sizeLine := by
      have := sh.ln
      simp only [PyData.shown] at this
      exact Nat.le_trans this lineOk
    have rl : Reads s.heap (.ref a) (.list ds) _ := Reads.list ho hc hd (by simpa using rd)
    have hna : a ∉ bs := not_mem_of_deeper rl (by simp only [PyData.depth]; omega) hb
    cases rv with
    | @cons _ u1 _ us1 q1 q2 =>
      refine call_repr_slot (by omega) ⟨o, ho, hc⟩ F.slot_list_repr.toG ?_
      refine call_list_reprK (A := X.A.in1) (as := bs) (d := PyData.depthAll ds) (ts := PyData.shownAll ds) ho hc hd hna (by simpa using hk.length_eq) (fun i y e => hk.item i y (by simpa using e)) hg
        (fun b _ => Clear.nil b) (by show X.A.units + 1 + _ < cLine; omega) (fun _ _ z => z) (fun h' t tk hk => ⟨_, _, rfl, ⟨.str _, H, I.kept (t' := tk) hk, ⟨t, by simp only [PyData.shown]⟩, q⟩⟩) hsz
  | @tup a v vs ds h r2 sh =>
    obtain ⟨u, rfl, ru⟩ := vals1 r
    cases ru
    obtain ⟨its, rv, p, _⟩ := I.tuple h
    obtain ⟨o, ho, hc, n, hd⟩ := (show s.heap.IsTuple a its.toArray from p)
    obtain ⟨as, bs, rd, hb, hk⟩ := all_k I r2 rv
    have hdp : PyData.depthAll ds ≤ 20 := by have := sh.dp; simp only [PyData.depth] at this; omega
    have hsz : (tupleText (PyData.shownAll ds)).length ≤ sizeLine := by
      have := sh.ln
      simp only [PyData.shown] at this
      exact Nat.le_trans this lineOk
    have rl : Reads s.heap (.ref a) (.tuple ds) _ := Reads.tuple ho hc hd (by simpa using rd)
    have hna : a ∉ bs := not_mem_of_deeper rl (by simp only [PyData.depth]; omega) hb
    refine call_repr_slot (by omega) ⟨o, ho, hc⟩ F.slot_tuple_repr ?_
    refine call_tuple_reprK (A := X.A.in1) (as := bs) (d := PyData.depthAll ds) (ts := PyData.shownAll ds) ho hc hd hna (by simpa using hk) hg
      (fun b _ => Clear.nil b) (by show X.A.units + 1 + _ < cLine; omega) (fun _ _ z => z) (fun h' t tk hk => ⟨_, _, rfl, ⟨.str _, H, I.kept (t' := tk) hk, ⟨t, by simp only [PyData.shown]⟩, q⟩⟩) hsz
/-- t * 1 is t -/
theorem tuple_mul1 (l : Addr) (items : Array Value) (n : Nat) (dd : Option Addr) (sl : Array (Option Value)) (u : Tok) :
    Meets (Builtin.«tuple.__mul__» ⟨[.ref l, .int 1 u], []⟩) (fun _ R s => s.heap.get? l = some { cls := .type "tuple", dict := dd, data := .seq items n, slots := sl } ∧
      R (.ok (.ret (Value.ref l))) s) :=
  .of_wp fun prog w A R s h => by
    obtain ⟨hp, g, d, tk, os⟩ := s
    obtain ⟨hl, h⟩ := h
    have f1 := AutoSeq1.idx_int
    wp_walk using wpAny_loadPart' hl
    repeat (first
      | (refine wpAny_ite_true (by simp) ?_; wp_walk using wpAny_loadPart' hl)
      | (refine wpAny_ite_false (by simp) ?_; wp_walk using wpAny_loadPart' hl))
    exact ⟨_, rfl, h⟩
def rRepB (K : PySem.W.Frag) : R2 := fun x y H Q => ∃ l k xs, x = .ref l ∧ y = .int k ∧ SqT K H l xs ∧ xs ≠ [] ∧ 1 ≤ k ∧ k ≤ 1000 ∧ xs.length ≤ 1000 ∧ (k = 1 → Q (.ref l) H) ∧ (k ≠ 1 → ∀ p, H p = none → Q (.ref p) (upd H p (.tup (List.replicate k.toNat xs).flatten)))
theorem op_repB (K : PySem.W.Frag) (eK : X.K = K := by rfl) : OpR X (binaryOp .Mult) (rRepB K) := by
  subst eK
  intro pins s σ H x y v u Q I rx ry h
  obtain ⟨l, k, xs, rfl, rfl, hT, hne, h1, h2, hz, q1, q2⟩ := h
  by_cases hk : k = 1
  · subst hk
    cases rx
    obtain ⟨t, rfl⟩ := ry
    obtain ⟨its, r, ⟨⟨cls, dd, data, sl⟩, ho, hc, n, hd⟩, hs⟩ := I.tuple hT
    simp only at hc hd
    subst hc hd
    refine wpAny_binaryOp_repeat_ref (T := "tuple") (U := "int") (by decide) ⟨_, ho, rfl⟩ (fun s' => typeIs_int s' 1 t) noFill_tuple_mul F.fills_int_mul F.slot_int_rmul repeat_tuple F.slot_int_index.lookup
      (call_meets F.slot_int_rmul (typeIs_int s 1 t) F.entry_int_rmul (F.args_int_rmul_2 _ _) (int_rmul_tuple 1 t l its.toArray n dd sl)
        ⟨ho, rfl, ⟨_, ho, rfl⟩, call_meets F.slot_tuple_mul ⟨_, ho, rfl⟩ F.entry_tuple_mul (F.args_tuple_mul_2 _ _) (tuple_mul1 l its.toArray n dd sl t) ⟨ho, ?_⟩⟩)
    exact ⟨.ref l, H, I, rfl, q1 rfl⟩
  · exact op_repT pins s σ H _ _ v u Q I rx ry ⟨l, k, xs, rfl, rfl, hT, hne, by omega, h2, hz, q2 hk⟩
end
end K0


set_option Elab.async false
set_option linter.all false
set_option maxRecDepth 100000
set_option maxHeartbeats 8000000
set_option exponentiation.threshold 100000
namespace K0
open PySem PySem.Spec PyProof.Rows L2 RZ K0z K3

structure ShN (B k : Nat) (d : PyData) : Prop where
  sh : d.showable = true
  dp : d.depth ≤ k
  ln : d.shown.length ≤ B
theorem ShN.short {B k : Nat} {d : PyData} (h : ShN B k d) (hB : B ≤ 1000000) (hk : k ≤ 20) : Short d := ⟨h.sh, Nat.le_trans h.dp hk, Nat.le_trans h.ln hB⟩
theorem ShN.more {B B' k k' : Nat} {d : PyData} (h : ShN B k d) (hB : B ≤ B') (hk : k ≤ k') : ShN B' k' d := ⟨h.sh, Nat.le_trans h.dp hk, Nat.le_trans h.ln hB⟩
theorem shN_none : ShN 100 0 .none := ⟨rfl, by decide, by simp only [PyData.shown]; decide⟩
theorem shN_bool (b : Bool) : ShN 100 0 (.bool b) := ⟨rfl, by simp [PyData.depth], by simp only [PyData.shown]; cases b <;> decide⟩
theorem shN_d0 : ShN 100 1 (.dict []) := ⟨rfl, by decide, by simp only [PyData.shown, PyData.shownKv]; decide⟩
theorem int_shown_len {n : Int} (h : n.natAbs < 10 ^ 60) : (PyData.int n).shown.length ≤ 61 := by
  have e := int_text_length_le10 (k := 60) (by decide) h
  simp only [PyData.shown]
  rw [PySem.ofString_length]
  omega
theorem lt60 {n : Int} (h : n.natAbs < 2 ^ 85) : n.natAbs < 10 ^ 60 := Nat.lt_trans h (by decide)
theorem shN_int {n : Int} (h : n.natAbs < 2 ^ 85) : ShN 100 0 (.int n) := by
  have h2 : n.natAbs.log2 < 1920 := by
    have e := PySem.Flt.log2_lt_of (by decide : 0 < 85) h
    omega
  exact ⟨by simpa [PyData.showable] using h2, by simp [PyData.depth], Nat.le_trans (int_shown_len (lt60 h)) (by decide)⟩
theorem shN_list {ds : List PyData} {B k n : Nat} (hn : ds.length ≤ n) (h : ∀ d ∈ ds, ShN B k d) : ShN (n * (B + 2) + 3) (k + 1) (.list ds) ∧ ShN (n * (B + 2) + 3) (k + 1) (.tuple ds) := by
  have a1 : PyData.showableAll ds = true := by
    clear hn
    induction ds with
    | nil => rfl
    | cons d ds ih =>
      simp only [PyData.showableAll, Bool.and_eq_true]
      exact ⟨(h d List.mem_cons_self).sh, ih fun d hd => h d (List.mem_cons_of_mem _ hd)⟩
  have a2 : PyData.depthAll ds ≤ k := by
    clear hn a1
    induction ds with
    | nil => exact Nat.zero_le _
    | cons d ds ih =>
      simp only [PyData.depthAll]
      exact Nat.max_le.mpr ⟨(h d List.mem_cons_self).dp, ih fun d hd => h d (List.mem_cons_of_mem _ hd)⟩
  have a3 : ((PyData.shownAll ds).map (·.length)).sum + 2 * (PyData.shownAll ds).length ≤ ds.length * (B + 2) := by
    clear hn a1 a2
    induction ds with
    | nil => simp [PyData.shownAll]
    | cons d ds ih =>
      have := ih fun d hd => h d (List.mem_cons_of_mem _ hd)
      have := (h d List.mem_cons_self).ln
      simp only [PyData.shownAll, List.map_cons, List.sum_cons, List.length_cons, Nat.succ_mul]
      omega
  have a4 : ds.length * (B + 2) ≤ n * (B + 2) := Nat.mul_le_mul_right _ hn
  have l1 := listText_len_le (PyData.shownAll ds)
  have l2 := tupleText_len_le (PyData.shownAll ds)
  exact ⟨⟨by simpa only [PyData.showable] using a1, by simp only [PyData.depth]; omega, by simp only [PyData.shown]; omega⟩, ⟨by simpa only [PyData.showable] using a1, by simp only [PyData.depth]; omega, by simp only [PyData.shown]; omega⟩⟩
section
variable {K : PySem.W.Frag} {H H' : Hp}
def Cell (K : PySem.W.Frag) (H : Hp) (y : V) : Prop := ∃ d q, Asks K H y q ∧ Dp K H y d ∧ d.hasDict = false ∧ ShN 100 1 d ∧ ∀ n, y = .int n → n.natAbs < 2 ^ 85
theorem Cell.same (s : Same H H') {y : V} (h : Cell K H y) : Cell K H' y := by
  obtain ⟨d, q, a, b, c⟩ := h
  exact ⟨d, q, a.same s, Dp.same' s b, c⟩
theorem Cell.int {n : Int} (h : n.natAbs < 2 ^ 85) : Cell K H (.int n) := ⟨.int n, false, .int n, .int n, rfl, (shN_int h).more (Nat.le_refl _) (by decide), fun m e => by cases e; exact h⟩
theorem Cell.bl (b : Bool) : Cell K H (.bl b) := ⟨.bool b, false, .bl b, .bl b, rfl, (shN_bool b).more (Nat.le_refl _) (by decide), fun m e => by cases e⟩
theorem Cell.non : Cell K H .non := ⟨.none, false, .non, .non, rfl, shN_none.more (Nat.le_refl _) (by decide), fun m e => by cases e⟩
def Row (K : PySem.W.Frag) (H : Hp) (u : V) (o : Option (List V)) : Prop := ∃ d, Seqs K H u o ∧ Items K H o ∧ It K H u d ∧ ShN 3000 2 d ∧ ∀ xs, o = some xs → ∀ n, V.int n ∈ xs → n.natAbs < 2 ^ 85
theorem Row.same (s : Same H H') {u : V} {o : Option (List V)} (h : Row K H u o) : Row K H' u o := by
  obtain ⟨d, a, b, c, e⟩ := h
  exact ⟨d, a.same s, b.same s, c.same s, e⟩
theorem cells_data : ∀ {ys : List V}, (∀ y ∈ ys, Cell K H y) → ∃ ds, DpAll K H ys ds ∧ PyData.hasDictAll ds = false ∧ ds.length = ys.length ∧ ∀ d ∈ ds, ShN 100 1 d
  | [], _ => ⟨[], .nil, rfl, rfl, fun _ h => absurd h List.not_mem_nil⟩
  | y :: ys, h => by
    obtain ⟨d, q, _, h1, h2, h3, _⟩ := h y List.mem_cons_self
    obtain ⟨ds, k1, k2, k3, k4⟩ := cells_data fun y hy => h y (List.mem_cons_of_mem _ hy)
    refine ⟨d :: ds, .cons h1 k1, by simp only [PyData.hasDictAll, h2, k2, Bool.or_false], by rw [List.length_cons, List.length_cons, k3], fun d' hd' => ?_⟩
    rcases List.mem_cons.mp hd' with e | m
    · rw [e]; exact h3
    · exact k4 d' m
theorem row_lst {q : Addr} {ys : List V} (hq : H q = some (.lst ys)) (hl : ys.length ≤ 25) (h : ∀ y ∈ ys, Cell K H y) : Row K H (.ref q) (some ys) := by
  obtain ⟨ds, k1, k2, k3, k4⟩ := cells_data h
  refine ⟨.list ds, ⟨.lst hq, Nat.lt_of_le_of_lt hl (by decide), q, rfl, .inl (.of hq)⟩, fun xs e x hx => ?_, .dp (.lst (.of hq) k1) (by simp only [PyData.hasDict, k2]), (shN_list (n := 25) (by omega) k4).1.more (by decide) (by decide), fun xs e n hn => ?_⟩
  · cases e
    obtain ⟨d, q, a, _⟩ := h x hx
    exact ⟨q, a⟩
  · cases e
    obtain ⟨_, _, _, _, _, _, z⟩ := h _ hn
    exact z n rfl
theorem row_tup {q : Addr} {ys : List V} (hq : H q = some (.tup ys)) (hl : ys.length ≤ 25) (h : ∀ y ∈ ys, Cell K H y) : Row K H (.ref q) (some ys) := by
  obtain ⟨ds, k1, k2, k3, k4⟩ := cells_data h
  refine ⟨.tuple ds, ⟨.tup hq, Nat.lt_of_le_of_lt hl (by decide), q, rfl, .inr (.of hq)⟩, fun xs e x hx => ?_, .dp (.tup (.of hq) k1) (by simp only [PyData.hasDict, k2]), (shN_list (n := 25) (by omega) k4).2.more (by decide) (by decide), fun xs e n hn => ?_⟩
  · cases e
    obtain ⟨d, q, a, _⟩ := h x hx
    exact ⟨q, a⟩
  · cases e
    obtain ⟨_, _, _, _, _, _, z⟩ := h _ hn
    exact z n rfl
theorem row_flat {u : V} {d : PyData} (a : Asks K H u false) (h : Dp K H u d) (hd : d.hasDict = false) (s : ShN 100 1 d) : Row K H u none :=
  ⟨d, a, fun xs e => (by cases e), .dp h hd, s.more (by decide) (by decide), fun xs e => (by cases e)⟩
theorem row_dict {p : Addr} (h : H p = some (.dK [])) : Row K H (.ref p) none :=
  ⟨_, Asks.dict h, fun xs e => (by cases e), .d0 h, shN_d0.more (by decide) (by decide), fun xs e => (by cases e)⟩
def Rows3 (K : PySem.W.Frag) (H : Hp) (us : List V) (os : List (Option (List V))) : Prop := us.length = os.length ∧ ∀ (i : Nat) (u : V) (o : Option (List V)), us[i]? = some u → os[i]? = some o → Row K H u o
theorem Rows3.same (s : Same H H') {us : List V} {os : List (Option (List V))} (h : Rows3 K H us os) : Rows3 K H' us os := ⟨h.1, fun i u o a b => (h.2 i u o a b).same s⟩
theorem rows_data : ∀ {us : List V} {os : List (Option (List V))}, Rows3 K H us os → ∃ ds, ItsS K H us ds ∧ ds.length = us.length ∧ ∀ d ∈ ds, ShN 3000 2 d
  | [], _, _ => ⟨[], .nil, rfl, fun _ h => absurd h List.not_mem_nil⟩
  | u :: us, [], h => absurd h.1 (by simp)
  | u :: us, o :: os, h => by
    obtain ⟨d, _, _, h3, h4, _⟩ := h.2 0 u o rfl rfl
    obtain ⟨ds, k1, k2, k3⟩ := rows_data (us := us) (os := os) ⟨by have := h.1; simpa using this, fun i u' o' a b => h.2 (i + 1) u' o' a b⟩
    refine ⟨d :: ds, .cons h3 (h4.short (by decide) (by decide)) k1, by rw [List.length_cons, List.length_cons, k2], fun d' hd' => ?_⟩
    rcases List.mem_cons.mp hd' with e | m
    · rw [e]; exact h4
    · exact k3 d' m
def Small9 (vo : Option (List (Option (List V)))) : Prop := ∀ M, vo = some (mat M) → ∀ r ∈ M, ∀ b ∈ r, b.natAbs < 2 ^ 85
theorem Small9.small {vo : Option (List (Option (List V)))} (h : Small9 vo) : Small vo := fun M e r hr b hb => Nat.lt_trans (h M e r hr b hb) (by decide)
theorem rows_small {us : List V} {os : List (Option (List V))} (h : Rows3 K H us os) : Small9 (some os) := by
  intro M e r hr b hb
  cases e
  obtain ⟨i, hi⟩ := List.mem_iff_getElem?.mp hr
  have h2 : (mat M)[i]? = some (some (r.map V.int)) := by
    unfold mat
    rw [List.getElem?_map, hi]
    rfl
  have hil : i < us.length := by rw [h.1]; exact (List.getElem?_eq_some_iff.mp h2).1
  obtain ⟨_, _, _, _, _, z⟩ := h.2 i _ _ (List.getElem?_eq_getElem hil) h2
  exact z _ rfl b (List.mem_map.mpr ⟨b, hb, rfl⟩)
/-- what the law bends: a value, how it reads, how it is shown -/
def Bnt (K : PySem.W.Frag) (H : Hp) (v : V) : Prop := ∃ vo d, ValAt K H v vo ∧ Small9 vo ∧ Sw K H v d
theorem bnt_lst {a : Addr} {us : List V} {os : List (Option (List V))} (ha : H a = some (.lst us)) (hne : us ≠ []) (hl : us.length ≤ 20) (h : Rows3 K H us os) : Bnt K H (.ref a) := by
  obtain ⟨ds, k1, k2, k3⟩ := rows_data h
  refine ⟨some os, .list ds, ⟨us, ⟨.lst ha, Nat.lt_of_le_of_lt hl (by decide), a, rfl, .inl (.of ha)⟩, h.1, fun i u o e1 e2 => ?_⟩, rows_small h, ?_⟩
  · obtain ⟨_, z1, z2, _⟩ := h.2 i u o e1 e2
    exact ⟨z1, z2⟩
  · cases us with
    | nil => exact absurd rfl hne
    | cons u us => exact .lst (.of ha) k1 ((shN_list (n := 20) (by omega) k3).1.short (by decide) (by decide))
theorem bnt_tup {a : Addr} {us : List V} {os : List (Option (List V))} (ha : H a = some (.tup us)) (hne : us ≠ []) (hl : us.length ≤ 20) (h : Rows3 K H us os) : Bnt K H (.ref a) := by
  obtain ⟨ds, k1, k2, k3⟩ := rows_data h
  refine ⟨some os, .tuple ds, ⟨us, ⟨.tup ha, Nat.lt_of_le_of_lt hl (by decide), a, rfl, .inr (.of ha)⟩, h.1, fun i u o e1 e2 => ?_⟩, rows_small h, ?_⟩
  · obtain ⟨_, z1, z2, _⟩ := h.2 i u o e1 e2
    exact ⟨z1, z2⟩
  · cases us with
    | nil => exact absurd rfl hne
    | cons u us => exact .tup (.of ha) k1 ((shN_list (n := 20) (by omega) k3).2.short (by decide) (by decide))
theorem bnt_flat {u : V} {d : PyData} (a : Asks K H u false) (h : Dp K H u d) (hd : d.hasDict = false) (s : ShN 100 1 d) : Bnt K H u :=
  ⟨none, d, a, fun M e => (by cases e), .it (.dp h hd) (s.short (by decide) (by decide))⟩
theorem bnt_dict {p : Addr} (h : H p = some (.dK [])) : Bnt K H (.ref p) := ⟨none, _, Asks.dict h, fun M e => (by cases e), .it (.d0 h) (shN_d0.short (by decide) (by decide))⟩
theorem bnt_nilL {p : Addr} (h : H p = some (.lst [])) : Bnt K H (.ref p) := ⟨some [], .list [], ⟨[], ⟨.lst h, by decide, p, rfl, .inl (.of h)⟩, rfl, fun i u o e => (by cases e)⟩, rows_small (K := K) (H := H) (us := []) ⟨rfl, fun i u o e => (by cases e)⟩,
  .it (.dp (.lst (.of h) .nil) rfl) ((shN_list (n := 0) (B := 0) (k := 0) (Nat.le_refl _) fun _ h => absurd h List.not_mem_nil).1.short (by decide) (by decide))⟩
theorem bnt_nilT {p : Addr} (h : H p = some (.tup [])) : Bnt K H (.ref p) := ⟨some [], .tuple [], ⟨[], ⟨.tup h, by decide, p, rfl, .inr (.of h)⟩, rfl, fun i u o e => (by cases e)⟩, rows_small (K := K) (H := H) (us := []) ⟨rfl, fun i u o e => (by cases e)⟩,
  .it (.dp (.tup (.of h) .nil) rfl) ((shN_list (n := 0) (B := 0) (k := 0) (Nat.le_refl _) fun _ h => absurd h List.not_mem_nil).2.short (by decide) (by decide))⟩
theorem shN_str {s : String} (h : (Str.ofString s).length ≤ 4) : ShN 100 1 (.str (Str.ofString s)) := by
  refine ⟨rfl, by simp [PyData.depth], ?_⟩
  have cl : ∀ c ∈ (Str.ofString s).cps.toList, c < 16 ^ 8 := by
    intro c hc
    rw [PyProof.Rows.signs_ofString] at hc
    obtain ⟨ch, _, rfl⟩ := List.mem_map.mp hc
    have h := ch.valid
    unfold UInt32.isValidChar Nat.isValidChar at h
    show ch.val.toNat < _
    omega
  have e := PySem.StrLaws.reprText_len (Str.ofString s) cl
  simp only [PyData.shown]
  omega
theorem Cell.str {s : String} (h : (Str.ofString s).length ≤ 4) : Cell K H (.str (Str.ofString s)) := ⟨_, false, .str _, .str _, rfl, shN_str h, fun m e => by cases e⟩
theorem Cell.lst {p : Addr} {ys : List V} (hp : H p = some (.lst ys)) (hl : ys.length ≤ 1) (h : ∀ y ∈ ys, ∃ n : Int, y = .int n ∧ n.natAbs < 10) : Cell K H (.ref p) := by
  have : ∃ ds, DpAll K H ys ds ∧ PyData.hasDictAll ds = false ∧ ds.length = ys.length ∧ ∀ d ∈ ds, ShN 61 0 d := by
    clear hp
    induction ys with
    | nil => exact ⟨[], .nil, rfl, rfl, fun _ h => absurd h List.not_mem_nil⟩
    | cons y ys ih =>
      obtain ⟨n, rfl, hn⟩ := h y List.mem_cons_self
      obtain ⟨ds, k1, k2, k3, k4⟩ := ih (by have : ys.length + 1 ≤ 1 := hl; omega) fun y hy => h y (List.mem_cons_of_mem _ hy)
      refine ⟨.int n :: ds, .cons (.int n) k1, by simp only [PyData.hasDictAll, PyData.hasDict, k2, Bool.or_false], by rw [List.length_cons, List.length_cons, k3], fun d' hd' => ?_⟩
      rcases List.mem_cons.mp hd' with e | m
      · rw [e]
        have hn' : n.natAbs < 2 ^ 85 := Nat.lt_trans hn (by decide)
        exact ⟨(shN_int hn').sh, (shN_int hn').dp, int_shown_len (lt60 hn')⟩
      · exact k4 d' m
  obtain ⟨ds, k1, k2, k3, k4⟩ := this
  exact ⟨.list ds, true, .lst hp, .lst (.of hp) k1, by simp only [PyData.hasDict, k2], (shN_list (n := 1) (by omega) k4).1.more (by decide) (by decide), fun m e => by cases e⟩
theorem Cell.nilT {p : Addr} (hp : H p = some (.tup [])) : Cell K H (.ref p) := ⟨.tuple [], true, .tup hp, .tup (.of hp) .nil, rfl, (shN_list (n := 0) (B := 0) (k := 0) (Nat.le_refl _) fun _ h => absurd h List.not_mem_nil).2.more (by decide) (by decide), fun m e => by cases e⟩
end
end K0


set_option Elab.async false
set_option linter.all false
set_option maxRecDepth 100000
set_option maxHeartbeats 8000000
set_option exponentiation.threshold 100000
namespace K0
open PySem PySem.Spec PyProof.Rows L2 RZ K0z K3

def isTbl : HO → Bool
  | .tbl _ => true
  | _ => false
/-- without what is at c, without tables of code -/
def OffT (c : Addr) (H : Hp) : Hp := fun b => if b = c then none else (H b).filter fun o => !isTbl o
theorem offT_iff {c b : Addr} {H : Hp} {o : HO} : OffT c H b = some o ↔ b ≠ c ∧ H b = some o ∧ isTbl o = false := by
  unfold OffT
  by_cases h : b = c
  · simp [h]
  · rw [if_neg h, Option.filter_eq_some_iff]
    simp [h]
theorem offT1 {c b : Addr} {H : Hp} {o : HO} (h : H b = some o) (n : b ≠ c) (t : isTbl o = false := by rfl) : OffT c H b = some o := offT_iff.mpr ⟨n, h, t⟩
theorem sameT {c : Addr} {H H' : Hp} (s : SameBut c H H') : Same (OffT c H) (OffT c H') := fun b o e => by
  obtain ⟨n, h, t⟩ := offT_iff.mp e
  exact offT1 (s b o n h) n t
theorem upT {c : Addr} {H H' : Hp} (s : ∀ b o, b ≠ c → H b = some o → isTbl o = false → H' b = some o) : Same (OffT c H) H' := fun b o e => by
  obtain ⟨n, h, t⟩ := offT_iff.mp e
  exact s b o n h t
abbrev scT5 : Scope := { kind := ScopeKind.function, names := [((".0" : Str), NameKind.local), (("turn" : Str), NameKind.cell), (("at" : Str), NameKind.cell), (("found" : Str), NameKind.cell)], isGenerator := false, isCoroutine := false }
abbrev scT6 : Scope := { kind := ScopeKind.function, names := [((".0" : Str), NameKind.local), (("row" : Str), NameKind.cell), (("range" : Str), NameKind.globalImplicit), (("len" : Str), NameKind.globalImplicit), (("more" : Str), NameKind.cell)], isGenerator := false, isCoroutine := false }
section
variable {P : Program} {w : World} {K : PySem.W.Frag} {mg : Str → Option Value} {base : Heap} {f g g2 g3 g4 : Addr} {fd : FuncData}
def spBent (K : PySem.W.Frag) : Sp := fun vs H Q _ => ∃ (c d : Addr) (ns : List Int) (m : Nat) (a : Addr) (us : List V) (M : List Vec) (wd : Nat), vs = [.ref c, .ref a] ∧ Coil H c d ns m ∧ m ≤ 90000 ∧ a ≠ c ∧ H a = some (.lst us) ∧ Rws H c a us M ∧
  1 ≤ M.length ∧ M.length ≤ 16 ∧ (∀ x ∈ M, x.length = wd) ∧ 1 ≤ wd ∧ wd ≤ 8 ∧ (∀ x ∈ M, ∀ b ∈ x, b.natAbs ≤ 2 ^ 75) ∧
  ∀ (v : V) (H' : Hp), Bnt K (OffT c H') v → Coil H' c d ns (m + 10) → SameBut c H H' → Q v H'
theorem sc_bent : FnScope ["purse", "rows", "way", "at", "found", "row", "spot", "more", "number", "turn"] ["purse", "rows"] (defScope st__law_bent) := ⟨rfl, rfl, rfl, by decide +kernel, rfl, by decide +kernel, by decide +kernel⟩
/-- a row of any kind -/
def RwX (K : PySem.W.Frag) (H : Hp) (u : V) : Prop := ∃ o, Row K H u o
theorem RwX.same {H H' : Hp} (s : Same H H') {u : V} (h : RwX K H u) : RwX K H' u := let ⟨o, z⟩ := h; ⟨o, z.same s⟩
theorem rows3_of {H : Hp} {us : List V} (h : ∀ u ∈ us, RwX K H u) : ∃ os, Rows3 K H us os := by
  induction us with
  | nil => exact ⟨[], rfl, fun i u o e => by cases e⟩
  | cons u us ih =>
    obtain ⟨o, ho⟩ := h u List.mem_cons_self
    obtain ⟨os, hl, hz⟩ := ih fun u hu => h u (List.mem_cons_of_mem _ hu)
    refine ⟨o :: os, by rw [List.length_cons, List.length_cons, hl], fun i u' o' e1 e2 => ?_⟩
    cases i with
    | zero => cases e1; cases e2; exact ho
    | succ i => exact hz i u' o' e1 e2
theorem bnt_l {H : Hp} {a : Addr} {us : List V} (ha : H a = some (.lst us)) (hne : us ≠ []) (hl : us.length ≤ 20) (h : ∀ u ∈ us, RwX K H u) : Bnt K H (.ref a) := let ⟨_, z⟩ := rows3_of h; bnt_lst ha hne hl z
theorem bnt_t {H : Hp} {a : Addr} {us : List V} (ha : H a = some (.tup us)) (hne : us ≠ []) (hl : us.length ≤ 20) (h : ∀ u ∈ us, RwX K H u) : Bnt K H (.ref a) := let ⟨_, z⟩ := rows3_of h; bnt_tup ha hne hl z
theorem rx_ints {H : Hp} {q : Addr} {x : Vec} (hq : H q = some (.lst (x.map V.int))) (hl : x.length ≤ 25) (hb : ∀ b ∈ x, b.natAbs < 2 ^ 85) : RwX K H (.ref q) := by
  refine ⟨_, row_lst hq (by rw [List.length_map]; exact hl) fun y hy => ?_⟩
  obtain ⟨b, hm, rfl⟩ := List.mem_map.mp hy
  exact .int (hb b hm)
theorem Bnt.same {H H' : Hp} {v : V} (s : Same H H') (h : Bnt K H v) : Bnt K H' v := by
  obtain ⟨vo, d, a, b, e⟩ := h
  exact ⟨vo, d, a.same s, b, e.same s⟩
/-- the copied rows -/
def Fnd (H0 H : Hp) (c D : Addr) (us : List V) (M : List Vec) : Prop := H0 D = none ∧ D ≠ c ∧ H D = some (.lst us) ∧ us.length = M.length ∧ ∀ (i : Nat) (u : V), us[i]? = some u → ∃ q x, u = .ref q ∧ M[i]? = some x ∧ q ≠ D ∧ q ≠ c ∧ H0 q = none ∧ H q = some (.lst (x.map V.int))
theorem Fnd.mono {H0 H H' : Hp} {c D : Addr} {us : List V} {M : List Vec} (h : Fnd H0 H c D us M) (s : SameBut c H H') : Fnd H0 H' c D us M := by
  obtain ⟨a1, a2, a3, a4, a5⟩ := h
  exact ⟨a1, a2, s _ _ a2 a3, a4, fun i u e => let ⟨q, x, b1, b2, b3, b4, b5, b6⟩ := a5 i u e; ⟨q, x, b1, b2, b3, b4, b5, s _ _ b4 b6⟩⟩
theorem Fnd.rx {H0 H : Hp} {c D : Addr} {us : List V} {M : List Vec} (h : Fnd H0 H c D us M) (hw : ∀ x ∈ M, 1 ≤ x.length ∧ x.length ≤ 8) (hb : ∀ x ∈ M, ∀ b ∈ x, b.natAbs ≤ 2 ^ 75) : ∀ u ∈ us, RwX K (OffT c H) u := fun u hu => by
  obtain ⟨i, hi⟩ := List.mem_iff_getElem?.mp hu
  obtain ⟨q, x, rfl, b2, _, b4, _, b6⟩ := h.2.2.2.2 i u hi
  have hm := List.mem_of_getElem? b2
  exact rx_ints (offT1 b6 b4) (by have := (hw x hm).2; omega) fun b hb' => Nat.lt_of_le_of_lt (hb x hm b hb') (by decide)
theorem Fnd.get {H0 H : Hp} {c D : Addr} {us : List V} {M : List Vec} (h : Fnd H0 H c D us M) {i : Nat} (hi : i < M.length) : ∃ q, us[i]? = some (.ref q) ∧ q ≠ D ∧ q ≠ c ∧ H0 q = none ∧ H q = some (.lst ((M[i]'hi).map V.int)) := by
  have hl : i < us.length := by rw [h.2.2.2.1]; exact hi
  obtain ⟨q, x, e, b2, b3, b4, b5, b6⟩ := h.2.2.2.2 i _ (List.getElem?_eq_getElem hl)
  rw [List.getElem?_eq_getElem hi] at b2
  cases b2
  exact ⟨q, by rw [List.getElem?_eq_getElem hl, e], b3, b4, b5, b6⟩
theorem off2_put {c q : Addr} {Hb H7 : Hp} {o : HO} (s : SameBut c Hb H7) : Same (Off q (OffT c Hb)) (OffT c (upd H7 q o)) := fun b o' e => by
  by_cases bq : b = q
  · rw [bq, off_self] at e; cases e
  rw [off_ne bq] at e
  obtain ⟨n, h, t⟩ := offT_iff.mp e
  exact offT1 (by rw [upd_ne bq]; exact s _ _ n h) n t
theorem off2 {q c p : Addr} {H : Hp} {o : HO} (h : H p = some o) (n1 : p ≠ q) (n2 : p ≠ c) (t : isTbl o = false := by rfl) : Off q (OffT c H) p = some o := by rw [off_ne n1]; exact offT1 h n2 t
theorem off1 {c p : Addr} {H : Hp} {o : HO} (h : H p = some o) (n2 : p ≠ c) : Off c H p = some o := by rw [off_ne n2]; exact h
theorem SameBut.put {c q : Addr} {H H6 : Hp} {o : HO} (s : SameBut c H H6) (hq : H q = none) : SameBut c H (upd H6 q o) := fun b o' n e => by
  rw [upd_ne (ne_of_none e hq)]
  exact s b o' n e
theorem none_back {c q : Addr} {H H6 : Hp} (s : SameBut c H H6) (n : q ≠ c) (h : H6 q = none) : H q = none := by
  cases e : H q with
  | none => rfl
  | some o => rw [s _ _ n e] at h; cases h
theorem cutV_mem {xs : List V} {lo hi : Option Int} {y : V} (h : y ∈ cutV xs lo hi) : y ∈ xs := List.mem_of_mem_drop (List.mem_of_mem_take h)
theorem rx_cells {H : Hp} {q : Addr} {ys : List V} (hq : H q = some (.lst ys)) (hl : ys.length ≤ 25) (h : ∀ y ∈ ys, Cell K H y) : RwX K H (.ref q) := ⟨_, row_lst hq hl h⟩
theorem rx_tup {H : Hp} {q : Addr} {ys : List V} (hq : H q = some (.tup ys)) (hl : ys.length ≤ 25) (h : ∀ y ∈ ys, Cell K H y) : RwX K H (.ref q) := ⟨_, row_tup hq hl h⟩
theorem rx_flat {H : Hp} {u : V} {d : PyData} (a : Asks K H u false) (h : Dp K H u d) (hd : d.hasDict = false) (s : ShN 100 1 d) : RwX K H u := ⟨_, row_flat a h hd s⟩
theorem rx_non {H : Hp} : RwX K H .non := rx_flat (.non) .non rfl (shN_none.more (Nat.le_refl _) (by decide))
theorem rx_int {H : Hp} {n : Int} (h : n.natAbs < 2 ^ 85) : RwX K H (.int n) := rx_flat (.int n) (.int n) rfl ((shN_int h).more (Nat.le_refl _) (by decide))
theorem rx_str {H : Hp} {s : String} (h : (Str.ofString s).length ≤ 4) : RwX K H (.str (Str.ofString s)) := rx_flat (.str _) (.str _) rfl (shN_str h)
theorem rx_dict {H : Hp} {p : Addr} (h : H p = some (.dK [])) : RwX K H (.ref p) := ⟨_, row_dict h⟩
theorem int_cells {H : Hp} {x : Vec} (hb : ∀ b ∈ x, b.natAbs ≤ 2 ^ 75) : ∀ y ∈ x.map V.int, Cell K H y := fun y hy => by
  obtain ⟨b, hm, rfl⟩ := List.mem_map.mp hy
  exact .int (Nat.lt_of_le_of_lt (hb b hm) (by decide))
theorem no_cells {H : Hp} : ∀ y ∈ ([] : List V), Cell K H y := fun _ h => absurd h List.not_mem_nil
theorem one_cell {H : Hp} {v : V} (h : Cell K H v) : ∀ y ∈ [v], Cell K H y := fun y hy => by rw [List.mem_singleton.mp hy]; exact h
theorem rep_mem {v y : V} {n : Nat} (h : y ∈ (List.replicate n [v]).flatten) : y = v := by
  obtain ⟨l, hl, hy⟩ := List.mem_flatten.mp h
  rw [List.eq_of_mem_replicate hl] at hy
  exact List.mem_singleton.mp hy
theorem rep_len (v : V) (n : Nat) : (List.replicate n [v]).flatten.length = n := by
  induction n with
  | zero => rfl
  | succ n ih => rw [List.replicate_succ, List.flatten_cons, List.length_append, ih]; simp; omega
theorem fresh1 {H G : Hp} {c d p : Addr} {ns : List Int} {m : Nat} (hC : Coil H c d ns m) (t : Same H G) (hp : G p = none) : p ≠ c := ((hC.but t).ne hp).1
def rRepC (K : PySem.W.Frag) : R2 := fun x y H Q => ∃ l k xs, x = .ref l ∧ y = .int k ∧ H l = some (.tup xs) ∧ xs ≠ [] ∧ 1 ≤ k ∧ k ≤ 1000 ∧ xs.length ≤ 1000 ∧ ∀ p H', Same H H' → p ≠ 0 ∨ True → H' p = some (.tup (List.replicate k.toNat xs).flatten) → (H p = none ∨ p = l) → Q (.ref p) H'
theorem op_repC {X : Cx} (K : PySem.W.Frag) (eK : X.K = K := by rfl) : OpR X (binaryOp .Mult) (rRepC K) := by
  intro pins s σ H x y v u Q I rx ry h
  obtain ⟨l, k, xs, rfl, rfl, hT, hne, h1, h2, hz, q⟩ := h
  refine op_repB K eK pins s σ H _ _ v u Q I rx ry ⟨l, k, xs, rfl, rfl, .of hT, hne, h1, h2, hz, fun e => ?_, fun _ p hp => q p _ (same_upd hp) (.inr trivial) upd_same (.inl hp)⟩
  subst e
  refine q l H (Same.refl H) (.inr trivial) ?_ (.inr rfl)
  rw [hT]
  simp
/-- a row of ints -/
def IRow (c : Addr) (H : Hp) (u : V) : Prop := ∃ q ys, u = .ref q ∧ q ≠ c ∧ H q = some (.lst ys) ∧ ys.length ≤ 25 ∧ ∀ y ∈ ys, ∃ n : Int, y = .int n ∧ n.natAbs < 2 ^ 85
theorem IRow.same {c : Addr} {H H' : Hp} {u : V} (s : Same H H') (h : IRow c H u) : IRow c H' u := by
  obtain ⟨q, ys, a, b, e, f⟩ := h
  exact ⟨q, ys, a, b, s _ _ e, f⟩
theorem IRow.rx {c : Addr} {H : Hp} {u : V} (h : IRow c H u) : RwX K (OffT c H) u := by
  obtain ⟨q, ys, rfl, b, e, l, z⟩ := h
  refine rx_cells (offT1 e b) l fun y hy => ?_
  obtain ⟨n, rfl, hn⟩ := z y hy
  exact .int hn
theorem irow_of {c q : Addr} {H : Hp} {x : Vec} (hq : H q = some (.lst (x.map V.int))) (n : q ≠ c) (hl : x.length ≤ 25) (hb : ∀ b ∈ x, b.natAbs < 2 ^ 85) : IRow c H (.ref q) := by
  refine ⟨q, _, rfl, n, hq, by rw [List.length_map]; exact hl, fun y hy => ?_⟩
  obtain ⟨b, hm, rfl⟩ := List.mem_map.mp hy
  exact ⟨b, rfl, hb b hm⟩
theorem bound100 {a b : Int} (ha : a.natAbs ≤ 2 ^ 75) (hb : b.natAbs ≤ 100) : (a * b).natAbs < 2 ^ 85 := by
  rw [Int.natAbs_mul]
  exact Nat.lt_of_le_of_lt (Nat.mul_le_mul ha hb) (by decide)
/-- one drawn of some, each of which holds p -/
theorem all_get {p : V → Prop} {xs : List V} (h : ∀ y ∈ xs, p y) {i : Nat} {y : V} (e : xs[i]? = some y) : p y := h y (List.mem_of_getElem? e)
theorem ok_bent (F : Fun K "_law_bent" "_law_bent" st__law_bent f fd) (T : Nm mg) (D__law_coin : Dn P w K mg base 1 "_law_coin" g ["purse", "many"] spTurn) (D__law_one_of : Dn P w K mg base 2 "_law_one_of" g2 ["purse", "some"] (spOne K)) : FnOk P w K mg base CX0 3 f fd ["purse", "rows"] (spBent K) := by
  refine F.ok sc_bent (fun vs H Q E h => ?_) (fun cdv A outer s H vs Q E hr h => ?_)
  · obtain ⟨c, d, ns, m, a, us, M, wd, rfl, _⟩ := h
    rfl
  · obtain ⟨c, d, ns, m, a, us0, M, wd, rfl, hC, hm, nac, ha, hRw, h1, h16, hwd, hd1, hd8, hb, k⟩ := h
    have hw : ∀ x ∈ M, 1 ≤ x.length ∧ x.length ≤ 8 := fun x hx => by rw [hwd x hx]; omega
    obtain ⟨t4, h4, fin⟩ : ∃ t4, PSs (cxOf CX0 P w K mg base ["purse", "rows", "way", "at", "found", "row", "spot", "more", "number", "turn"] "_law_bent" (defScope st__law_bent) f cdv A outer s H E).nox ((defBody st__law_bent).drop 3) t4 ∧ ∀ (x7 : Option V) (H2 : Hp) (D : Addr) (zs : List V) (way at' spot : Int), D ≠ c → H2 D = some (.lst zs) → zs ≠ [] → zs.length ≤ 20 → (∀ u ∈ zs, RwX K (OffT c H2) u) → Coil H2 c d ns (m + 9) → SameBut c H H2 →
        t4 { nx := fun _ H' => Q .non H', rt := Q } [some (.ref c), some (.ref a), some (.int way), some (.int at'), some (.ref D), none, some (.int spot), x7, none, none] H2 := by
      refine ⟨_, (pss_one (ps_ret (pe_ifExp (pt_cmpR op_eq (pe_dn D__law_coin (hr.mono (by decide)) rfl (pa_cons (pv 0) (pa_cons pe_int pa_nil))) pe_int (nomark _)) (pe_callTy (call_tupK K) (by rfl) T.n_tuple (by decide +kernel) (pa_cons (pv 4) pa_nil)) (pv 4)))), ?_⟩
      intro x7 H2 D zs way at' spot nDc hD hne hl hr2 hC2 sb2
      refine ⟨_, rfl, c, d, ns, m + 9, 3, rfl, hC2, by omega, by decide, small9000 (by decide), fun r H3 r0 r1 hC3 sb3 => ⟨rfl, _, rfl, ?_⟩⟩
      have hD3 := sb3 _ _ nDc hD
      have hr3 : ∀ u ∈ zs, RwX K (OffT c H3) u := fun u hu => (hr2 u hu).same (sameT sb3)
      have sb03 := sb2.trans sb3
      by_cases hc : V.int r = V.int 0
      · rw [decide_eq_true hc]
        refine iteT ⟨_, rfl, false, D, zs, rfl, .of hD3, fun _ l hl2 => ?_, fun z => (by cases z)⟩
        exact k _ _ (bnt_t (offT1 upd_same (hC3.ne hl2).1) hne hl fun u hu => (hr3 u hu).same (sameT (new_but hl2))) (hC3.but (same_upd hl2)) (sb03.trans (new_but hl2))
      · rw [decide_eq_false hc]
        exact iteF ⟨_, rfl, k _ _ (bnt_l (offT1 hD3 nDc) hne hl hr3) hC3 sb03⟩
    refine ⟨_, (pss_cons (ps_asg (pe_tup (pa_cons (pe_dn D__law_coin (hr.mono (by decide)) rfl (pa_cons (pv 0) (pa_cons pe_int pa_nil))) (pa_cons (pe_dn D__law_coin (hr.mono (by decide)) rfl (pa_cons (pv 0) (pa_cons (pe_callB (call_lenK K) (by rfl) T.n_len (by decide +kernel) (pa_cons (pv 1) pa_nil)) pa_nil))) (pa_cons (pe_lc (own := [("row", 5)]) (g := gName 5) (tt := tYes) rfl sc_bent.nd (pi_seqK K (pv 1)) (blkOk_by (N := ["purse", "rows", "way", "at", "found", "row", "spot", "more", "number", "turn"]) (sc := defScope st__law_bent) (by decide +kernel)) (fun _ _ _ _ _ => (pg_name (i := 5) sc_bent.nd rfl (Or.inl rfl))) (fun _ _ _ _ _ => pts_nil) (fun _ _ _ _ _ => (pe_callTy (call_listK K) (by rfl) T.n_list (by decide +kernel) (pa_cons (pv 5) pa_nil)))) pa_nil)))) (pg_tup (by rfl) (pgs_cons (pg_name (i := 2) sc_bent.nd rfl (Or.inl rfl)) (pgs_cons (pg_name (i := 3) sc_bent.nd rfl (Or.inr rfl)) (pgs_cons (pg_name (i := 4) sc_bent.nd rfl (Or.inr rfl)) pgs_nil)))))
    (pss_cons (ps_set (i := 6) sc_bent.nd rfl (Or.inl rfl) (pe_dn D__law_coin (hr.mono (by decide)) rfl (pa_cons (pv 0) (pa_cons (pe_callB (call_lenK K) (by rfl) T.n_len (by decide +kernel) (pa_cons (pe_ix (ix_K K) (pv 1) pe_int (fun _ _ => rfl)) pa_nil)) pa_nil))))
    (pss_cons (ps_if (pt_cmpR op_lt (pv 2) pe_int (nomark _)) (pss_one (ps_asg (pe_dn D__law_one_of (hr.mono (by decide)) rfl (pa_cons (pv 0) (pa_cons (pe_lst (pa_cons pe_bl (pa_cons pe_bl (pa_cons pe_non (pa_cons pe_str (pa_cons (pe_lst (pa_cons pe_int pa_nil)) (pa_cons (pe_tup pa_nil) (pa_cons pe_int (pa_cons (pe_un un_neg pe_int) (pa_cons (pe_op op_pow pe_int pe_int) pa_nil)))))))))) pa_nil))) (pg_sub (pe_ix (ix_K K) (pv 4) (pv 3) (fun _ _ => rfl)) (pv 6) set_list))) (pss_one (ps_if (pt_cmpR op_eq (pv 2) pe_int (nomark _)) (pss_one (ps_asg (pe_dn D__law_one_of (hr.mono (by decide)) rfl (pa_cons (pv 0) (pa_cons (pe_lst (pa_cons pe_non (pa_cons pe_int (pa_cons pe_str (pa_cons (pe_tup pa_nil) (pa_cons pe_dnewK (pa_cons (pe_lst (pa_cons pe_non pa_nil)) (pa_cons pe_str (pa_cons (pe_op op_rep (pe_lst (pa_cons pe_int pa_nil)) (pe_callB (call_lenK K) (by rfl) T.n_len (by decide +kernel) (pa_cons (pe_ix (ix_K K) (pv 1) pe_int (fun _ _ => rfl)) pa_nil))) (pa_cons (pe_op (op_repC K) (pe_tup (pa_cons pe_bl pa_nil)) (pe_callB (call_lenK K) (by rfl) T.n_len (by decide +kernel) (pa_cons (pe_ix (ix_K K) (pv 1) pe_int (fun _ _ => rfl)) pa_nil))) pa_nil)))))))))) pa_nil))) (pg_sub (pv 4) (pv 3) set_list))) (pss_one (ps_if (pt_cmpR op_eq (pv 2) pe_int (nomark _)) (pss_one (ps_asg (pe_op op_cat (pe_ix (ix_K K) (pv 4) (pv 3) (fun _ _ => rfl)) (pe_lst (pa_cons (pe_dn D__law_coin (hr.mono (by decide)) rfl (pa_cons (pv 0) (pa_cons pe_int pa_nil))) pa_nil))) (pg_sub (pv 4) (pv 3) set_list))) (pss_one (ps_if (pt_cmpR op_eq (pv 2) pe_int (nomark _)) (pss_one (ps_asg (pe_slice sl_list (pe_ix (ix_K K) (pv 4) (pv 3) (fun _ _ => rfl)) po_none (po_some (pe_un un_neg pe_int))) (pg_sub (pv 4) (pv 3) set_list))) (pss_one (ps_if (pt_cmpR op_eq (pv 2) pe_int (nomark _)) (pss_cons (ps_set (i := 7) sc_bent.nd rfl (Or.inr rfl) (pe_dn D__law_one_of (hr.mono (by decide)) rfl (pa_cons (pv 0) (pa_cons (pe_lst (pa_cons pe_int (pa_cons pe_int (pa_cons pe_int (pa_cons pe_int pa_nil))))) pa_nil))))
    (pss_one (ps_set (i := 4) sc_bent.nd rfl (Or.inr rfl) (pe_op op_cat (pv 4) (pe_lc (own := [("turn", 9)]) (g := gName 9) (tt := tYes) rfl sc_bent.nd (pi_range1 (by rfl) T.n_range (pa_cons (pe_op op_sub (pv 7) (pe_callB (call_lenK K) (by rfl) T.n_len (by decide +kernel) (pa_cons (pv 4) pa_nil))) pa_nil)) (blkOk_by (N := ["purse", "rows", "way", "at", "found", "row", "spot", "more", "number", "turn"]) (sc := defScope st__law_bent) (by decide +kernel)) (fun _ _ _ _ _ => (pg_name (i := 9) sc_bent.nd rfl (Or.inr rfl))) (fun _ _ _ _ _ => pts_nil) (fun _ _ _ _ _ => (pe_lc (own := [("number", 8)]) (g := gName 8) (tt := tYes) rfl sc_bent.nd (pi_seqK K (pe_ix (ix_K K) (pv 4) (pv 3) (fun _ _ => rfl))) (blkOk_by (N := ["purse", "rows", "way", "at", "found", "row", "spot", "more", "number", "turn"]) (sc := scT5) (by decide +kernel)) (fun _ _ _ _ _ => (pg_name (i := 8) sc_bent.nd rfl (Or.inl rfl))) (fun _ _ _ _ _ => pts_nil) (fun _ _ _ _ _ => (pe_op op_mulW (pv 8) (pe_op op_sub (pv 9) pe_int)))))))))) (pss_one (ps_if (pt_cmpR op_eq (pv 2) pe_int (nomark _)) (pss_cons (ps_set (i := 7) sc_bent.nd rfl (Or.inr rfl) (pe_dn D__law_one_of (hr.mono (by decide)) rfl (pa_cons (pv 0) (pa_cons (pe_lst (pa_cons pe_int (pa_cons pe_int (pa_cons pe_int (pa_cons pe_int pa_nil))))) pa_nil))))
    (pss_one (ps_set (i := 4) sc_bent.nd rfl (Or.inr rfl) (pe_lc (own := [("row", 5)]) (g := gName 5) (tt := tYes) rfl sc_bent.nd (pi_seqK K (pv 4)) (blkOk_by (N := ["purse", "rows", "way", "at", "found", "row", "spot", "more", "number", "turn"]) (sc := defScope st__law_bent) (by decide +kernel)) (fun _ _ _ _ _ => (pg_name (i := 5) sc_bent.nd rfl (Or.inr rfl))) (fun _ _ _ _ _ => pts_nil) (fun _ _ _ _ _ => (pe_op op_cat (pv 5) (pe_lc (own := [("turn", 9)]) (g := gName 9) (tt := tYes) rfl sc_bent.nd (pi_range1 (by rfl) T.n_range (pa_cons (pe_op op_sub (pv 7) (pe_callB (call_lenK K) (by rfl) T.n_len (by decide +kernel) (pa_cons (pv 5) pa_nil))) pa_nil)) (blkOk_by (N := ["purse", "rows", "way", "at", "found", "row", "spot", "more", "number", "turn"]) (sc := scT6) (by decide +kernel)) (fun _ _ _ _ _ => (pg_name (i := 9) sc_bent.nd rfl (Or.inl rfl))) (fun _ _ _ _ _ => pts_nil) (fun _ _ _ _ _ => (pe_op op_mulW (pe_op op_sub (pv 9) pe_int) (pe_ix (ix_K K) (pv 5) pe_int (fun _ _ => rfl))))))))))) (pss_one (ps_ret (pe_dn D__law_one_of (hr.mono (by decide)) rfl (pa_cons (pv 0) (pa_cons (pe_lst (pa_cons pe_non (pa_cons pe_int (pa_cons pe_bl (pa_cons pe_str (pa_cons pe_str (pa_cons pe_dnewK (pa_cons (pe_lst pa_nil) (pa_cons (pe_tup pa_nil) (pa_cons (pe_lst (pa_cons (pe_lst pa_nil) pa_nil)) (pa_cons (pe_lst (pa_cons (pe_tup pa_nil) pa_nil)) (pa_cons (pe_lst (pa_cons (pe_lst (pa_cons pe_bl pa_nil)) pa_nil)) (pa_cons (pe_lst (pa_cons (pe_lst (pa_cons pe_int pa_nil)) pa_nil)) (pa_cons (pe_tup (pa_cons (pe_tup (pa_cons pe_int (pa_cons pe_int pa_nil))) (pa_cons (pe_lst (pa_cons pe_int (pa_cons pe_int pa_nil))) pa_nil))) pa_nil)))))))))))))) pa_nil))))))))))))))))
    h4))), ?_⟩
    refine ⟨_, rfl, c, d, ns, m, 8, rfl, hC, by omega, by decide, small9000 (by decide), fun way H1 w0 w8 hC1 sb1 => ?_⟩
    have hul : us0.length = M.length := hRw.1
    have ha1 := sb1 _ _ nac ha
    refine ⟨_, rfl, _, rfl, false, a, us0, rfl, .of ha1, c, d, ns, m + 1, (us0.length : Nat), rfl, hC1, by omega, by omega, natAbs_small (k := 0) (by omega), fun at' H2 a0 a1 hC2 sb2 => ?_⟩
    obtain ⟨at', rfl⟩ : ∃ n : Nat, at' = (n : Int) := ⟨at'.toNat, by omega⟩
    have hat : at' < M.length := by omega
    have ha2 := sb2 _ _ nac ha1
    have sb02 := sb1.trans sb2
    have hRw2 : Rws H2 c a us0 M := hRw.mono fun b o n _ e => sb02 b o n e
    refine ⟨_, rfl, false, a, rfl, ⟨_, .of ha2⟩, fun D hD => lc_rel (R := fun i y H => ∃ (q : Addr) (x : Vec), y = .ref q ∧ M[i]? = some x ∧ H2 q = none ∧ H q = some (.lst (x.map V.int))) (walk_seq (b := false)) hD (Nat.lt_of_le_of_lt (by omega : us0.length ≤ 16) (by decide)) (fun H3 s3 => .of (s3 _ _ ha2))
      (fun i y H H' s ⟨q, x, e1, e2, e3, t⟩ => ⟨q, x, e1, e2, e3, s _ _ t⟩) ?_ ?_⟩
    · rintro i x H3 H4 hi s3 ⟨acc, hacc⟩ ⟨rfl, hx⟩ Rk kk
      obtain ⟨q, rfl, _, _, hq⟩ := hRw2.2 i x _ hx (List.getElem?_eq_getElem (by omega : i < M.length))
      refine ⟨rfl, _, rfl, false, q, _, rfl, .of (s3 _ _ hq), fun l hl => kk _ _ (same_upd hl) ⟨l, _, rfl, List.getElem?_eq_getElem (by omega : i < M.length), ?_, ?_⟩⟩
      · cases e : H2 l with
        | none => rfl
        | some o => rw [s3 _ _ e] at hl; cases hl
      · rw [off_ne (fun e => by rw [e, hacc] at hl; cases hl)]
        exact upd_same
    rintro H3 ⟨us, lus, hD3, s3, hr3⟩
    have hF3 : Fnd H2 H3 c D us M := by
      obtain ⟨nDc, _⟩ := hC2.ne hD
      refine ⟨hD, nDc, hD3, by rw [lus, hul], fun i u e => ?_⟩
      obtain ⟨q, x, e1, e2, e3, t⟩ := hr3 i u e
      refine ⟨q, x, e1, e2, fun z => ?_, (hC2.ne e3).1, e3, off_same _ _ _ _ t⟩
      rw [z, off_self] at t
      cases t
    refine ⟨(by show 3 ≤ sizeLine; decide), fun T0 hT0 => ?_⟩
    have sT := same_upd (o := .tup [.int way, .int at', .ref D]) hT0
    refine ⟨T0, _, rfl, .of upd_same, rfl, _, _, rfl, _, _, rfl, _, _, rfl, rfl, ?_⟩
    have hF4 := hF3.mono (SameBut.of sT)
    have hC4 := (hC2.but s3).but sT
    have sb4 := (sb02.trans (SameBut.of s3)).trans (SameBut.of sT)
    have ha4 := sT _ _ (s3 _ _ ha2)
    have hRw4 : Rws H3 c a us0 M := hRw2.mono fun b o _ _ e => s3 b o e
    have hRw4 : Rws (upd H3 T0 (.tup [.int way, .int at', .ref D])) c a us0 M := hRw4.mono fun b o _ _ e => sT b o e
    generalize upd H3 T0 (.tup [.int way, .int at', .ref D]) = H4 at hF4 hC4 sb4 ha4 hRw4 ⊢
    -- spot
    obtain ⟨q0, u0, nq0c, _, hq0⟩ := hRw4.2 0 _ _ (List.getElem?_eq_getElem (by omega : 0 < us0.length)) (List.getElem?_eq_getElem (by omega : 0 < M.length))
    have hw0 := hw _ (List.getElem_mem (by omega : 0 < M.length))
    refine ⟨_, rfl, _, rfl, false, a, us0, 0, _, rfl, rfl, .of ha4, atI_nat (j := 0) (List.getElem?_eq_getElem (by omega : 0 < us0.length)), ?_⟩
    rw [u0]
    refine ⟨false, q0, _, rfl, .of hq0, c, d, ns, m + 2, _, rfl, hC4, by omega, by rw [List.length_map]; omega, natAbs_small (k := 0) (by rw [List.length_map]; omega), fun spot H5 p0 p1 hC5 sb5 => ?_⟩
    rw [List.length_map] at p1
    obtain ⟨spot, rfl⟩ : ∃ n : Nat, spot = (n : Int) := ⟨spot.toNat, by omega⟩
    have hsp : spot < (M[0]'(by omega)).length := by omega
    have hF5 := hF4.mono sb5
    have sb05 := sb4.trans sb5
    have ha5 := sb5 _ _ nac ha4
    have hRw5 : Rws H5 c a us0 M := hRw4.mono fun b o n _ e => sb5 b o n e
    have hatu : at' < us.length := by rw [hF5.2.2.2.1]; exact hat
    have husne : us ≠ [] := by rw [← List.length_pos_iff]; omega
    have hus20 : us.length ≤ 20 := by rw [hF5.2.2.2.1]; omega
    have hlus : us.length = M.length := hF5.2.2.2.1
    have hDH : H D = none := none_back sb02 hF5.2.1 hF5.1
    have hg0 : us0[0]? = some (.ref q0) := by rw [List.getElem?_eq_getElem (by omega : 0 < us0.length), u0]
    have hq05 := sb5 _ _ nq0c hq0
    have hrows : ∀ {Hb H7 : Hp} {v : V}, SameBut c H5 Hb → SameBut c Hb H7 → RwX K (Off D (OffT c Hb)) v → ∀ u ∈ us.set at' v, RwX K (OffT c (upd H7 D (.lst (us.set at' v)))) u := by
      intro Hb H7 v sa sb hv u hu
      rcases List.mem_or_eq_of_mem_set hu with z | z
      · obtain ⟨i, hi⟩ := List.mem_iff_getElem?.mp z
        obtain ⟨q2, x, rfl, b2, b3, b4, _, b6⟩ := ((hF5.mono sa).mono sb).2.2.2.2 i u hi
        have hm := List.mem_of_getElem? b2
        exact rx_ints (offT1 (by rw [upd_ne b3]; exact b6) b4) (by have := (hw x hm).2; omega) fun b hb' => Nat.lt_of_le_of_lt (hb x hm b hb') (by decide)
      · rw [z]; exact hv.same (off2_put sb)
    -- ways
    refine ⟨_, rfl, _, _, rfl, rfl, _, rfl, ?_⟩
    by_cases c0 : way < 2
    · rw [decide_eq_true c0]
      refine iteT ?_
      refine ⟨_, rfl, (by show 1 ≤ sizeLine; decide), fun p1 hp1 => ?_⟩
      have n1 : p1 ≠ c := fresh1 hC5 (Same.refl H5) hp1
      have s1 := same_upd (o := .lst [.int 1]) hp1
      have z1 : upd H5 p1 (.lst [.int 1]) p1 = some (.lst [.int 1]) := upd_same
      have t1 := s1
      generalize upd H5 p1 (.lst [.int 1]) = G1 at s1 t1 z1 ⊢
      refine ⟨(by show 0 ≤ sizeLine; decide), fun p2 hp2 => ?_⟩
      have n2 : p2 ≠ c := fresh1 hC5 t1 hp2
      have s2 := same_upd (o := .tup []) hp2
      have z2 : upd G1 p2 (.tup []) p2 = some (.tup []) := upd_same
      have t2 := t1.trans s2
      replace z1 := s2 _ _ z1
      generalize upd G1 p2 (.tup []) = G2 at s2 t2 z2 z1 ⊢
      refine ⟨3, rfl, 10, 20, rfl, rfl, ⟨by decide, by decide, by decide⟩, (by show 9 ≤ sizeLine; decide), fun L hL => ?_⟩
      have nL := fresh1 hC5 t2 hL
      have sL := same_upd (o := .lst [.bl true, .bl false, .non, .str (Str.ofString "1"), .ref p1, .ref p2, .int 7, .int (-3), .int (10 ^ (20 : Int).toNat)]) hL
      have tL := t2.trans sL
      refine ⟨c, d, ns, m + 3, false, L, [.bl true, .bl false, .non, .str (Str.ofString "1"), .ref p1, .ref p2, .int 7, .int (-3), .int (10 ^ (20 : Int).toNat)], rfl, hC5.but tL, by omega, .of (off1 upd_same nL), Nat.le_of_ble_eq_true rfl, Nat.le_of_ble_eq_true rfl, fun iz y H7 hy hC7 sb7 => ?_⟩
      have hF7 := (hF5.mono (SameBut.of tL)).mono sb7
      obtain ⟨q, hqi, nqD, nqc, hq2, hqx⟩ := hF7.get hat
      obtain ⟨q', hqi', _, _, _, hqx'⟩ := hF5.get hat
      obtain rfl : q' = q := by rw [hqi] at hqi'; cases hqi'; rfl
      have nq1 : p1 ≠ q' := fun e => by rw [e, hqx'] at hp1; cases hp1
      have nq2 : p2 ≠ q' := fun e => by have := s1 _ _ hqx'; rw [← e, hp2] at this; cases this
      have hqH : H q' = none := none_back sb02 nqc hq2
      have hlw : spot < ((M[at'].map V.int).length) := by rw [List.length_map, hwd _ (List.getElem_mem hat), ← hwd _ (List.getElem_mem (by omega : 0 < M.length))]; exact hsp
      refine ⟨_, rfl, _, rfl, false, D, us, (at' : Nat), .ref q', rfl, rfl, .of hF7.2.2.1, atI_nat hqi, _, rfl, q', _, (spot : Nat), spot, rfl, rfl, hqx, ixN_nat hlw, ?_⟩
      have hcell : Cell K (OffT c (upd H7 q' (.lst ((M[at'].map V.int).set spot y)))) y := by
        refine Cell.same (off2_put sb7) (all_get (p := fun y => Cell K (Off q' (OffT c (upd G2 L _))) y) ?_ hy)
        have o1 := off2 (sL _ _ z1) nq1 n1
        have o2 := off2 (sL _ _ z2) nq2 n2
        intro y' hy'
        simp only [List.mem_cons, List.not_mem_nil, or_false] at hy'
        rcases hy' with rfl | rfl | rfl | rfl | rfl | rfl | rfl | rfl | rfl
        · exact .bl _
        · exact .bl _
        · exact .non
        · exact .str (by decide +kernel)
        · exact .lst o1 (by decide) fun y hy => ⟨1, List.mem_singleton.mp hy, by decide⟩
        · exact .nilT o2
        · exact .int (by decide)
        · exact .int (by decide)
        · exact .int (by decide)
      refine fin none _ D us way (at' : Nat) (spot : Nat) hF7.2.1 ?_ husne hus20 ?_ (((hC7.upd nqc (hC.ne hqH).2)).more (by omega)) (((sb05.trans (SameBut.of tL)).trans sb7).put hqH)
      · rw [upd_ne (Ne.symm nqD)]; exact hF7.2.2.1
      · intro u hu
        obtain ⟨i, hi⟩ := List.mem_iff_getElem?.mp hu
        obtain ⟨q2, x, rfl, b2, _, b4, _, b6⟩ := hF7.2.2.2.2 i u hi
        by_cases e : q2 = q'
        · subst e
          refine rx_cells (offT1 upd_same nqc) (by rw [List.length_set, List.length_map]; have := (hw _ (List.getElem_mem hat)).2; omega) fun y' hy' => ?_
          rcases List.mem_or_eq_of_mem_set hy' with z | z
          · exact int_cells (hb _ (List.getElem_mem hat)) y' z
          · rw [z]; exact hcell
        · have hm := List.mem_of_getElem? b2
          exact rx_ints (offT1 (by rw [upd_ne e]; exact b6) b4) (by have := (hw x hm).2; omega) fun b hb' => Nat.lt_of_le_of_lt (hb x hm b hb') (by decide)
    rw [decide_eq_false c0]
    refine iteF ⟨_, rfl, rfl, _, rfl, ?_⟩
    by_cases c2 : V.int way = V.int 2
    · rw [decide_eq_true c2]
      refine iteT ?_
      refine ⟨_, rfl, (by show 0 ≤ sizeLine; decide), fun p1 hp1 => ?_⟩
      have n1 : p1 ≠ c := fresh1 hC5 (Same.refl H5) hp1
      have s1 := same_upd (o := .tup []) hp1
      have z1 : upd H5 p1 (.tup []) p1 = some (.tup []) := upd_same
      have t1 := s1
      generalize upd H5 p1 (.tup []) = G1 at s1 t1 z1 ⊢
      intro p2 hp2
      have n2 : p2 ≠ c := fresh1 hC5 t1 hp2
      have s2 := same_upd (o := .dK []) hp2
      have z2 : upd G1 p2 (.dK []) p2 = some (.dK []) := upd_same
      have t2 := t1.trans s2
      replace z1 := s2 _ _ z1
      generalize upd G1 p2 (.dK []) = G2 at s2 t2 z2 z1 ⊢
      refine ⟨(by show 1 ≤ sizeLine; decide), fun p3 hp3 => ?_⟩
      have n3 : p3 ≠ c := fresh1 hC5 t2 hp3
      have s3 := same_upd (o := .lst [.non]) hp3
      have z3 : upd G2 p3 (.lst [.non]) p3 = some (.lst [.non]) := upd_same
      have t3 := t2.trans s3
      replace z1 := s3 _ _ z1
      replace z2 := s3 _ _ z2
      generalize upd G2 p3 (.lst [.non]) = G3 at s3 t3 z3 z1 z2 ⊢
      refine ⟨(by show 1 ≤ sizeLine; decide), fun p4 hp4 => ?_⟩
      have n4 : p4 ≠ c := fresh1 hC5 t3 hp4
      have s4 := same_upd (o := .lst [.int 0]) hp4
      have z4 : upd G3 p4 (.lst [.int 0]) p4 = some (.lst [.int 0]) := upd_same
      have t4 := t3.trans s4
      replace z1 := s4 _ _ z1
      replace z2 := s4 _ _ z2
      replace z3 := s4 _ _ z3
      generalize upd G3 p4 (.lst [.int 0]) = G4 at s4 t4 z4 z1 z2 z3 ⊢
      have q04 := t4 _ _ hq05
      refine ⟨_, rfl, false, a, us0, 0, .ref q0, rfl, rfl, .of (t4 _ _ ha5), atI_nat (j := 0) hg0, false, q0, _, rfl, .of q04, p4, _, [.int 0], rfl, rfl, z4, by omega, by rw [List.length_map]; omega, ?_, fun p5 hp5 => ?_⟩
      · rw [List.length_map]
        show 1 * (((M[0]'(by omega)).length : Nat) : Int).toNat ≤ sizeLine
        exact Nat.le_trans (by omega : _ ≤ 8) (by decide)
      have n5 : p5 ≠ c := fresh1 hC5 t4 hp5
      have s5 := same_upd (o := .lst (List.replicate ((((M[0]'(by omega)).map V.int).length : Nat) : Int).toNat [V.int 0]).flatten) hp5
      have z5 : upd G4 p5 (.lst (List.replicate ((((M[0]'(by omega)).map V.int).length : Nat) : Int).toNat [V.int 0]).flatten) p5 = _ := upd_same
      have t5 := t4.trans s5
      replace z1 := s5 _ _ z1
      replace z2 := s5 _ _ z2
      replace z3 := s5 _ _ z3
      generalize upd G4 p5 (.lst (List.replicate ((((M[0]'(by omega)).map V.int).length : Nat) : Int).toNat [V.int 0]).flatten) = G5 at s5 z5 t5 z1 z2 z3 ⊢
      refine ⟨(by show 1 ≤ sizeLine; decide), fun p6 hp6 => ?_⟩
      have n6 : p6 ≠ c := fresh1 hC5 t5 hp6
      have nD6 : p6 ≠ D := fun e => by have := t5 _ _ hF5.2.2.1; rw [← e, hp6] at this; cases this
      have s6 := same_upd (o := .tup [.bl true]) hp6
      have z6 : upd G5 p6 (.tup [.bl true]) p6 = _ := upd_same
      have t6 := t5.trans s6
      replace z1 := s6 _ _ z1
      replace z2 := s6 _ _ z2
      replace z3 := s6 _ _ z3
      replace z5 := s6 _ _ z5
      generalize upd G5 p6 (.tup [.bl true]) = G6 at s6 t6 z1 z2 z3 z5 z6 ⊢
      refine ⟨_, rfl, false, a, us0, 0, .ref q0, rfl, rfl, .of (t6 _ _ ha5), atI_nat (j := 0) hg0, false, q0, _, rfl, .of (t6 _ _ hq05), p6, _, [.bl true], rfl, rfl, z6, by decide, by rw [List.length_map]; omega, by rw [List.length_map]; omega, by decide, fun p7 G7 s7 _ z7 hp7 => ?_⟩
      have t7 := t6.trans s7
      have n7 : p7 ≠ c := by
        rcases hp7 with e | e
        · exact fresh1 hC5 t6 e
        · rw [e]; exact n6
      have nD7 : p7 ≠ D := by
        rcases hp7 with e | e
        · exact fun z => by have := t6 _ _ hF5.2.2.1; rw [← z, e] at this; cases this
        · rw [e]; exact nD6
      replace z1 := s7 _ _ z1
      replace z2 := s7 _ _ z2
      replace z3 := s7 _ _ z3
      replace z5 := s7 _ _ z5
      refine ⟨(by show 9 ≤ sizeLine; decide), fun L hL => ?_⟩
      have nL := fresh1 hC5 t7 hL
      have sL := same_upd (o := .lst [.non, .int 3, .str (Str.ofString "ab"), .ref p1, .ref p2, .ref p3, .str (Str.ofString ""), .ref p5, .ref p7]) hL
      have tL := t7.trans sL
      refine ⟨c, d, ns, m + 3, false, L, [.non, .int 3, .str (Str.ofString "ab"), .ref p1, .ref p2, .ref p3, .str (Str.ofString ""), .ref p5, .ref p7], rfl, hC5.but tL, by omega, .of (off1 upd_same nL), Nat.le_of_ble_eq_true rfl, Nat.le_of_ble_eq_true rfl, fun iz y H7 hy hC7 sb7 => ?_⟩
      have hF7 := (hF5.mono (SameBut.of tL)).mono sb7
      have hDt : ∀ {G : Hp} {p : Addr}, Same H5 G → G p = none → p ≠ D := fun s e z => by have := s _ _ hF5.2.2.1; rw [← z, e] at this; cases this
      have m1 := hDt (Same.refl H5) hp1
      have m2 := hDt t1 hp2
      have m3 := hDt t2 hp3
      have m5 := hDt t4 hp5
      have l0 : (((M[0]'(by omega)).map V.int).length : Int).toNat ≤ 8 := by rw [List.length_map]; omega
      refine ⟨_, rfl, _, rfl, D, us, (at' : Nat), at', rfl, rfl, hF7.2.2.1, ixN_nat hatu, ?_⟩
      refine fin none _ D (us.set at' y) way (at' : Nat) (spot : Nat) hF7.2.1 upd_same (by rw [← List.length_pos_iff, List.length_set]; omega) (by rw [List.length_set]; exact hus20) (hrows (SameBut.of tL) sb7 ?_) ((hC7.upd hF7.2.1 (hC.ne hDH).2).more (by omega)) (((sb05.trans (SameBut.of tL)).trans sb7).put hDH)
      refine all_get (p := fun y => RwX K (Off D (OffT c (upd G7 L _))) y) ?_ hy
      have o1 := off2 (sL _ _ z1) m1 n1
      have o2 := off2 (sL _ _ z2) m2 n2
      have o3 := off2 (sL _ _ z3) m3 n3
      have o5 := off2 (sL _ _ z5) m5 n5
      have o7 := off2 (sL _ _ z7) nD7 n7
      intro y' hy'
      simp only [List.mem_cons, List.not_mem_nil, or_false] at hy'
      rcases hy' with rfl | rfl | rfl | rfl | rfl | rfl | rfl | rfl | rfl
      · exact rx_non
      · exact rx_int (by decide)
      · exact rx_str (by decide +kernel)
      · exact rx_tup o1 (by decide) no_cells
      · exact rx_dict o2
      · exact rx_cells o3 (by decide) (one_cell .non)
      · exact rx_str (by decide +kernel)
      · exact rx_cells o5 (by rw [rep_len]; omega) fun y hy => by rw [rep_mem hy]; exact .int (by decide)
      · exact rx_tup o7 (by rw [rep_len]; omega) fun y hy => by rw [rep_mem hy]; exact .bl _
    rw [decide_eq_false c2]
    refine iteF ⟨_, rfl, rfl, _, rfl, ?_⟩
    by_cases c3 : V.int way = V.int 3
    · rw [decide_eq_true c3]
      refine iteT ?_
      obtain ⟨q, hqi, nqD, nqc, hq2, hqx⟩ := hF5.get hat
      refine ⟨_, rfl, _, rfl, false, D, us, (at' : Nat), .ref q, rfl, rfl, .of hF5.2.2.1, atI_nat hqi, _, rfl, c, d, ns, m + 3, 3, rfl, hC5, by omega, by decide, small9000 (by decide), fun r H6 r0 r1 hC6 sb6 => ⟨(by show 1 ≤ sizeLine; decide), fun p1 hp1 => ?_⟩⟩
      have s1 := same_upd (o := .lst [.int r]) hp1
      have hlq : ((M[at'].map V.int)).length ≤ 8 := by rw [List.length_map]; exact (hw _ (List.getElem_mem hat)).2
      refine ⟨q, p1, _, _, rfl, rfl, s1 _ _ (sb6 _ _ nqc hqx), upd_same, Nat.le_trans (by simp only [List.length_cons, List.length_nil]; omega : (M[at'].map V.int).length + [V.int r].length ≤ 9) (by decide), fun p2 hp2 => ?_⟩
      have s2 := same_upd (o := .lst (M[at'].map V.int ++ [V.int r])) hp2
      have n2 := fresh1 hC6 s1 hp2
      have sbb : SameBut c H5 (upd (upd H6 p1 (.lst [.int r])) p2 (.lst (M[at'].map V.int ++ [V.int r]))) := sb6.trans (SameBut.of (s1.trans s2))
      have hF7 := hF5.mono sbb
      have hC7 := hC6.but (s1.trans s2)
      have z2 : upd (upd H6 p1 (.lst [.int r])) p2 (.lst (M[at'].map V.int ++ [V.int r])) p2 = _ := upd_same
      have m2 : p2 ≠ D := fun e => by have := s1 _ _ (sb6 _ _ hF5.2.1 hF5.2.2.1); rw [← e, hp2] at this; cases this
      generalize upd (upd H6 p1 (.lst [.int r])) p2 (.lst (M[at'].map V.int ++ [V.int r])) = H7 at sbb hF7 hC7 z2 ⊢
      refine ⟨_, rfl, _, rfl, D, us, (at' : Nat), at', rfl, rfl, hF7.2.2.1, ixN_nat hatu, ?_⟩
      refine fin none _ D (us.set at' _) way (at' : Nat) (spot : Nat) hF7.2.1 upd_same (by rw [← List.length_pos_iff, List.length_set]; omega) (by rw [List.length_set]; exact hus20) (hrows sbb (SameBut.refl c H7) ?_) ((hC7.upd hF7.2.1 (hC.ne hDH).2).more (by omega)) ((sb05.trans sbb).put hDH)
      refine rx_cells (off2 z2 m2 n2) (by rw [List.length_append]; simp only [List.length_cons, List.length_nil]; omega) fun y hy => ?_
      rcases List.mem_append.mp hy with z | z
      · exact int_cells (hb _ (List.getElem_mem hat)) y z
      · rw [List.mem_singleton.mp z]
        exact .int (Nat.lt_of_le_of_lt (by omega : r.natAbs ≤ 3) (by decide))
    rw [decide_eq_false c3]
    refine iteF ⟨_, rfl, rfl, _, rfl, ?_⟩
    by_cases c4 : V.int way = V.int 4
    · rw [decide_eq_true c4]
      refine iteT ?_
      obtain ⟨q, hqi, nqD, nqc, hq2, hqx⟩ := hF5.get hat
      refine ⟨_, rfl, _, rfl, false, D, us, (at' : Nat), .ref q, rfl, rfl, .of hF5.2.2.1, atI_nat hqi, 1, rfl, _, rfl, q, _, rfl, .of hqx, fun p2 hp2 => ?_⟩
      have s2 := same_upd (o := .lst (cutV (M[at'].map V.int) none (some (-1)))) hp2
      have n2 := (hC5.ne hp2).1
      have sbb : SameBut c H5 (upd H5 p2 (.lst (cutV (M[at'].map V.int) none (some (-1))))) := SameBut.of s2
      have hF7 := hF5.mono sbb
      have hC7 := hC5.but s2
      have z2 : upd H5 p2 (.lst (cutV (M[at'].map V.int) none (some (-1)))) p2 = _ := upd_same
      have m2 : p2 ≠ D := fun e => by rw [e, hF5.2.2.1] at hp2; cases hp2
      generalize upd H5 p2 (.lst (cutV (M[at'].map V.int) none (some (-1)))) = H7 at sbb hF7 hC7 z2 ⊢
      refine ⟨_, rfl, _, rfl, D, us, (at' : Nat), at', rfl, rfl, hF7.2.2.1, ixN_nat hatu, ?_⟩
      refine fin none _ D (us.set at' _) way (at' : Nat) (spot : Nat) hF7.2.1 upd_same (by rw [← List.length_pos_iff, List.length_set]; omega) (by rw [List.length_set]; exact hus20) (hrows sbb (SameBut.refl c H7) ?_) ((hC7.upd hF7.2.1 (hC.ne hDH).2).more (by omega)) ((sb05.trans sbb).put hDH)
      refine rx_cells (off2 z2 m2 n2) (Nat.le_trans (cutV_length ..) (by rw [List.length_map]; have := (hw _ (List.getElem_mem hat)).2; omega)) fun y hy => ?_
      exact int_cells (hb _ (List.getElem_mem hat)) y (cutV_mem hy)
    rw [decide_eq_false c4]
    refine iteF ⟨_, rfl, rfl, _, rfl, ?_⟩
    by_cases c5 : V.int way = V.int 5
    · rw [decide_eq_true c5]
      refine iteT ?_
      refine ⟨_, rfl, (by show 4 ≤ sizeLine; decide), fun L hL => ?_⟩
      have nL := (hC5.ne hL).1
      have tL := same_upd (o := .lst [.int 15, .int (16), .int (17), .int (17)]) hL
      refine ⟨c, d, ns, m + 3, false, L, _, rfl, hC5.but tL, by omega, .of (off1 upd_same nL), by decide, by decide, fun iz y H6 hy hC6 sb6 => ?_⟩
      obtain ⟨mr, rfl, l1, l2⟩ : ∃ k : Int, y = .int k ∧ 15 ≤ k ∧ k ≤ 17 := by
        refine all_get (p := fun y => ∃ k : Int, y = .int k ∧ 15 ≤ k ∧ k ≤ 17) ?_ hy
        intro y' hy'
        simp only [List.mem_cons, List.not_mem_nil, or_false] at hy'
        rcases hy' with rfl | rfl | rfl | rfl
        · exact ⟨_, rfl, by decide, by decide⟩
        · exact ⟨_, rfl, by decide, by decide⟩
        · exact ⟨_, rfl, by decide, by decide⟩
        · exact ⟨_, rfl, by decide, by decide⟩
      have sb56 := (SameBut.of tL).trans sb6
      have hF6 := hF5.mono sb56
      have sb06 := sb05.trans sb56
      obtain ⟨q, hqi, nqD, nqc, hq2, hqx⟩ := hF6.get hat
      refine ⟨_, rfl, _, rfl, _, rfl, false, D, us, rfl, .of hF6.2.2.1, _, _, rfl, rfl, _, rfl, by omega, by omega, fun E hE => lc_rel (R := fun _ y H => IRow c H y) walk_range hE (Nat.lt_of_le_of_lt (by omega : _ ≤ 17) (by decide)) (fun _ _ => trivial) (fun i y H H' s h => h.same s) ?_ ?_⟩
      · rintro i x H7 H8 hi s7 ⟨acc, hacc⟩ ⟨rfl, rfl⟩ Rk kk
        refine ⟨rfl, _, rfl, _, rfl, false, D, us, (at' : Nat), .ref q, rfl, rfl, .of (s7 _ _ hF6.2.2.1), atI_nat hqi, false, q, rfl, ⟨_, .of (s7 _ _ hqx)⟩, fun D9 hD9 => lc_fun (fun t => V.int ((M[at']).getD t 0 * (0 + (i : Int) - 2))) (walk_seq (b := false)) hD9 ?_ (fun H s => .of (s _ _ (s7 _ _ hqx))) ?_ ?_⟩
        · rw [List.length_map]
          exact Nat.lt_of_le_of_lt (hw _ (List.getElem_mem hat)).2 (by decide)
        · rintro t v H9 H10 ht s9 _ ⟨rfl, hv⟩ Rk2 kk2
          obtain ⟨n, hn, rfl⟩ := map_int_get hv
          have hbn := hb _ (List.getElem_mem hat) n (List.mem_of_getElem? hn)
          have e := kk2 _ (Same.refl _)
          rw [List.getD_eq_getElem?_getD, hn] at e
          exact ⟨rfl, _, rfl, _, rfl, _, 2, rfl, rfl, n, _, rfl, rfl, wide_mul (a := 100) (b := 100) (Nat.lt_of_le_of_lt hbn (by decide)) (Nat.lt_of_le_of_lt (by omega : (0 + (i : Int) - 2).natAbs ≤ 100) (by decide)) (by decide) (by decide) (by decide), e⟩
        · intro H9 hD9' s9
          refine kk _ _ s9 ⟨D9, (List.range ((M[at']).map V.int).length).map (fun t => V.int ((M[at']).getD t 0 * (0 + (i : Int) - 2))), rfl, fresh1 hC6 s7 hD9, ?_, ?_, ?_⟩
          · rw [off_ne (fun e => by rw [e, hacc] at hD9; cases hD9)]
            exact hD9'
          · rw [List.length_map, List.length_range, List.length_map]
            have := (hw _ (List.getElem_mem hat)).2
            omega
          · intro y hy
            obtain ⟨t, ht, rfl⟩ := List.mem_map.mp hy
            have htl : t < (M[at']).length := by have := List.mem_range.mp ht; rw [List.length_map] at this; exact this
            refine ⟨_, rfl, bound100 ?_ (by omega)⟩
            rw [List.getD_eq_getElem?_getD, List.getElem?_eq_getElem htl]
            exact hb _ (List.getElem_mem hat) _ (List.getElem_mem htl)
      rintro H7 ⟨acc, la, hE7, s7, hr7⟩
      refine ⟨D, E, us, acc, rfl, rfl, s7 _ _ hF6.2.2.1, hE7, Nat.le_trans (by omega : us.length + acc.length ≤ 50) (by decide), fun Z hZ => ?_⟩
      have sZ := same_upd (o := .lst (us ++ acc)) hZ
      refine fin (some (.int mr)) _ Z (us ++ acc) way (at' : Nat) (spot : Nat) (fresh1 hC6 s7 hZ) upd_same (by rw [← List.length_pos_iff, List.length_append]; omega) (by rw [List.length_append]; omega) ?_ (((hC6.but s7).but sZ).more (by omega)) ((sb06.trans (SameBut.of s7)).trans (SameBut.of sZ))
      intro u hu
      rcases List.mem_append.mp hu with z | z
      · exact ((hF6.mono (SameBut.of s7)).mono (SameBut.of sZ)).rx hw hb u z
      · obtain ⟨i, hi⟩ := List.mem_iff_getElem?.mp z
        exact (((hr7 i u hi).same (off_same _ _)).same sZ).rx
    rw [decide_eq_false c5]
    refine iteF ⟨_, rfl, rfl, _, rfl, ?_⟩
    by_cases c6 : V.int way = V.int 6
    · rw [decide_eq_true c6]
      refine iteT ?_
      refine ⟨_, rfl, (by show 4 ≤ sizeLine; decide), fun L hL => ?_⟩
      have nL := (hC5.ne hL).1
      have tL := same_upd (o := .lst [.int 7, .int (8), .int (9), .int (9)]) hL
      refine ⟨c, d, ns, m + 3, false, L, _, rfl, hC5.but tL, by omega, .of (off1 upd_same nL), by decide, by decide, fun iz y H6 hy hC6 sb6 => ?_⟩
      obtain ⟨mr, rfl, l1, l2⟩ : ∃ k : Int, y = .int k ∧ 7 ≤ k ∧ k ≤ 9 := by
        refine all_get (p := fun y => ∃ k : Int, y = .int k ∧ 7 ≤ k ∧ k ≤ 9) ?_ hy
        intro y' hy'
        simp only [List.mem_cons, List.not_mem_nil, or_false] at hy'
        rcases hy' with rfl | rfl | rfl | rfl
        · exact ⟨_, rfl, by decide, by decide⟩
        · exact ⟨_, rfl, by decide, by decide⟩
        · exact ⟨_, rfl, by decide, by decide⟩
        · exact ⟨_, rfl, by decide, by decide⟩
      have sb56 := (SameBut.of tL).trans sb6
      have hF6 := hF5.mono sb56
      have sb06 := sb05.trans sb56
      refine ⟨_, rfl, false, D, rfl, ⟨_, .of hF6.2.2.1⟩, fun E hE => lc_rel (R := fun _ y H => IRow c H y) (walk_seq (b := false)) hE (Nat.lt_of_le_of_lt (by omega : us.length ≤ 16) (by decide)) (fun H s => .of (s _ _ hF6.2.2.1)) (fun i y H H' s h => h.same s) ?_ ?_⟩
      · rintro i x H7 H8 hi s7 ⟨acc, hacc⟩ ⟨rfl, hx⟩ Rk kk
        obtain ⟨q, x, rfl, hxm, nqD, nqc, _, hqx⟩ := hF6.2.2.2.2 i _ hx
        have hm := List.mem_of_getElem? hxm
        have hlx := hw x hm
        have h0 : x[0]? = some (x.getD 0 0) := by rw [List.getD_eq_getElem?_getD, List.getElem?_eq_getElem (by omega : 0 < x.length)]; rfl
        have hb0 := hb x hm _ (List.mem_of_getElem? h0)
        have h0' : (x.map V.int)[0]? = some (.int (x.getD 0 0)) := by rw [List.getElem?_map, h0]; rfl
        refine ⟨rfl, _, rfl, _, rfl, _, rfl, false, q, _, rfl, .of (s7 _ _ hqx), _, _, rfl, rfl, _, rfl, by rw [List.length_map]; omega, by rw [List.length_map]; omega, fun D9 hD9 => lc_fun (fun t => V.int ((0 + (t : Int) - 1) * x.getD 0 0)) walk_range hD9 ?_ (fun _ _ => trivial) ?_ ?_⟩
        · rw [List.length_map]
          exact Nat.lt_of_le_of_lt (by omega : _ ≤ 9) (by decide)
        · rintro t v H9 H10 ht s9 _ ⟨rfl, rfl⟩ Rk2 kk2
          rw [List.length_map] at ht
          exact ⟨rfl, _, rfl, _, 1, rfl, rfl, _, rfl, false, q, _, 0, _, rfl, rfl, .of (s9 _ _ (s7 _ _ hqx)), atI_nat (j := 0) h0', _, _, rfl, rfl, wide_mul (a := 100) (b := 100) (Nat.lt_of_le_of_lt (by omega : (0 + (t : Int) - 1).natAbs ≤ 100) (by decide)) (Nat.lt_of_le_of_lt hb0 (by decide)) (by decide) (by decide) (by decide), kk2 _ (Same.refl _)⟩
        · intro H9 hD9' s9
          have s79 := s7.trans s9
          refine ⟨q, D9, _, _, rfl, rfl, s79 _ _ hqx, hD9', Nat.le_trans (by simp only [List.length_map, List.length_range]; omega : _ ≤ 50) (by decide), fun Z hZ => ?_⟩
          have sZ := same_upd (o := .lst (x.map V.int ++ (List.range (mr - (((x.map V.int).length : Nat) : Int)).toNat).map fun t : Nat => V.int ((0 + (t : Int) - 1) * x.getD 0 0))) hZ
          refine kk _ _ (s9.trans sZ) ⟨Z, x.map V.int ++ (List.range (mr - (((x.map V.int).length : Nat) : Int)).toNat).map fun t : Nat => V.int ((0 + (t : Int) - 1) * x.getD 0 0), rfl, fresh1 hC6 s79 hZ, ?_, ?_, ?_⟩
          · rw [off_ne (fun e => by rw [e, s9 _ _ hacc] at hZ; cases hZ)]
            exact upd_same
          · simp only [List.length_append, List.length_map, List.length_range]
            omega
          · intro y hy
            rcases List.mem_append.mp hy with z | z
            · obtain ⟨b, hbm, rfl⟩ := List.mem_map.mp z
              exact ⟨b, rfl, Nat.lt_of_le_of_lt (hb x hm b hbm) (by decide)⟩
            · obtain ⟨t, ht, rfl⟩ := List.mem_map.mp z
              have := List.mem_range.mp ht
              refine ⟨_, rfl, ?_⟩
              rw [Int.mul_comm]
              exact bound100 hb0 (by rw [List.length_map] at this; omega)
      rintro H7 ⟨acc, la, hE7, s7, hr7⟩
      refine fin (some (.int mr)) _ E acc way (at' : Nat) (spot : Nat) (hC6.ne hE).1 hE7 (by rw [← List.length_pos_iff]; omega) (by omega) ?_ ((hC6.but s7).more (by omega)) (sb06.trans (SameBut.of s7))
      intro u hu
      obtain ⟨i, hi⟩ := List.mem_iff_getElem?.mp hu
      exact ((hr7 i u hi).same (off_same _ _)).rx
    rw [decide_eq_false c6]
    refine iteF ?_
    refine ⟨_, rfl, fun p1 hp1 => ?_⟩
    have n1 : p1 ≠ c := fresh1 hC5 (Same.refl H5) hp1
    have s1 := same_upd (o := .dK []) hp1
    have z1 : upd H5 p1 (.dK []) p1 = some (.dK []) := upd_same
    have t1 := s1
    generalize upd H5 p1 (.dK []) = G1 at s1 t1 z1 ⊢
    refine ⟨(by show 0 ≤ sizeLine; decide), fun p2 hp2 => ?_⟩
    have n2 : p2 ≠ c := fresh1 hC5 t1 hp2
    have s2 := same_upd (o := .lst []) hp2
    have z2 : upd G1 p2 (.lst []) p2 = some (.lst []) := upd_same
    have t2 := t1.trans s2
    replace z1 := s2 _ _ z1
    generalize upd G1 p2 (.lst []) = G2 at s2 t2 z2 z1 ⊢
    refine ⟨(by show 0 ≤ sizeLine; decide), fun p3 hp3 => ?_⟩
    have n3 : p3 ≠ c := fresh1 hC5 t2 hp3
    have s3 := same_upd (o := .tup []) hp3
    have z3 : upd G2 p3 (.tup []) p3 = some (.tup []) := upd_same
    have t3 := t2.trans s3
    replace z1 := s3 _ _ z1
    replace z2 := s3 _ _ z2
    generalize upd G2 p3 (.tup []) = G3 at s3 t3 z3 z1 z2 ⊢
    refine ⟨(by show 0 ≤ sizeLine; decide), fun p4 hp4 => ?_⟩
    have n4 : p4 ≠ c := fresh1 hC5 t3 hp4
    have s4 := same_upd (o := .lst []) hp4
    have z4 : upd G3 p4 (.lst []) p4 = some (.lst []) := upd_same
    have t4 := t3.trans s4
    replace z1 := s4 _ _ z1
    replace z2 := s4 _ _ z2
    replace z3 := s4 _ _ z3
    generalize upd G3 p4 (.lst []) = G4 at s4 t4 z4 z1 z2 z3 ⊢
    refine ⟨(by show 1 ≤ sizeLine; decide), fun p5 hp5 => ?_⟩
    have n5 : p5 ≠ c := fresh1 hC5 t4 hp5
    have s5 := same_upd (o := .lst [.ref p4]) hp5
    have z5 : upd G4 p5 (.lst [.ref p4]) p5 = some (.lst [.ref p4]) := upd_same
    have t5 := t4.trans s5
    replace z1 := s5 _ _ z1
    replace z2 := s5 _ _ z2
    replace z3 := s5 _ _ z3
    replace z4 := s5 _ _ z4
    generalize upd G4 p5 (.lst [.ref p4]) = G5 at s5 t5 z5 z1 z2 z3 z4 ⊢
    refine ⟨(by show 0 ≤ sizeLine; decide), fun p6 hp6 => ?_⟩
    have n6 : p6 ≠ c := fresh1 hC5 t5 hp6
    have s6 := same_upd (o := .tup []) hp6
    have z6 : upd G5 p6 (.tup []) p6 = some (.tup []) := upd_same
    have t6 := t5.trans s6
    replace z1 := s6 _ _ z1
    replace z2 := s6 _ _ z2
    replace z3 := s6 _ _ z3
    replace z4 := s6 _ _ z4
    replace z5 := s6 _ _ z5
    generalize upd G5 p6 (.tup []) = G6 at s6 t6 z6 z1 z2 z3 z4 z5 ⊢
    refine ⟨(by show 1 ≤ sizeLine; decide), fun p7 hp7 => ?_⟩
    have n7 : p7 ≠ c := fresh1 hC5 t6 hp7
    have s7 := same_upd (o := .lst [.ref p6]) hp7
    have z7 : upd G6 p7 (.lst [.ref p6]) p7 = some (.lst [.ref p6]) := upd_same
    have t7 := t6.trans s7
    replace z1 := s7 _ _ z1
    replace z2 := s7 _ _ z2
    replace z3 := s7 _ _ z3
    replace z4 := s7 _ _ z4
    replace z5 := s7 _ _ z5
    replace z6 := s7 _ _ z6
    generalize upd G6 p7 (.lst [.ref p6]) = G7 at s7 t7 z7 z1 z2 z3 z4 z5 z6 ⊢
    refine ⟨(by show 1 ≤ sizeLine; decide), fun p8 hp8 => ?_⟩
    have n8 : p8 ≠ c := fresh1 hC5 t7 hp8
    have s8 := same_upd (o := .lst [.bl true]) hp8
    have z8 : upd G7 p8 (.lst [.bl true]) p8 = some (.lst [.bl true]) := upd_same
    have t8 := t7.trans s8
    replace z1 := s8 _ _ z1
    replace z2 := s8 _ _ z2
    replace z3 := s8 _ _ z3
    replace z4 := s8 _ _ z4
    replace z5 := s8 _ _ z5
    replace z6 := s8 _ _ z6
    replace z7 := s8 _ _ z7
    generalize upd G7 p8 (.lst [.bl true]) = G8 at s8 t8 z8 z1 z2 z3 z4 z5 z6 z7 ⊢
    refine ⟨(by show 1 ≤ sizeLine; decide), fun p9 hp9 => ?_⟩
    have n9 : p9 ≠ c := fresh1 hC5 t8 hp9
    have s9 := same_upd (o := .lst [.ref p8]) hp9
    have z9 : upd G8 p9 (.lst [.ref p8]) p9 = some (.lst [.ref p8]) := upd_same
    have t9 := t8.trans s9
    replace z1 := s9 _ _ z1
    replace z2 := s9 _ _ z2
    replace z3 := s9 _ _ z3
    replace z4 := s9 _ _ z4
    replace z5 := s9 _ _ z5
    replace z6 := s9 _ _ z6
    replace z7 := s9 _ _ z7
    replace z8 := s9 _ _ z8
    generalize upd G8 p9 (.lst [.ref p8]) = G9 at s9 t9 z9 z1 z2 z3 z4 z5 z6 z7 z8 ⊢
    refine ⟨(by show 1 ≤ sizeLine; decide), fun p10 hp10 => ?_⟩
    have n10 : p10 ≠ c := fresh1 hC5 t9 hp10
    have s10 := same_upd (o := .lst [.int 0]) hp10
    have z10 : upd G9 p10 (.lst [.int 0]) p10 = some (.lst [.int 0]) := upd_same
    have t10 := t9.trans s10
    replace z1 := s10 _ _ z1
    replace z2 := s10 _ _ z2
    replace z3 := s10 _ _ z3
    replace z4 := s10 _ _ z4
    replace z5 := s10 _ _ z5
    replace z6 := s10 _ _ z6
    replace z7 := s10 _ _ z7
    replace z8 := s10 _ _ z8
    replace z9 := s10 _ _ z9
    generalize upd G9 p10 (.lst [.int 0]) = G10 at s10 t10 z10 z1 z2 z3 z4 z5 z6 z7 z8 z9 ⊢
    refine ⟨(by show 1 ≤ sizeLine; decide), fun p11 hp11 => ?_⟩
    have n11 : p11 ≠ c := fresh1 hC5 t10 hp11
    have s11 := same_upd (o := .lst [.ref p10]) hp11
    have z11 : upd G10 p11 (.lst [.ref p10]) p11 = some (.lst [.ref p10]) := upd_same
    have t11 := t10.trans s11
    replace z1 := s11 _ _ z1
    replace z2 := s11 _ _ z2
    replace z3 := s11 _ _ z3
    replace z4 := s11 _ _ z4
    replace z5 := s11 _ _ z5
    replace z6 := s11 _ _ z6
    replace z7 := s11 _ _ z7
    replace z8 := s11 _ _ z8
    replace z9 := s11 _ _ z9
    replace z10 := s11 _ _ z10
    generalize upd G10 p11 (.lst [.ref p10]) = G11 at s11 t11 z11 z1 z2 z3 z4 z5 z6 z7 z8 z9 z10 ⊢
    refine ⟨(by show 2 ≤ sizeLine; decide), fun p12 hp12 => ?_⟩
    have n12 : p12 ≠ c := fresh1 hC5 t11 hp12
    have s12 := same_upd (o := .tup [.int 0, .int 0]) hp12
    have z12 : upd G11 p12 (.tup [.int 0, .int 0]) p12 = some (.tup [.int 0, .int 0]) := upd_same
    have t12 := t11.trans s12
    replace z1 := s12 _ _ z1
    replace z2 := s12 _ _ z2
    replace z3 := s12 _ _ z3
    replace z4 := s12 _ _ z4
    replace z5 := s12 _ _ z5
    replace z6 := s12 _ _ z6
    replace z7 := s12 _ _ z7
    replace z8 := s12 _ _ z8
    replace z9 := s12 _ _ z9
    replace z10 := s12 _ _ z10
    replace z11 := s12 _ _ z11
    generalize upd G11 p12 (.tup [.int 0, .int 0]) = G12 at s12 t12 z12 z1 z2 z3 z4 z5 z6 z7 z8 z9 z10 z11 ⊢
    refine ⟨(by show 2 ≤ sizeLine; decide), fun p13 hp13 => ?_⟩
    have n13 : p13 ≠ c := fresh1 hC5 t12 hp13
    have s13 := same_upd (o := .lst [.int 2, .int 1]) hp13
    have z13 : upd G12 p13 (.lst [.int 2, .int 1]) p13 = some (.lst [.int 2, .int 1]) := upd_same
    have t13 := t12.trans s13
    replace z1 := s13 _ _ z1
    replace z2 := s13 _ _ z2
    replace z3 := s13 _ _ z3
    replace z4 := s13 _ _ z4
    replace z5 := s13 _ _ z5
    replace z6 := s13 _ _ z6
    replace z7 := s13 _ _ z7
    replace z8 := s13 _ _ z8
    replace z9 := s13 _ _ z9
    replace z10 := s13 _ _ z10
    replace z11 := s13 _ _ z11
    replace z12 := s13 _ _ z12
    generalize upd G12 p13 (.lst [.int 2, .int 1]) = G13 at s13 t13 z13 z1 z2 z3 z4 z5 z6 z7 z8 z9 z10 z11 z12 ⊢
    refine ⟨(by show 2 ≤ sizeLine; decide), fun p14 hp14 => ?_⟩
    have n14 : p14 ≠ c := fresh1 hC5 t13 hp14
    have s14 := same_upd (o := .tup [.ref p12, .ref p13]) hp14
    have z14 : upd G13 p14 (.tup [.ref p12, .ref p13]) p14 = some (.tup [.ref p12, .ref p13]) := upd_same
    have t14 := t13.trans s14
    replace z1 := s14 _ _ z1
    replace z2 := s14 _ _ z2
    replace z3 := s14 _ _ z3
    replace z4 := s14 _ _ z4
    replace z5 := s14 _ _ z5
    replace z6 := s14 _ _ z6
    replace z7 := s14 _ _ z7
    replace z8 := s14 _ _ z8
    replace z9 := s14 _ _ z9
    replace z10 := s14 _ _ z10
    replace z11 := s14 _ _ z11
    replace z12 := s14 _ _ z12
    replace z13 := s14 _ _ z13
    generalize upd G13 p14 (.tup [.ref p12, .ref p13]) = G14 at s14 t14 z14 z1 z2 z3 z4 z5 z6 z7 z8 z9 z10 z11 z12 z13 ⊢
    refine ⟨(by show 13 ≤ sizeLine; decide), fun L hL => ?_⟩
    have nL := fresh1 hC5 t14 hL
    have sL := same_upd (o := .lst [.non, .int 5, .bl true, .str (Str.ofString "rows"), .str (Str.ofString ""), .ref p1, .ref p2, .ref p3, .ref p5, .ref p7, .ref p9, .ref p11, .ref p14]) hL
    have tL := t14.trans sL
    refine ⟨c, d, ns, m + 3, false, L, [.non, .int 5, .bl true, .str (Str.ofString "rows"), .str (Str.ofString ""), .ref p1, .ref p2, .ref p3, .ref p5, .ref p7, .ref p9, .ref p11, .ref p14], rfl, hC5.but tL, by omega, .of (off1 upd_same nL), Nat.le_of_ble_eq_true rfl, Nat.le_of_ble_eq_true rfl, fun iz y H7 hy hC7 sb7 => ?_⟩
    refine k _ _ ?_ (hC7.more (by omega)) ((sb05.trans (SameBut.of tL)).trans sb7)
    refine Bnt.same (sameT sb7) (all_get (p := fun y => Bnt K (OffT c (upd G14 L _)) y) ?_ hy)
    have o1 := offT1 (sL _ _ z1) n1
    have o2 := offT1 (sL _ _ z2) n2
    have o3 := offT1 (sL _ _ z3) n3
    have o4 := offT1 (sL _ _ z4) n4
    have o5 := offT1 (sL _ _ z5) n5
    have o6 := offT1 (sL _ _ z6) n6
    have o7 := offT1 (sL _ _ z7) n7
    have o8 := offT1 (sL _ _ z8) n8
    have o9 := offT1 (sL _ _ z9) n9
    have o10 := offT1 (sL _ _ z10) n10
    have o11 := offT1 (sL _ _ z11) n11
    have o12 := offT1 (sL _ _ z12) n12
    have o13 := offT1 (sL _ _ z13) n13
    have o14 := offT1 (sL _ _ z14) n14
    intro y' hy'
    simp only [List.mem_cons, List.not_mem_nil, or_false] at hy'
    rcases hy' with rfl | rfl | rfl | rfl | rfl | rfl | rfl | rfl | rfl | rfl | rfl | rfl | rfl
    · exact bnt_flat .non .non rfl (shN_none.more (Nat.le_refl _) (by decide))
    · exact bnt_flat (.int 5) (.int 5) rfl ((shN_int (by decide)).more (Nat.le_refl _) (by decide))
    · exact bnt_flat (.bl true) (.bl true) rfl ((shN_bool true).more (Nat.le_refl _) (by decide))
    · exact bnt_flat (.str _) (.str _) rfl (shN_str (by decide +kernel))
    · exact bnt_flat (.str _) (.str _) rfl (shN_str (by decide +kernel))
    · exact bnt_dict o1
    · exact bnt_nilL o2
    · exact bnt_nilT o3
    · exact bnt_l o5 (by simp) (Nat.le_of_ble_eq_true rfl) (by intro u hu; rw [List.mem_singleton.mp hu]; exact rx_cells o4 (by decide) no_cells)
    · exact bnt_l o7 (by simp) (Nat.le_of_ble_eq_true rfl) (by intro u hu; rw [List.mem_singleton.mp hu]; exact rx_tup o6 (by decide) no_cells)
    · exact bnt_l o9 (by simp) (Nat.le_of_ble_eq_true rfl) (by intro u hu; rw [List.mem_singleton.mp hu]; exact rx_cells o8 (by decide) (one_cell (.bl _)))
    · exact bnt_l o11 (by simp) (Nat.le_of_ble_eq_true rfl) (by intro u hu; rw [List.mem_singleton.mp hu]; exact rx_cells o10 (by decide) (one_cell (.int (by decide))))
    · refine bnt_t o14 (by simp) (Nat.le_of_ble_eq_true rfl) fun u hu => ?_
      simp only [List.mem_cons, List.not_mem_nil, or_false] at hu
      rcases hu with rfl | rfl
      · exact rx_tup o12 (by decide) fun y hy => by
          simp only [List.mem_cons, List.not_mem_nil, or_false, or_self] at hy
          rw [hy]; exact .int (by decide)
      · exact rx_cells o13 (by decide) fun y hy => by
          simp only [List.mem_cons, List.not_mem_nil, or_false] at hy
          rcases hy with rfl | rfl <;> exact .int (by decide)
end
end K0


set_option Elab.async false
set_option linter.all false
set_option maxRecDepth 100000
set_option maxHeartbeats 8000000
namespace K0
open PySem PySem.Spec PyProof.Rows L2 RZ K0z K3

theorem head_len {M : List Vec} {n : Nat} (hne : M ≠ []) (h : ∀ r ∈ M, r.length = n) : (M.headD []).length = n := by
  cases M with
  | nil => exact absurd rfl hne
  | cons x M => exact h x List.mem_cons_self
theorem own_rank {M : List Vec} {n : Nat} (hne : M ≠ []) (h : ∀ r ∈ M, r.length = n) : rankL M = ((ownS M (wideOf M)).2 : Nat) := by
  obtain ⟨E, hE, e, hk⟩ := own_ech h
  have r := rank_eq hE hk
  unfold rankL wideOf
  rw [head_len hne h, e]
  omega
theorem rank_of_ranked {M : List Vec} {w r : Nat} (hne : M ≠ []) (h : Ranked w r M) : rankL M = (r : Nat) := by
  have e := h.rank
  unfold rankL
  rw [head_len hne h.len]
  omega
theorem rank_of_cols {M : List Vec} {w r : Nat} (hw : 1 ≤ w) (h : Ranked w r M) : rankL ((List.range w).map fun j => M.map fun row => row.getD j 0) = (r : Nat) := by
  have e := h.cols
  unfold rankL
  rw [head_len (n := M.length) (by cases w with | zero => omega | succ w => simp [List.range_succ]) (fun x hx => by
    obtain ⟨j, _, rfl⟩ := List.mem_map.mp hx
    rw [List.length_map])]
  omega
theorem span_of_ranked {M pts : List Vec} {w r : Nat} {p0 : Vec} (h : Ranked w r M) (h0 : p0.length = w) (hp : pts.Perm (p0 :: M.map (addV p0))) : spanL pts = (r : Nat) := by
  obtain ⟨E, hE, el, hk⟩ := h.ker
  have hM := h.len
  have m0 : p0 ∈ pts := hp.mem_iff.mpr List.mem_cons_self
  have e := span_eq (pts := pts) hE h0 hM hk m0 (fun p hm => by
    rcases List.mem_cons.mp (hp.mem_iff.mp hm) with z | z
    · exact .inl z
    · obtain ⟨d, hd, rfl⟩ := List.mem_map.mp z
      exact .inr ⟨d, hd, rfl⟩) (fun d hd => hp.mem_iff.mpr (List.mem_cons_of_mem _ (List.mem_map.mpr ⟨d, hd, rfl⟩)))
  have hl : (pts.headD []).length = w := head_len (List.ne_nil_of_mem m0) fun p hm => by
    rcases List.mem_cons.mp (hp.mem_iff.mp hm) with z | z
    · rw [z]; exact h0
    · obtain ⟨d, hd, rfl⟩ := List.mem_map.mp z
      unfold addV
      rw [List.length_zipWith, h0, hM d hd, Nat.min_self]
  unfold spanL
  rw [hl]
  omega
theorem span_same {p0 : Vec} {pts : List Vec} (hne : pts ≠ []) (h : ∀ p ∈ pts, p = p0) : spanL pts = 0 := by
  have m0 : p0 ∈ pts := by
    cases pts with
    | nil => exact absurd rfl hne
    | cons x pts => rw [← h x List.mem_cons_self]; exact List.mem_cons_self
  have e := span_eq (pts := pts) (D := []) (E := []) (w := p0.length) .nil rfl (fun _ h => absurd h List.not_mem_nil) (fun x _ => ⟨fun _ _ h => absurd h List.not_mem_nil, fun _ _ h => absurd h List.not_mem_nil⟩) m0 (fun p hm => .inl (h p hm)) (fun _ h => absurd h List.not_mem_nil)
  unfold spanL
  rw [head_len hne (fun p hm => by rw [h p hm])]
  simp only [List.length_nil] at e
  omega
theorem span_nil : spanL [] = -1 := by decide
theorem add_sub : ∀ (a b : Vec), a.length = b.length → addV b (subV a b) = a
  | [], [], _ => rfl
  | [], _ :: _, h => by cases h
  | _ :: _, [], h => by cases h
  | x :: a, y :: b, h => by
    have e := add_sub a b (by simpa using h)
    unfold addV subV at e ⊢
    simp only [List.zipWith_cons_cons, e]
    congr 1
    omega
theorem steps_len {M : List Vec} {n : Nat} (h : ∀ r ∈ M, r.length = n) : ∀ d ∈ stepsL M, d.length = n := fun d hd => by
  obtain ⟨x, hx, rfl⟩ := List.mem_map.mp hd
  have hm := List.mem_of_mem_drop hx
  unfold subV
  rw [List.length_zipWith, h x hm, head_len (List.ne_nil_of_mem hm) h, Nat.min_self]
theorem own_span {M : List Vec} {n : Nat} (hne : M ≠ []) (h : ∀ r ∈ M, r.length = n) : spanL M = ((ownS (stepsL M) (wideOf (stepsL M))).2 : Nat) := by
  cases M with
  | nil => exact absurd rfl hne
  | cons p0 M =>
    cases M with
    | nil =>
      rw [span_same hne (p0 := p0) fun p hp => List.mem_singleton.mp hp]
      rfl
    | cons p1 M =>
      have h0 := h p0 List.mem_cons_self
      have hs := steps_len h
      have hw : wideOf (stepsL (p0 :: p1 :: M)) = n := head_len (by simp [stepsL]) hs
      obtain ⟨E, hE, e, hk⟩ := own_ech hs
      have r := span_eq (pts := p0 :: p1 :: M) (p0 := p0) hE h0 hs hk List.mem_cons_self (fun p hm => by
        rcases List.mem_cons.mp hm with z | z
        · exact .inl z
        · exact .inr ⟨subV p p0, List.mem_map.mpr ⟨p, z, rfl⟩, (add_sub p p0 (by rw [h p hm, h0])).symm⟩) (fun d hd => by
        obtain ⟨x, hx, rfl⟩ := List.mem_map.mp hd
        have hm : x ∈ p0 :: p1 :: M := List.mem_of_mem_drop hx
        show addV p0 (subV x p0) ∈ _
        rw [add_sub x p0 (by rw [h x hm, h0])]
        exact hm)
      unfold spanL
      rw [hw, e, head_len hne h]
      omega
end K0


set_option Elab.async false
set_option linter.all false
set_option maxRecDepth 100000
set_option maxHeartbeats 8000000
set_option exponentiation.threshold 100000
namespace K0
open PySem PySem.Spec PyProof.Rows L2 RZ K0z K3

/-! ### defs that may raise -/
structure DnX (P : Program) (w : World) (K : PySem.W.Frag) (mg : Str → Option Value) (base : Heap) (k : Nat) (x : Str) (f : Addr) (ps : List Str) (sp : Sp) : Prop where
  ex : ∃ fd, FnOk P w K mg base (L2.CX P w) k f fd ps sp ∧ Binds K fd ps []
  mg : mg x = some (.ref f)
  kp : PySem.W.keepIn K (.ref f) = true
structure DnKX (P : Program) (w : World) (K : PySem.W.Frag) (mg : Str → Option Value) (base : Heap) (k : Nat) (x : Str) (f : Addr) (ps ks : List Str) (gV : List V → List V → List V) (sp : Sp) : Prop where
  ex : ∃ fd g, FnOk P w K mg base (L2.CX P w) k f fd ps sp ∧ KBn K fd ps 0 ks g gV
  mg : mg x = some (.ref f)
  kp : PySem.W.keepIn K (.ref f) = true
section
variable {X : Cx} {k : Nat} {f : Addr} {ps ks : List Str} {sp : Sp} {x : Str} {p pos : Pos} {e : Expr} {es : List Expr} {kws : List Keyword} {t tk : TA} {gV : List V → List V → List V}
theorem pe_dnx (D : DnX X.prog X.w X.K X.mg X.base k x f ps sp) (hr : Room k X.A) (hg : Gl X x) (ha : PA X (e :: es) t)
    (hdb : (x == ("__debug__" : Str)) = false := by decide)
    (he : starEach (e :: es) X.env = (false, eval e X.env) :: starEach es X.env := by rfl)
    (hpl : (backTo pos (starEach es X.env)).any (·.1) = false := by rfl) :
    PE X (.Call (.Name x p) (e :: es) [] pos) (tDn sp t) := by
  obtain ⟨⟨fd, F, B⟩, m, kp⟩ := D
  have h := pe_call (p := p) F hr hg m kp B .nil passL ha hdb he hpl
  refine ⟨fun pins s σ H Q I q => h.run pins s σ H Q I ?_⟩
  have e1 : tCall sp [] E0 t σ H Q = tDn sp t σ H Q := by
    show t σ H (fun vs H1 => sp (vs ++ []) H1 Q E0) = _
    simp only [List.append_nil]
    rfl
  rw [e1]
  exact q
theorem pe_dkx (D : DnKX X.prog X.w X.K X.mg X.base k x f ps ks gV sp) (hr : Room k X.A) (hg : Gl X x) (hkw : PK X kws tk)
    (hall : (backToKw pos (keywordEach kws X.env)).all (·.1.isSome) = true := by rfl)
    (hks : (backToKw pos (keywordEach kws X.env)).filterMap (·.1) = ks := by rfl)
    (hdb : (x == ("__debug__" : Str)) = false := by decide)
    (hpl : ((backTo pos (starEach [] X.env)).any (·.1) || (backToKw pos (keywordEach kws X.env)).any (·.1.isNone)) = false := by rfl) :
    PE X (.Call (.Name x p) [] kws pos) (fun σ H Q => tk σ H fun zs H1 => zs.length = ks.length ∧ sp (gV [] zs) H1 Q E0) := by
  obtain ⟨⟨fd, g, F, hb⟩, hm, hk⟩ := D
  refine ⟨fun pins s σ H Q I h => wpAny_Call_Name_kw (ld_glob I hg hm ?_ hdb)⟩
  refine PySem.W.callWith_KW0 (h₀ := X.base) I.ok.mod.kin hk hall
    (thn (hkw.run pos pins s σ H _ I h) ?_) hpl
  rintro ws s2 ⟨zs, H2, I2, rz, l2, q2⟩
  refine ⟨I2.kIn, ?_⟩
  rw [hks]
  exact run_fnN (us := []) (vs := []) F hr hb passL I2 .nil rz rfl l2 q2
end
/-- the def, its code object at c -/
def FunC (K : PySem.W.Frag) (x qual : Str) (st : Stmt) (f : Addr) (fd : FuncData) (c : Addr) : Prop :=
  ∃ (oc : Value) (od : Option Addr) (kV doc pm : Value) (an : Option Addr) (ct : Value) (osl : Array (Option Value)),
    fd = PySem.W.fnOf x qual (defArgs st) (defBody st) (defScope st) .none kV doc pm an (.ref c) ct ∧ K.lookup f = some ⟨oc, od, .func fd, osl⟩ ∧ PySem.W.codeIn K (.ref c) qual = true
theorem Fun_okC {P : Program} {w : World} {K : PySem.W.Frag} {mg : Str → Option Value} {base : Heap}
    {x qual : Str} {st : Stmt} {f c : Addr} {fd : FuncData} {N ps : List Str} {k : Nat} {sp : Sp}
    (F : FunC K x qual st f fd c) (S : FnScope N ps (defScope st))
    (len : ∀ vs H Q E, sp vs H Q E → vs.length = ps.length)
    (hbody : ∀ (A : Around) (outer : List Env) (s : Shared) (H : Hp) (vs : List V) (Q : VK) (E : XK),
      A.guards = some [] → Room k (A.deeper (envOfC qual (defScope st) s.heap.objs.size f (.ref c))) → sp vs H Q E →
      ∃ t, PSs (cxOf CX0 P w K mg base N qual (defScope st) f (.ref c) A outer s H E).nox (defBody st) t ∧
        t { nx := fun _ H' => Q .non H', rt := Q } (start N vs) H) :
    FnG P w K mg base (k + 1) f fd ps sp := by
  obtain ⟨oc, od, kV, doc, pm, an, ct, osl, rfl, lk, hcd⟩ := F
  refine ⟨len, ?_⟩
  intro A outer s H args us vs Q E hg hr e0 hb r hsp
  have kept : ∀ b o, base.get? b = some o → s.heap.get? b = some o := fun b o e => (e0.bs b o e).1
  have KX : K.In s.heap := e0.mod.kin.keeps kept
  have lim : s.heap.NoLimit := e0.mod.nolimit.keeps kept
  refine codeAny_call_function hr.depth (KX _ _ lk) rfl S.co S.gen rfl
    (PySem.W.codeRec_of KX hcd) (hb _ _ _ _ ?_)
  refine wpAny_newFunctionEnv_cells S.kind ?_ ?_
  · rintro ⟨n, v⟩ hy
    cases S.par n (List.of_mem_zip hy).1 with
    | inl q => exact Or.inl q
    | inr q => exact Or.inr ⟨q, PySem.W.cellsFrom_some _ _ _ (Or.inl q)⟩
  · intro env he s1 x
    subst he
    obtain ⟨t, ht', hq⟩ := hbody A outer s H vs Q E hg (hr.deeper _) hsp
    have ht := ht'.nox
    refine ⟨lim.keeps x.toInCall.keep, codeAny_func ?_⟩
    have I := inv_start (CX := CX0) (E := E) (N := N) (cd := .ref c) S hr.hd e0 (len _ _ _ _ hsp) r x
    refine wpAny_mono (ht.run [] s1 (start N vs) H _ I hq) ?_ (fun _ _ z => z)
    intro fl s' hs
    cases fl with
    | ret u =>
      obtain ⟨v, σ', H', J, rv, q⟩ := hs
      exact ⟨v, H', J.os, J.bare, J.base, J.hok, rv, q⟩
    | next =>
      obtain ⟨σ', H', J, q⟩ := hs
      exact ⟨.non, H', J.os, J.bare, J.base, J.hok, rfl, q⟩
    | brk =>
      obtain ⟨_, _, _, q⟩ := hs
      cases q
    | cont =>
      obtain ⟨_, _, _, q⟩ := hs
      cases q
def kw1 : List V → List V → List V := fun _ zs => zs
theorem tabs_upd {T : List (Addr × Str)} {H : Hp} {p : Addr} {o : HO} {xs : List V} (t : LamX.Tabs T H) (h : H p = some (.lst xs)) : LamX.Tabs T (upd H p o) := by
  intro q hq
  obtain ⟨ps, h1, h2, h3⟩ := t q hq
  refine ⟨ps, ?_, h2, fun pos cv hc => ?_⟩
  · rw [upd_ne (fun e => by rw [e, h] at h1; cases h1)]
    exact h1
  · obtain ⟨c', e1, e2⟩ := h3 pos cv hc
    refine ⟨c', e1, ?_⟩
    rw [upd_ne (fun e => by rw [e, h] at e2; cases e2)]
    exact e2
def SBN (c : Addr) (H H' : Hp) : Prop := ∀ b o, b ≠ c → H b = some o → (∀ ps, o ≠ .tbl ps) → H' b = some o
theorem SBN.of {c : Addr} {H H' : Hp} (s : SameBut c H H') : SBN c H H' := fun b o n e _ => s b o n e
theorem SBN.ext {c : Addr} {H H' : Hp} (s : LamX.ExtN H H') : SBN c H H' := fun b o _ e q => s b o e q
theorem SBN.trans {c : Addr} {H H1 H2 : Hp} (a : SBN c H H1) (b : SBN c H1 H2) : SBN c H H2 := fun x o n e q => b x o n (a x o n e q) q
theorem Coil.ext {H H' : Hp} {c d : Addr} {ns : List Int} {m : Nat} (h : Coil H c d ns m) (s : LamX.ExtN H H') : Coil H' c d ns m := by
  obtain ⟨h1, h2, h3, a, b, h4, r⟩ := h
  exact ⟨h1, h2, s _ _ h3 (by intro ps e; cases e), a, b, s _ _ h4 (by intro ps e; cases e), r⟩
theorem tabs_but {T : List (Addr × Str)} {H H' : Hp} {c d : Addr} {ns : List Int} {m : Nat} (t : LamX.Tabs T H) (hC : Coil H c d ns m) (s : SameBut c H H') : LamX.Tabs T H' := by
  obtain ⟨_, _, _, a, b, h4, _⟩ := hC
  intro p hp
  obtain ⟨ps, h1, h2, h3⟩ := t p hp
  refine ⟨ps, s _ _ (fun e => by rw [e, h4] at h1; cases h1) h1, h2, fun pos cv hc => ?_⟩
  obtain ⟨c', e1, e2⟩ := h3 pos cv hc
  exact ⟨c', e1, s _ _ (fun e => by rw [e, h4] at e2; cases e2) e2⟩
end K0


set_option Elab.async false
set_option linter.all false
set_option maxRecDepth 100000
set_option maxHeartbeats 8000000
set_option exponentiation.threshold 100000
namespace K0
open PySem PySem.Spec PyProof.Rows L2 RZ K0z K3

def rIsQ (K : PySem.W.Frag) : List V → Hp → VK → Prop := fun xs H Q => ∃ (a C d : Addr) (c : V) (u : Value) (b : Bool) (o : HO),
  xs = [.ref a, c] ∧ ClsV c u ∧ H a = some (exq a C d) ∧ H d = some o ∧ ExcC K C ∧ PySem.W.kitOne K (.ref C) u = some b ∧ Q (.bl b) H
section
variable {X : Cx}
theorem call_isQ : CallR X (.builtin "isinstance") (rIsQ X.K) := by
  intro pins s σ H xs us Q I r h
  obtain ⟨a, C, d, c, u, b, o, rfl, k, ha, hd, T, e, q⟩ := h
  obtain ⟨u1, u2, rfl, r1, r2⟩ := vals2 r
  have e2 := k.eq r2
  subst e2
  cases r1
  obtain ⟨vs, sl, g1⟩ := exq_at I.hok ha
  obtain ⟨od, g4⟩ := obj_there I hd
  refine PySem.W.kia_one (PySem.K0x.kit_exc T.hg T.hk T.hs T.hd T.ha T.hn T.ht T.hm) I.kIn ?_ e (fun z => nomatch z) fun tk => ⟨.bl b, H, I.tok tk, rfl, q⟩
  exact ⟨_, some od, g1, rfl, rfl, g4⟩
/-- e.f, e an exception that was caught once -/
theorem pe_fldQ {te : TE} {f : Str} {pos : Pos} {o : Expr} (he : PE X o te) (hb : attributeBase o f X.env (eval o X.env) = eval o X.env := by rfl) :
    PE X (.Attribute o f pos) (fun σ H Q => te σ H fun y H1 => ∃ (a C d : Addr) (fs : List (Str × V)) (v : V), y = .ref a ∧ H1 a = some (exq a C d) ∧ H1 d = some (.xd fs) ∧
      XfC X.K C ∧ PySem.W.findIn X.K (.ref C) f = some none ∧ fs.lookup f = some v ∧ Q v H1) := by
  refine ⟨fun pins s σ H Q I h => attr_of hb (thn (he.run pins s σ H _ I h) ?_)⟩
  rintro u s1 ⟨y, H1, I1, rx, a, C, d, fs, v, rfl, ea, ed, T, hno, l, q⟩
  obtain rfl : u = Value.ref a := rx
  obtain ⟨vs, sl, g1⟩ := exq_at I1.hok ea
  obtain ⟨mA, hns, hr⟩ := (show ∃ mA, s1.heap.Ns1 d mA ∧ ∀ f, RelO (fs.lookup f) (mA f) from I1.hok d _ ed)
  obtain ⟨od, hod, hl⟩ := lookIn_ns hns
  obtain ⟨u, hu, ru⟩ := RelO.some_of (v := v) (o := mA f) (by rw [← l]; exact hr f)
  have J : PySem.W.InstAt s1.heap a _ C (some od) := ⟨g1, rfl, rfl, hod⟩
  exact HandSPX.exc_get I1.kIn J T.ga T.gg T.exC
    (PySem.W.findObj_own T.hdC hno rfl (by rw [hl, hu])) (handed_of ru) ⟨v, H1, I1.tok _, ru, q⟩
end
def TTr (K : PySem.W.Frag) (CS CB CP : Addr) : (XK → Hp → VK → Prop) → Hp → VK → Prop := fun tl H Q => ∀ Qn : VK,
  tl (fun cls d H' => ∃ (C dd : Addr) (fs : List (Str × V)) (v : V) (b : Bool), cls = .ref C ∧ d = some dd ∧ PySem.W.exmOne K (.ref C) (.ref CS) = some true ∧ PySem.W.kitOne K (.ref C) (.ref CB) = some b ∧ (b = false → PySem.W.kitOne K (.ref C) (.ref CP) = some true) ∧ ExcC K C ∧ XfC K C ∧
    PySem.W.findIn K (.ref C) "part" = some none ∧ H' dd = some (.xd fs) ∧ fs.lookup ("part" : Str) = some v ∧ ∀ a p, H' a = none → upd H' a (exq a C dd) p = none → Q (.ref p) (upd (upd H' a (exq a C dd)) p (.lst [.str (if b = true then "number" else "point"), v]))) H Qn
theorem sc_raised : FnScope ["ask", "caught", "error"] ["ask"] (defScope st__law_raised) := ⟨rfl, rfl, rfl, by decide +kernel, rfl, by decide +kernel, by decide +kernel⟩
theorem raised_gives {X : Cx} {g CS CB CP : Addr} {cdg : Value} {q x : Str} (mS : X.mg "SolidError" = some (.ref CS)) (mB : X.mg "BadNumber" = some (.ref CB)) (mP : X.mg "BadPoint" = some (.ref CP)) (mi : X.mg "isinstance" = none) :
    LamX.GivesTo X ["ask", "caught", "error"] x (defScope st__law_raised) g cdg (defBody st__law_raised) "ask" q (TTr X.K CS CB CP) := by
  intro f c' s H Q tl act hc h
  refine ⟨_, pss_cons (X := (cxOf C8.CX0 X.prog X.w X.K X.mg X.base ["ask", "caught", "error"] x (defScope st__law_raised) g cdg X.A X.stack s H C8.E0).nox) (ps_set (i := 1) sc_raised.nd rfl (Or.inl rfl) pe_non)
    (pss_cons (ps_try_keep (i := 2) (j := 1) (c := .ref CS)
      (tb := fun W D σ H => ∃ Ech : XK, (∀ (cls : Value) (d : Option Addr) (σ' : L2.St) (H' : Hp), Ech cls d H' → W cls d σ' H') ∧ σ[0]? = some (some (.ref f)) ∧ H c' = some (LamX.CodeO c' q) ∧ tl Ech H (fun _ H1 => D.nx σ H1))
      rfl rfl sc_raised.nd rfl rfl rfl rfl (by show 2 < 3; decide) ⟨by rfl, by decide, .inl mS⟩ rfl (fun W pn xe tk _ => ?_))
    (pss_cons (ps_if (pt_val (pe_callB call_isQ (by rfl) mi (by decide +kernel) (pa_cons (pv 1) (pa_cons (pe_glob (v := .ref CB) (by rfl) mB rfl (by decide)) pa_nil)))) (pss_one (ps_ret (pe_lst (pa_cons pe_str (pa_cons (pe_fldQ (pv 1)) pa_nil))))) pss_nil)
    (pss_cons (ps_if (pt_val (pe_callB call_isQ (by rfl) mi (by decide +kernel) (pa_cons (pv 1) (pa_cons (pe_glob (v := .ref CP) (by rfl) mP rfl (by decide)) pa_nil)))) (pss_one (ps_ret (pe_lst (pa_cons pe_str (pa_cons (pe_fldQ (pv 1)) pa_nil))))) pss_nil)
    (pss_one (ps_ret (pe_ifExp (pt_cmp (pc_isN (pv 1))) pe_non (pe_lst (pa_cons pe_str (pa_cons pe_str pa_nil))))))))), ?_⟩
  · refine ⟨fun pins s' σ H' D I h' => ?_⟩
    obtain ⟨Ech, hW, h1, h2, h3⟩ := h'
    exact (pss_one (ps_expr (act W pn xe Ech _ _ tk hW))).run pins s' σ H' D I ⟨h1, h2, h3⟩
  · refine ⟨_, fun cls d σ' H' e => ?_, rfl, hc, h _⟩
    obtain ⟨C, dd, fs, v, b, rfl, rfl, e1, e2, e2b, e3, e4, e5, e6, e7, e8⟩ := e
    refine ⟨C, dd, rfl, rfl, e1, fun a ha hl => ?_⟩
    have hl3 : σ'.length = 3 := hl
    obtain ⟨x0, x1, x2, rfl⟩ : ∃ x0 x1 x2, σ' = [x0, x1, x2] := by
      match σ', hl3 with
      | [x0, x1, x2], _ => exact ⟨x0, x1, x2, rfl⟩
    have hdd : upd H' a (exq a C dd) dd = some (.xd fs) := by
      rw [upd_ne (ne_of_none e6 ha)]
      exact e6
    refine ⟨_, rfl, a, C, dd, .ref CB, .ref CB, b, _, rfl, .own _, upd_same, hdd, e3, e2, b, rfl, ?_⟩
    cases b with
    | true => exact iteT ⟨_, rfl, a, C, dd, fs, v, rfl, upd_same, hdd, e4, e5, e7, (by show 2 ≤ sizeLine; decide), fun p hp => e8 a p ha hp⟩
    | false =>
      refine iteF ⟨_, rfl, a, C, dd, .ref CP, .ref CP, true, _, rfl, .own _, upd_same, hdd, e3, e2b rfl, true, rfl, iteT ?_⟩
      exact ⟨_, rfl, a, C, dd, fs, v, rfl, upd_same, hdd, e4, e5, e7, (by show 2 ≤ sizeLine; decide), fun p hp => e8 a p ha hp⟩
theorem ok_mat {vo : Option (List (Option (List V)))} {lo : Nat} (h : okB vo lo = true) : ∃ M n, vo = some (mat M) ∧ lo ≤ M.length ∧ M.length ≤ 16 ∧ 1 ≤ n ∧ n ≤ 8 ∧ ∀ r ∈ M, r.length = n := by
  cases vo with
  | none => cases h
  | some os =>
    obtain ⟨l1, l2, hg⟩ := ok_iff.mp h
    by_cases hne : os = []
    · subst hne
      exact ⟨[], 1, rfl, l1, l2, Nat.le_refl _, by decide, fun _ h => absurd h List.not_mem_nil⟩
    · obtain ⟨M, n, rfl, _, n1, n8, hn⟩ := pts_mat ((pts_iff hne).mpr hg)
      have e : (mat M).length = M.length := by simp [mat]
      exact ⟨M, n, rfl, by omega, by omega, n1, n8, hn⟩
/-- the lambdas' own name -/
def qL : Str := ("_law_bent_right.<locals>.<lambda>" : Str)
def spBentR (K : PySem.W.Frag) (PT : Addr) : Sp := fun vs H Q _ => ∃ (c : Addr) (v : V), vs = [v] ∧ Bnt K (OffT c H) v ∧ LamX.Tabs [(PT, qL)] H ∧
  ∀ H' : Hp, LamX.ExtN H H' → LamX.Tabs [(PT, qL)] H' → Q (.bl true) H'
theorem ext_up {c : Addr} {H H' : Hp} (x : LamX.ExtN H H') : Same (OffT c H) H' := upT fun b o _ h t => x b o h fun ps e => by rw [e] at t; cases t
theorem int_it {n : Int} {K : PySem.W.Frag} {H : Hp} : It K H (.int n) (.int n) := .dp (.int n) rfl
theorem int_sh {n : Int} (h : n.natAbs < 2 ^ 85) : Short (.int n) := (shN_int h).short (by decide) (by decide)
end K0


set_option Elab.async false
set_option linter.all false
set_option maxRecDepth 100000
set_option maxHeartbeats 8000000
set_option exponentiation.threshold 100000
namespace K0
open PySem PySem.Spec PyProof.Rows L2 RZ K0z K3

section
variable {P : Program} {w : World} {K : PySem.W.Frag} {mg : Str → Option Value} {base : Heap} {f : Addr} {fd : FuncData}
theorem flP : [V.str "point", V.str "points"].all flat = true := by decide +kernel
theorem flR : [V.str "number", V.str "rows"].all flat = true := by decide +kernel
theorem sc_bent_right : FnScope ["value", "row", "due"] ["value"] (defScope st__law_bent_right) := ⟨rfl, rfl, rfl, by decide +kernel, rfl, by decide +kernel, by decide +kernel⟩
theorem ok_bent_right {cc PT f1 f2 f3 f4 f5 fh CB CP CS : Addr} {fdh : FuncData} (F : FunC K "_law_bent_right" "_law_bent_right" st__law_bent_right f fd cc) (T : Nm mg)
    (D__law_are_rows : Dn P w K mg base 2 "_law_are_rows" f1 ["value", "least"] (spLRows K)) (D__law_own_rank : Dn P w K mg base 2 "_law_own_rank" f2 ["rows"] (spOwn K)) (D__law_steps : Dn P w K mg base 2 "_law_steps" f3 ["points"] (spSteps K))
    (X_rank_of : DnX P w K mg base 7 "rank_of" f4 ["rows"] (spAsk K CB 1 "rows" rankL)) (X_span_of : DnX P w K mg base 7 "span_of" f5 ["points"] (spAsk K CP 0 "points" spanL))
    (FH : Fun K "_law_raised" "_law_raised" st__law_raised fh fdh) (bh : Binds K fdh ["ask"] []) (mh : mg "_law_raised" = some (.ref fh)) (kh : PySem.W.keepIn K (.ref fh) = true)
    (TB : LamX.TabB base mg cc PT) (mS : mg "SolidError" = some (.ref CS)) (mB : mg "BadNumber" = some (.ref CB)) (mP : mg "BadPoint" = some (.ref CP))
    (eB : PySem.W.exmOne K (.ref CB) (.ref CS) = some true) (eP : PySem.W.exmOne K (.ref CP) (.ref CS) = some true) (kBB : PySem.W.kitOne K (.ref CB) (.ref CB) = some true) (kPB : PySem.W.kitOne K (.ref CP) (.ref CB) = some false) (kPP : PySem.W.kitOne K (.ref CP) (.ref CP) = some true)
    (ecB : ExcC K CB) (xfB : XfC K CB) (noB : PySem.W.findIn K (.ref CB) "part" = some none) (ecP : ExcC K CP) (xfP : XfC K CP) (noP : PySem.W.findIn K (.ref CP) "part" = some none) :
    FnG P w K mg base 10 f fd ["value"] (spBentR K PT) := by
  obtain ⟨fdr, Frank_of, Brank_of⟩ := X_rank_of.ex
  obtain ⟨fds, Fspan_of, Bspan_of⟩ := X_span_of.ex
  obtain ⟨och, odh, kVh, doch, pmh, anh, cdvh, cth, oslh, rfl, lkH, hcdH⟩ := FH.ex
  refine Fun_okC F sc_bent_right (fun vs H Q E h => ?_) (fun A outer s H vs Q EE hG hr h => ?_)
  · obtain ⟨c, v, rfl, _⟩ := h
    rfl
  · obtain ⟨c, v, rfl, hB, hT, k⟩ := h
    obtain ⟨vo, dv, hv0, hsm9, hsw⟩ := hB
    have hsm := hsm9.small
    have hvA : ∀ H', LamX.ExtN H H' → ValAt K H' v vo := fun H' x => hv0.same (ext_up x)
    have hv : ValAt K H v vo := hvA H (LamX.ExtN.refl H)
    have ofS : ∀ {H1 H2 : Hp}, Same H1 H2 → LamX.ExtN H1 H2 := fun s => LamX.ExtN.of s
    obtain ⟨t2, h2, rest⟩ : ∃ t2, PSs (cxOf CX0 P w K mg base ["value", "row", "due"] "_law_bent_right" (defScope st__law_bent_right) f (.ref cc) A outer s H EE).nox ((defBody st__law_bent_right).drop 1) t2 ∧ ∀ (H1 : Hp), LamX.ExtN H H1 → LamX.Tabs [(PT, qL)] H1 →
        t2 { nx := fun _ H' => Q .non H', rt := Q } [some v, none, none] H1 := by
      refine ⟨_, (pss_cons (ps_if (pt_not (pt_val (pe_dn D__law_are_rows (hr.mono (by decide)) rfl (pa_cons (pv 0) (pa_cons pe_int pa_nil))))) (pss_one (ps_ret (pe_cmpR (op_eqD hr.units) (LamX.pe_lamcall (k := 7) (T := [(PT, qL)]) (TT := TTr K CS CB CP) (t := fun E => tCall (spAsk K CP 0 "points" spanL) [] E (tCons (tVar 0) tNil)) rfl mh kh lkH hcdH bh sc_raised rfl (Or.inl rfl) (raised_gives mS mB mP T.n_isinstance) TB rfl List.mem_cons_self (fun p hp _ => by cases List.mem_singleton.mp hp; rfl) (hr.mono (by decide)) (LamX.lamS_by (sc := defScope st__law_bent_right) (by decide +kernel)) rfl (fun _ _ _ _ _ => rfl) (fun A outer s H E f c' hr2 => pe_call Fspan_of hr2 rfl X_span_of.mg X_span_of.kp Bspan_of .nil (passes_call (takes_of rfl rfl rfl rfl) (fun _ _ _ _ h => h)) (pa_cons (pv 0) pa_nil))) (pe_lst (pa_cons pe_str (pa_cons pe_str pa_nil))) (nomark _)))) pss_nil)
    (pss_cons (ps_set (i := 2) sc_bent_right.nd rfl (Or.inl rfl) (pe_ifExp (pt_cmpR op_eq (pe_callB (call_lenK K) (by rfl) T.n_len (by decide +kernel) (pa_cons (pv 0) pa_nil)) pe_int (nomark _)) (pe_un un_neg pe_int) (pe_dn D__law_own_rank (hr.mono (by decide)) rfl (pa_cons (pe_dn D__law_steps (hr.mono (by decide)) rfl (pa_cons (pv 0) pa_nil)) pa_nil))))
    (pss_one (ps_ret (pe_cmpR op_eq (pe_callB (call_repr hG hr.units) (by rfl) T.n_repr (by decide +kernel) (pa_cons (pe_dnx X_span_of (hr.mono (by decide)) rfl (pa_cons (pv 0) pa_nil)) pa_nil)) (pe_callB (call_repr hG hr.units) (by rfl) T.n_repr (by decide +kernel) (pa_cons (pv 2) pa_nil)) (nomark _)))))), ?_⟩
      intro H1 x1 w1
      refine ⟨_, rfl, v, 0, vo, rfl, hvA H1 x1, fun H2 s2 => ⟨_, rfl, ?_⟩⟩
      have x2 := x1.trans (ofS s2)
      have w2 : LamX.Tabs [(PT, qL)] H2 := w1.ext s2
      cases c0 : okB vo 0 with
      | false =>
        refine iteT ?_
        refine ⟨w2, fun J1 y1 v1 Qn => ⟨_, rfl, v, vo, rfl, hvA J1 (x2.trans y1), hsm, fun e => absurd e (by rw [c0]; decide), fun _ dd J2 hdd ed sj => ⟨CP, dd, _, .str "points", false, rfl, rfl, eP, kPB, fun _ => kPP, ecP, xfP, noP, ed, rfl, fun a p ha hp => ?_⟩⟩⟩
        refine ⟨(by show 2 ≤ sizeLine; decide), fun l hl => ?_⟩
        have sa := same_upd (o := exq a CP dd) ha
        have sp := same_upd (o := .lst [.str (if (false : Bool) = true then "number" else "point"), .str "points"]) hp
        have sl := same_upd (o := .lst [.str "point", .str "points"]) hl
        have gp : upd (upd (upd J2 a (exq a CP dd)) p (.lst [.str (if (false : Bool) = true then "number" else "point"), .str "points"])) l (.lst [.str "point", .str "points"]) p = some (.lst [.str "point", .str "points"]) := sl _ _ upd_same
        refine ⟨_, _, dpL (.of gp) flP, dpL (xs := [.str "point", .str "points"]) (.of upd_same) flP, shapedL flP, shapedL flP, ?_⟩
        rw [eqv_same flP]
        have sx := sj.trans (sa.trans (sp.trans sl))
        exact k _ ((x2.trans y1).trans (ofS sx)) (v1.ext sx)
      | true =>
        refine iteF ?_
        obtain ⟨M, n, rfl, _, l16, n1, n8, hn⟩ := ok_mat c0
        have hR : RowsAt K H2 v M := rows_of_val (hvA H2 x2)
        obtain ⟨b, a, vs, rfl, hS, hl, hz⟩ := id hR
        refine ⟨_, rfl, b, a, vs, rfl, hS, rfl, _, rfl, ?_⟩
        -- the end, once due is known
        have fin : ∀ (r : Int) (H3 : Hp), Same H2 H3 → spanL M = r → r.natAbs < 2 ^ 85 → (tRet (tOp rEq (tCB (rRepr K) (tCons (tDn (spAsk K CP 0 "points" spanL) (tCons (tVar 0) tNil)) tNil)) (tCB (rRepr K) (tCons (tVar 2) tNil)))) { nx := fun _ H' => Q .non H', rt := Q } [some (.ref a), none, some (.int r)] H3 := by
          intro r H3 s3 er hb
          refine ⟨_, rfl, .ref a, some (mat M), rfl, hvA H3 (x2.trans (ofS s3)), hsm, fun _ N eN H4 s4 => ?_, fun e => absurd e (by rw [c0]; decide)⟩
          obtain rfl : N = M := mat_inj (Option.some.inj eN).symm
          rw [er]
          refine ⟨_, _, rfl, int_it, int_sh hb, _, rfl, _, _, rfl, int_it, int_sh hb, rfl, ?_⟩
          rw [decide_eq_true rfl]
          have sx := s3.trans s4
          exact k _ (x2.trans (ofS sx)) (w2.ext sx)
        by_cases c1 : V.int (vs.length : Nat) = V.int 0
        · rw [decide_eq_true c1]
          refine iteT ⟨1, rfl, ?_⟩
          have hM0 : M = [] := List.eq_nil_of_length_eq_zero (by have := V.int.inj c1; omega)
          subst hM0
          exact fin (-1) H2 (Same.refl H2) span_nil (by decide)
        · rw [decide_eq_false c1]
          refine iteF ?_
          have hM : M ≠ [] := fun e => c1 (by rw [hl, e]; rfl)
          refine ⟨_, rfl, .ref a, M, rfl, hR, hM, l16, fun r hr => by rw [hn r hr]; omega, fun p us H3 s3 hp hL => ?_⟩
          have hsl := steps_len hn
          have hb : ∀ r ∈ stepsL M, ∀ b ∈ r, b.natAbs < 2 ^ 90 := fun r hr b hb => by
            obtain ⟨x, hx, rfl⟩ := List.mem_map.mp hr
            have hm := List.mem_of_mem_drop hx
            have h0 : M.headD [] ∈ M := by
              cases M with
              | nil => exact absurd rfl hM
              | cons y M => exact List.mem_cons_self
            unfold subV at hb
            obtain ⟨i, hi⟩ := List.mem_iff_getElem?.mp hb
            rw [List.getElem?_zipWith] at hi
            cases e1 : x[i]? with
            | none => rw [e1] at hi; cases hi
            | some u =>
              cases e2 : (M.headD [])[i]? with
              | none => rw [e1, e2] at hi; cases hi
              | some u2 =>
                rw [e1, e2] at hi
                have b1 := hsm9 M rfl x hm u (List.mem_of_getElem? e1)
                have b2 := hsm9 M rfl _ h0 u2 (List.mem_of_getElem? e2)
                have e3 : u - u2 = b := Option.some.inj hi
                rw [← e3]
                exact Nat.lt_of_le_of_lt (by omega : (u - u2).natAbs ≤ 2 ^ 85 + 2 ^ 85) (by decide)
          have hw8 : wideOf (stepsL M) ≤ 8 := by
            cases e : stepsL M with
            | nil => exact Nat.zero_le _
            | cons y ys =>
              have := hsl y (by rw [e]; exact List.mem_cons_self)
              show y.length ≤ 8
              omega
          refine ⟨p, us, stepsL M, rfl, .of hp, hL.1, fun i u x e1 e2 => ?_, by rw [show (stepsL M).length = M.length - 1 by simp [stepsL]]; omega, hw8, fun r hr => ⟨?_, hb r hr⟩, fun H4 s4 => ?_⟩
          · obtain ⟨q, e, z⟩ := hL.2 i u x e1 e2
            rw [e]
            exact .lst (.of z)
          · rw [hsl r hr]
            exact (head_len (List.ne_nil_of_mem hr) hsl).symm
          · have ob : (ownS (stepsL M) (wideOf (stepsL M))).2 ≤ 100 := by
              have e := own_span hM hn
              unfold spanL at e
              rw [head_len hM hn] at e
              omega
            exact fin _ H4 (s3.trans s4) (own_span hM hn) (Nat.lt_of_le_of_lt (by omega : _ ≤ 100) (by decide))
    refine ⟨_, (pss_cons (ps_if (pt_not (pt_val (pe_dn D__law_are_rows (hr.mono (by decide)) rfl (pa_cons (pv 0) (pa_cons pe_int pa_nil))))) (pss_one (ps_if (pt_cmpR (op_neD hr.units) (LamX.pe_lamcall (k := 7) (T := [(PT, qL)]) (TT := TTr K CS CB CP) (t := fun E => tCall (spAsk K CB 1 "rows" rankL) [] E (tCons (tVar 0) tNil)) rfl mh kh lkH hcdH bh sc_raised rfl (Or.inl rfl) (raised_gives mS mB mP T.n_isinstance) TB rfl List.mem_cons_self (fun p hp _ => by cases List.mem_singleton.mp hp; rfl) (hr.mono (by decide)) (LamX.lamS_by (sc := defScope st__law_bent_right) (by decide +kernel)) rfl (fun _ _ _ _ _ => rfl) (fun A outer s H E f c' hr2 => pe_call Frank_of hr2 rfl X_rank_of.mg X_rank_of.kp Brank_of .nil (passes_call (takes_of rfl rfl rfl rfl) (fun _ _ _ _ h => h)) (pa_cons (pv 0) pa_nil))) (pe_lst (pa_cons pe_str (pa_cons pe_str pa_nil))) (nomark _)) (pss_one (ps_ret pe_bl)) pss_nil)) (pss_one (ps_if (pt_cmpR op_ne (pe_callB (call_repr hG hr.units) (by rfl) T.n_repr (by decide +kernel) (pa_cons (pe_dnx X_rank_of (hr.mono (by decide)) rfl (pa_cons (pv 0) pa_nil)) pa_nil)) (pe_callB (call_repr hG hr.units) (by rfl) T.n_repr (by decide +kernel) (pa_cons (pe_dn D__law_own_rank (hr.mono (by decide)) rfl (pa_cons (pe_lc (own := [("row", 1)]) (g := gName 1) (tt := tYes) rfl sc_bent_right.nd (pi_seqK K (pv 0)) (blkOk_by (N := ["value", "row", "due"]) (sc := defScope st__law_bent_right) (by decide +kernel)) (fun _ _ _ _ _ => (pg_name (i := 1) sc_bent_right.nd rfl (Or.inl rfl))) (fun _ _ _ _ _ => pts_nil) (fun _ _ _ _ _ => (pe_callTy (call_listK K) (by rfl) T.n_list (by decide +kernel) (pa_cons (pv 1) pa_nil)))) pa_nil)) pa_nil)) (nomark _)) (pss_one (ps_ret pe_bl)) pss_nil))) h2), ?_⟩
    refine ⟨_, rfl, v, 1, vo, rfl, hv, fun H1 s1 => ⟨_, rfl, ?_⟩⟩
    have x1 := ofS s1
    have w1 : LamX.Tabs [(PT, qL)] H1 := hT.ext s1
    cases c1 : okB vo 1 with
    | false =>
      refine iteT ?_
      refine ⟨w1, fun J1 y1 v1 Qn => ⟨_, rfl, v, vo, rfl, hvA J1 (x1.trans y1), hsm, fun e => absurd e (by rw [c1]; decide), fun _ dd J2 hdd ed sj => ⟨CB, dd, _, .str "rows", true, rfl, rfl, eB, kBB, fun e => (by cases e), ecB, xfB, noB, ed, rfl, fun a p ha hp => ?_⟩⟩⟩
      refine ⟨(by show 2 ≤ sizeLine; decide), fun l hl => ?_⟩
      have sa := same_upd (o := exq a CB dd) ha
      have sp := same_upd (o := .lst [.str (if (true : Bool) = true then "number" else "point"), .str "rows"]) hp
      have sl := same_upd (o := .lst [.str "number", .str "rows"]) hl
      have gp : upd (upd (upd J2 a (exq a CB dd)) p (.lst [.str (if (true : Bool) = true then "number" else "point"), .str "rows"])) l (.lst [.str "number", .str "rows"]) p = some (.lst [.str "number", .str "rows"]) := sl _ _ upd_same
      refine ⟨_, _, dpL (.of gp) flR, dpL (xs := [.str "number", .str "rows"]) (.of upd_same) flR, shapedL flR, shapedL flR, _, rfl, ?_⟩
      rw [eqv_same flR]
      have sx := sj.trans (sa.trans (sp.trans sl))
      exact iteF (rest _ ((x1.trans y1).trans (ofS sx)) (v1.ext sx))
    | true =>
      refine iteF ?_
      obtain ⟨M, n, rfl, lM, l16, n1, n8, hn⟩ := ok_mat c1
      have hM : M ≠ [] := List.length_pos_iff.mp (by omega)
      have er := own_rank hM hn
      have ob : (ownS M (wideOf M)).2 ≤ 100 := by
        have e := er
        unfold rankL at e
        rw [head_len hM hn] at e
        omega
      have hb : (((ownS M (wideOf M)).2 : Nat) : Int).natAbs < 2 ^ 85 := Nat.lt_of_le_of_lt (by omega : _ ≤ 100) (by decide)
      refine ⟨_, rfl, v, some (mat M), rfl, hvA H1 x1, hsm, fun _ N eN H2 s2 => ?_, fun e => absurd e (by rw [c1]; decide)⟩
      obtain rfl : N = M := mat_inj (Option.some.inj eN).symm
      rw [er]
      have s12 := s1.trans s2
      have hR : RowsAt K H2 v N := rows_of_val (hvA H2 (ofS s12))
      obtain ⟨b, a, vs, rfl, hS, hl, hz⟩ := id hR
      refine ⟨_, _, rfl, int_it, int_sh hb, _, rfl, b, a, rfl, ⟨_, hS⟩, fun D hD => lc_rel (R := fun i y H => ∃ (q : Addr) (x : Vec), y = .ref q ∧ N[i]? = some x ∧ H q = some (.lst (x.map V.int))) walk_seq hD (Nat.lt_of_le_of_lt (by omega : vs.length ≤ 16) (by decide)) (fun H s => hS.same s)
        (fun i y H H' s ⟨q, x, e1, e2, t⟩ => ⟨q, x, e1, e2, s _ _ t⟩) ?_ ?_⟩
      · rintro i x H3 H4 hi s3 ⟨acc, hacc⟩ ⟨rfl, hx⟩ Rk kk
        have hiM : i < N.length := by omega
        obtain ⟨u, e1, e2, ⟨b1, a1, rfl, hB1⟩⟩ := RowsAt.get hl hz hiM
        rw [e1] at hx
        cases hx
        refine ⟨rfl, _, rfl, b1, a1, _, rfl, hB1.same s3, fun l hl2 => kk _ _ (same_upd hl2) ⟨l, _, rfl, e2, ?_⟩⟩
        rw [off_ne (fun e => by rw [e, hacc] at hl2; cases hl2)]
        exact upd_same
      · rintro H3 ⟨us, lus, hD3, s3, hr3⟩
        refine ⟨D, us, N, rfl, .of hD3, by rw [lus, hl], fun i u x e1 e2 => ?_, l16, by show (N.headD []).length ≤ 8; rw [head_len hM hn]; exact n8, fun r hr => ⟨?_, fun b hb => Nat.lt_trans (hsm9 N rfl r hr b hb) (by decide)⟩, fun H4 s4 => ?_⟩
        · obtain ⟨q, x', e3, e4, t⟩ := hr3 i u e1
          rw [e2] at e4
          cases e4
          rw [e3]
          exact .lst (.of (off_same _ _ _ _ t))
        · rw [hn r hr]
          exact (head_len hM hn).symm
        · refine ⟨_, _, rfl, int_it, int_sh hb, rfl, _, rfl, ?_⟩
          rw [decide_eq_true rfl]
          have sx := s12.trans (s3.trans s4)
          exact iteF (rest _ (ofS sx) (hT.ext sx))
end
end K0


set_option Elab.async false
set_option linter.all false
set_option maxRecDepth 100000
set_option maxHeartbeats 8000000
set_option exponentiation.threshold 100000
namespace K0
open PySem PySem.Spec PyProof.Rows L2 RZ K0z K3

abbrev scC : Scope := { kind := ScopeKind.function, names := [((".0" : Str), NameKind.local), (("place" : Str), NameKind.cell), (("rows" : Str), NameKind.cell)], isGenerator := false, isCoroutine := false }
abbrev scL : Scope := { kind := ScopeKind.function, names := [((".0" : Str), NameKind.local), (("row" : Str), NameKind.local), (("zip" : Str), NameKind.globalImplicit), (("start" : Str), NameKind.cell)], isGenerator := false, isCoroutine := false }
theorem val_l {K : PySem.W.Frag} {H : Hp} {a : Addr} {us : List V} {os : List (Option (List V))} (ha : H a = some (.lst us)) (hl : us.length ≤ 20) (h : Rows3 K H us os) : ValAt K H (.ref a) (some os) :=
  ⟨us, ⟨.lst ha, Nat.lt_of_le_of_lt hl (by decide), a, rfl, .inl (.of ha)⟩, h.1, fun i u o e1 e2 => let ⟨_, z1, z2, _⟩ := h.2 i u o e1 e2; ⟨z1, z2⟩⟩
theorem val_t {K : PySem.W.Frag} {H : Hp} {a : Addr} {us : List V} {os : List (Option (List V))} (ha : H a = some (.tup us)) (hl : us.length ≤ 20) (h : Rows3 K H us os) : ValAt K H (.ref a) (some os) :=
  ⟨us, ⟨.tup ha, Nat.lt_of_le_of_lt hl (by decide), a, rfl, .inr (.of ha)⟩, h.1, fun i u o e1 e2 => let ⟨_, z1, z2, _⟩ := h.2 i u o e1 e2; ⟨z1, z2⟩⟩
/-- refs of lists or tuples of ints -/
def Rw2 (H : Hp) (us : List V) (M : List Vec) : Prop := us.length = M.length ∧ ∀ (i : Nat) (u : V) (x : Vec), us[i]? = some u → M[i]? = some x → ∃ q, u = .ref q ∧ (H q = some (.lst (x.map V.int)) ∨ H q = some (.tup (x.map V.int)))
theorem Rw2.rows {K : PySem.W.Frag} {H : Hp} {us : List V} {M : List Vec} (h : Rw2 H us M) (hb : ∀ x ∈ M, x.length ≤ 25 ∧ ∀ b ∈ x, b.natAbs < 2 ^ 85) : Rows3 K H us (mat M) := by
  refine ⟨by rw [h.1]; simp [mat], fun i u o e1 e2 => ?_⟩
  unfold mat at e2
  rw [List.getElem?_map] at e2
  cases e3 : M[i]? with
  | none => rw [e3] at e2; cases e2
  | some x =>
    rw [e3] at e2
    cases e2
    obtain ⟨q, rfl, z⟩ := h.2 i u x e1 e3
    have hx := hb x (List.mem_of_getElem? e3)
    have cl : ∀ y ∈ x.map V.int, Cell K H y := fun y hy => by
      obtain ⟨b, hm, rfl⟩ := List.mem_map.mp hy
      exact .int (hx.2 b hm)
    rcases z with z | z
    · exact row_lst z (by rw [List.length_map]; exact hx.1) cl
    · exact row_tup z (by rw [List.length_map]; exact hx.1) cl
theorem Rw2.mono {H H' : Hp} {us : List V} {M : List Vec} (s : Same H H') (h : Rw2 H us M) : Rw2 H' us M := ⟨h.1, fun i u x e1 e2 => let ⟨q, e, z⟩ := h.2 i u x e1 e2; ⟨q, e, z.imp (s _ _) (s _ _)⟩⟩
theorem mat_small {M : List Vec} (hb : ∀ x ∈ M, x.length ≤ 25 ∧ ∀ b ∈ x, b.natAbs < 2 ^ 85) : Small (some (mat M)) := fun N e r hr b h => by
  obtain rfl : M = N := mat_inj (Option.some.inj e)
  exact Nat.lt_trans ((hb r hr).2 b h) (by decide)
theorem ok_of {M : List Vec} {lo n : Nat} (h1 : lo ≤ M.length) (h2 : M.length ≤ 16) (n1 : 1 ≤ n) (n8 : n ≤ 8) (hn : ∀ r ∈ M, r.length = n) : okB (some (mat M)) lo = true := by
  have e : (mat M).length = M.length := by simp [mat]
  refine ok_iff.mpr ⟨by omega, by omega, fun o ho => ?_⟩
  obtain ⟨x, hx, rfl⟩ := List.mem_map.mp ho
  have hw : wO (mat M) = n := by
    cases M with
    | nil => cases hx
    | cons y M =>
      show (y.map V.int).length = n
      rw [List.length_map]
      exact hn y List.mem_cons_self
  refine ⟨_, rfl, by rw [hw, List.length_map]; exact hn x hx, by omega, by omega, ?_⟩
  rw [List.all_eq_true]
  intro y hy
  obtain ⟨b, _, rfl⟩ := List.mem_map.mp hy
  rfl
theorem Rws.sbn {H H' : Hp} {c a : Addr} {vs : List V} {M : List Vec} (h : Rws H c a vs M) (s : SBN c H H') : Rws H' c a vs M :=
  ⟨h.1, fun i u x h1 h2 => let ⟨q, e, n1, n2, z⟩ := h.2 i u x h1 h2; ⟨q, e, n1, n2, s q _ n1 z (by intro ps e; cases e)⟩⟩
theorem Rws.rw2 {H : Hp} {c a : Addr} {vs : List V} {M : List Vec} (h : Rws H c a vs M) : Rw2 H vs M := ⟨h.1, fun i u x h1 h2 => let ⟨q, e, _, _, z⟩ := h.2 i u x h1 h2; ⟨q, e, .inl z⟩⟩
theorem Rws.bnt {K : PySem.W.Frag} {H : Hp} {c a : Addr} {vs : List V} {M : List Vec} (h : Rws H c a vs M) (ha : H a = some (.lst vs)) (nac : a ≠ c) (hne : M ≠ []) (h16 : M.length ≤ 16) (hb : ∀ x ∈ M, x.length ≤ 25 ∧ ∀ b ∈ x, b.natAbs < 2 ^ 85) : Bnt K (OffT c H) (.ref a) := by
  refine bnt_l (offT1 ha nac) (by rw [← List.length_pos_iff, h.1]; exact List.length_pos_iff.mpr hne) (by rw [h.1]; omega) fun u hu => ?_
  obtain ⟨i, hi⟩ := List.mem_iff_getElem?.mp hu
  have hl : i < M.length := by rw [← h.1]; exact (List.getElem?_eq_some_iff.mp hi).1
  obtain ⟨q, rfl, n1, n2, z⟩ := h.2 i u _ hi (List.getElem?_eq_getElem hl)
  have hx := hb _ (List.getElem_mem hl)
  exact rx_ints (offT1 z n1) hx.1 hx.2
theorem SBN.up {c : Addr} {H H' : Hp} (s : SBN c H H') : Same (OffT c H) H' := upT fun b o n h t => s b o n h fun ps e => by rw [e] at t; cases t
theorem add_list (x y : Vec) : (List.range (min x.length y.length)).map (fun t => V.int (x.getD t 0 + y.getD t 0)) = (addV x y).map V.int := by
  unfold addV
  refine List.ext_getElem (by simp) fun i h1 h2 => ?_
  simp only [List.length_map, List.length_zipWith] at h2
  have hx : i < x.length := by omega
  have hy : i < y.length := by omega
  simp [List.getD_eq_getElem?_getD, List.getElem?_eq_getElem hx, List.getElem?_eq_getElem hy]
theorem tabs_sbn {T : List (Addr × Str)} {H H' : Hp} {c d : Addr} {ns : List Int} {m : Nat} (t : LamX.Tabs T H) (hC : Coil H c d ns m) (s : SameBut c H H') : LamX.Tabs T H' := tabs_but t hC s
theorem three_shown : (PyData.list [.int (-1), .int 0, .int 0]).shown = Str.ofString "[-1, 0, 0]" := by decide +kernel
theorem Fun_okN {P : Program} {w : World} {K : PySem.W.Frag} {mg : Str → Option Value} {base : Heap}
    {x qual : Str} {st : Stmt} {f : Addr} {fd : FuncData} {N ps : List Str} {k : Nat} {sp : Sp}
    (F : Fun K x qual st f fd) (S : FnScope N ps (defScope st))
    (len : ∀ vs H Q E, sp vs H Q E → vs.length = ps.length)
    (hbody : ∀ (cdv : Value) (A : Around) (outer : List Env) (s : Shared) (H : Hp) (vs : List V) (Q : VK) (E : XK),
      A.guards = some [] → Room k (A.deeper (envOfC qual (defScope st) s.heap.objs.size f cdv)) → sp vs H Q E →
      ∃ t, PSs (cxOf CX0 P w K mg base N qual (defScope st) f cdv A outer s H E).nox (defBody st) t ∧
        t { nx := fun _ H' => Q .non H', rt := Q } (start N vs) H) :
    FnG P w K mg base (k + 1) f fd ps sp :=
  Fun_okG F S len fun cdv A outer s H vs Q E hg hr h => let ⟨t, ht, q⟩ := hbody cdv A outer s H vs Q E hg hr h; ⟨t, ht.nox, q⟩
theorem three_short : Short (PyData.list [.int (-1), .int 0, .int 0]) := (shN_list (n := 3) (B := 100) (k := 0) (ds := [.int (-1), .int 0, .int 0]) (by decide) (fun d hd => by simp only [List.mem_cons, List.not_mem_nil, or_false] at hd; rcases hd with rfl | rfl | rfl <;> exact shN_int (by decide))).1.short (by decide) (by decide)
def spLaw (K : PySem.W.Frag) (PT : Addr) : Sp := fun vs H Q _ => ∃ (a : Addr) (ns : List Int), vs = [.ref a] ∧ SqL K H a (ns.map V.int) ∧ ns.length ≤ 63 ∧ LamX.Tabs [(PT, qL)] H ∧ ∀ H', Q (.bl true) H'
section
variable {P : Program} {w : World} {K : PySem.W.Frag} {mg : Str → Option Value} {base : Heap} {f : Addr} {fd : FuncData}
theorem sc_law : FnScope ["script", "purse", "wide", "many", "rank", "rows", "kept", "row", "place", "start", "points", "mine", "its", "turn", "value", "before"] ["script"] (defScope st_law) := ⟨rfl, rfl, rfl, by decide +kernel, rfl, by decide +kernel, by decide +kernel⟩
theorem ok_law {PT f1 f2 f3 f4 f5 f6 f7 f8 f9 f10 CB CP : Addr} (F : Fun K "law" "law" st_law f fd) (T : Nm mg) (D__law_purse : Dn P w K mg base 1 "_law_purse" f1 ["script"] (spCoil K)) (D__law_coin : Dn P w K mg base 1 "_law_coin" f2 ["purse", "many"] spTurn)
    (D__law_one_of : Dn P w K mg base 2 "_law_one_of" f3 ["purse", "some"] (spOne K)) (D__law_number : Dn P w K mg base 2 "_law_number" f4 ["purse", "size"] spNum) (D__law_stirred : Dn P w K mg base 2 "_law_stirred" f5 ["purse", "some"] (spStir K))
    (D__law_ranked : Dn P w K mg base 3 "_law_ranked" f6 ["purse", "rank", "wide", "many"] (spRanked K)) (D__law_bent : Dn P w K mg base 3 "_law_bent" f7 ["purse", "rows"] (spBent K)) (D__law_bent_right : DnG P w K mg base 10 "_law_bent_right" f8 ["value"] (spBentR K PT))
    (X_rank_of : DnX P w K mg base 7 "rank_of" f9 ["rows"] (spAsk K CB 1 "rows" rankL)) (K_rank_of : DnKX P w K mg base 7 "rank_of" f9 ["rows"] ["rows"] kw1 (spAsk K CB 1 "rows" rankL))
    (X_span_of : DnX P w K mg base 7 "span_of" f10 ["points"] (spAsk K CP 0 "points" spanL)) (K_span_of : DnKX P w K mg base 7 "span_of" f10 ["points"] ["points"] kw1 (spAsk K CP 0 "points" spanL)) :
    FnG P w K mg base 11 f fd ["script"] (spLaw K PT) := by
  refine Fun_okN F sc_law (fun vs H Q E h => ?_) (fun cdv A outer s H vs Q EE hG hr h => ?_)
  · obtain ⟨a, ns, rfl, _⟩ := h
    rfl
  · obtain ⟨a, ns, rfl, hS, hl, hT, k⟩ := h
    obtain ⟨t10, h10, rest2⟩ : ∃ t10, PSs (cxOf CX0 P w K mg base ["script", "purse", "wide", "many", "rank", "rows", "kept", "row", "place", "start", "points", "mine", "its", "turn", "value", "before"] "law" (defScope st_law) f cdv A outer s H EE).nox ((defBody st_law).drop 10) t10 ∧
        ∀ (c d : Addr) (ns : List Int) (m wd n r : Nat) (p : Addr) (us : List V) (M : List Vec) (dR : PyData) (q pp : Addr) (xs : Vec) (H1 : Hp), Coil H1 c d ns m → m ≤ 3000 → LamX.Tabs [(PT, qL)] H1 → H1 p = some (.lst us) → p ≠ c → Rws H1 c p us M → (∀ x ∈ M, x.length = wd) → M.length = n → (∀ x ∈ M, ∀ b ∈ x, b.natAbs ≤ 2 ^ 75) →
          1 ≤ wd → wd ≤ 8 → 1 ≤ n → n ≤ 16 → (∀ H', SBN c H1 H' → Sw K H' (.ref p) dR) → H1 q = some (.lst (xs.map V.int)) → xs.length = wd → (∀ b ∈ xs, b.natAbs < 2 ^ 68) →
          t10 { nx := fun _ H' => Q .non H', rt := Q } [some (.ref a), some (.ref c), some (.int (wd : Nat)), some (.int (n : Nat)), some (.int (r : Nat)), some (.ref p), some (.str dR.shown), none, none, some (.ref q), some (.ref pp), none, none, none, none, none] H1 := by
      refine ⟨_, (pss_cons (ps_if (PW.pt (pw_or (pt_cmpR op_ne (pe_callB (call_repr hG hr.units) (by rfl) T.n_repr (by decide +kernel) (pa_cons (pe_lst (pa_cons (pe_dnx X_span_of (hr.mono (by decide)) rfl (pa_cons (pe_lst pa_nil) pa_nil)) (pa_cons (pe_dnx X_span_of (hr.mono (by decide)) rfl (pa_cons (pe_lst (pa_cons (pv 9) pa_nil)) pa_nil)) (pa_cons (pe_dnx X_span_of (hr.mono (by decide)) rfl (pa_cons (pe_tup (pa_cons (pv 9) (pa_cons (pe_callTy (call_tupK K) (by rfl) T.n_tuple (by decide +kernel) (pa_cons (pv 9) pa_nil)) (pa_cons (pv 9) pa_nil)))) pa_nil)) pa_nil)))) pa_nil)) pe_str (nomark _)) (pw_or1 (pt_cmpR op_ne (pe_callB (call_repr3 K hG hr.units) (by rfl) T.n_repr (by decide +kernel) (pa_cons (pv 5) pa_nil)) (pv 6) (nomark _))))) (pss_one (ps_ret pe_bl)) pss_nil)
    (pss_cons (ps_for PassesOwn.never rfl (pi_range1 (by rfl) T.n_range (pa_cons pe_int pa_nil)) (pg_name (i := 13) sc_law.nd rfl (Or.inl rfl))
      (pss_cons (ps_set (i := 14) sc_law.nd rfl (Or.inl rfl) (pe_dn D__law_bent (hr.mono (by decide)) rfl (pa_cons (pv 1) (pa_cons (pv 5) pa_nil))))
    (pss_cons (ps_set (i := 15) sc_law.nd rfl (Or.inl rfl) (pe_callB (call_repr3 K hG hr.units) (by rfl) T.n_repr (by decide +kernel) (pa_cons (pv 14) pa_nil)))
    (pss_one (ps_if (PW.pt (pw_or (pt_not (pt_val (pe_dg D__law_bent_right hG (hr.mono (by decide)) rfl (pa_cons (pv 14) pa_nil)))) (pw_or1 (pt_cmpR op_ne (pe_callB (call_repr3 K hG hr.units) (by rfl) T.n_repr (by decide +kernel) (pa_cons (pv 14) pa_nil)) (pv 15) (nomark _))))) (pss_one (ps_ret pe_bl)) pss_nil)))))
    (pss_one (ps_ret pe_bl)))), ?_⟩
      clear hS hl hT
      intro c d ns m wd n r p us M dR q pp xs H1 hC hm hT hp npc hRw hMw hMl hMb w1 w8 n1 n16 swR hq lx bx
      have hMne : M ≠ [] := List.length_pos_iff.mp (by omega)
      have hus : us.length = n := by rw [hRw.1, hMl]
      have hxb : ∀ b ∈ xs, b.natAbs < 2 ^ 85 := fun b hb => Nat.lt_trans (bx b hb) (by decide)
      have small : ∀ {L : List Vec}, (∀ x ∈ L, x = xs) → ∀ x ∈ L, x.length ≤ 25 ∧ ∀ b ∈ x, b.natAbs < 2 ^ 85 := fun h x hx => by rw [h x hx]; exact ⟨by omega, hxb⟩
      have okL : ∀ {L : List Vec}, L.length ≤ 16 → (∀ x ∈ L, x = xs) → okB (some (mat L)) 0 = true := fun l h => ok_of (n := wd) (Nat.zero_le _) l w1 w8 fun x hx => by rw [h x hx]; exact lx
      -- three spans
      refine ⟨(by show 0 ≤ sizeLine; decide), fun e1 he1 => ?_⟩
      have s1 := same_upd (o := .lst []) he1
      have z1 : upd H1 e1 (.lst []) e1 = some (.lst []) := upd_same
      generalize upd H1 e1 (.lst []) = H2 at s1 z1 ⊢
      have no : ∀ x ∈ ([] : List Vec), x = xs := fun _ h => absurd h List.not_mem_nil
      refine ⟨.ref e1, some (mat []), rfl, val_l z1 (by decide) ⟨rfl, fun i u o e => by cases e⟩, mat_small (small no), fun _ N eN H3 s3 => ?_, fun e => absurd e (by rw [okL (by decide) no]; decide)⟩
      obtain rfl : ([] : List Vec) = N := mat_inj (Option.some.inj eN)
      rw [span_nil]
      have s13 := s1.trans s3
      refine ⟨_, rfl, (by show 1 ≤ sizeLine; decide), fun e2 he2 => ?_⟩
      have s4 := same_upd (o := .lst [.ref q]) he2
      have z4 : upd H3 e2 (.lst [.ref q]) e2 = some (.lst [.ref q]) := upd_same
      generalize upd H3 e2 (.lst [.ref q]) = H4 at s4 z4 ⊢
      have s14 := s13.trans s4
      have one : ∀ x ∈ [xs], x = xs := fun x h => List.mem_singleton.mp h
      have rw1 : Rw2 H4 [.ref q] [xs] := ⟨rfl, fun i u x a b => by
        cases i with
        | zero => cases a; cases b; exact ⟨q, rfl, .inl (s14 _ _ hq)⟩
        | succ i => cases a⟩
      refine ⟨.ref e2, some (mat [xs]), rfl, val_l z4 (Nat.le_of_ble_eq_true rfl) (rw1.rows (small one)), mat_small (small one), fun _ N eN H5 s5 => ?_, fun e => absurd e (by rw [okL (Nat.le_of_ble_eq_true rfl) one]; decide)⟩
      obtain rfl := mat_inj (Option.some.inj eN)
      rw [span_same (p0 := xs) (by simp) one]
      have s15 := s14.trans s5
      refine ⟨_, rfl, _, rfl, false, q, _, rfl, .of (s15 _ _ hq), fun _ e3 he3 => ?_, fun z => (by cases z)⟩
      have s6 := same_upd (o := .tup (xs.map V.int)) he3
      have z6 : upd H5 e3 (.tup (xs.map V.int)) e3 = some (.tup (xs.map V.int)) := upd_same
      generalize upd H5 e3 (.tup (xs.map V.int)) = H6 at s6 z6 ⊢
      refine ⟨_, rfl, (by show 3 ≤ sizeLine; decide), fun e4 he4 => ?_⟩
      have s7 := same_upd (o := .tup [.ref q, .ref e3, .ref q]) he4
      have z7 : upd H6 e4 (.tup [.ref q, .ref e3, .ref q]) e4 = some (.tup [.ref q, .ref e3, .ref q]) := upd_same
      generalize upd H6 e4 (.tup [.ref q, .ref e3, .ref q]) = H7 at s7 z7 ⊢
      have s17 := s15.trans (s6.trans s7)
      have three : ∀ x ∈ [xs, xs, xs], x = xs := fun x h => by simpa using h
      have rw3 : Rw2 H7 [.ref q, .ref e3, .ref q] [xs, xs, xs] := ⟨rfl, fun i u x a b => by
        match i, a, b with
        | 0, a, b => cases a; cases b; exact ⟨q, rfl, .inl (s17 _ _ hq)⟩
        | 1, a, b => cases a; cases b; exact ⟨e3, rfl, .inr (s7 _ _ z6)⟩
        | 2, a, b => cases a; cases b; exact ⟨q, rfl, .inl (s17 _ _ hq)⟩
        | i + 3, a, b => cases a⟩
      refine ⟨.ref e4, some (mat [xs, xs, xs]), rfl, val_t z7 (Nat.le_of_ble_eq_true rfl) (rw3.rows (small three)), mat_small (small three), fun _ N eN H8 s8 => ?_, fun e => absurd e (by rw [okL (Nat.le_of_ble_eq_true rfl) three]; decide)⟩
      obtain rfl := mat_inj (Option.some.inj eN)
      rw [span_same (p0 := xs) (by simp) three]
      refine ⟨(by show 3 ≤ sizeLine; decide), fun e5 he5 => ?_⟩
      have s9 := same_upd (o := .lst [.int (-1), .int 0, .int 0]) he5
      have z9 : upd H8 e5 (.lst [.int (-1), .int 0, .int 0]) e5 = some (.lst [.int (-1), .int 0, .int 0]) := upd_same
      generalize upd H8 e5 (.lst [.int (-1), .int 0, .int 0]) = H9 at s9 z9 ⊢
      have s19 := s17.trans (s8.trans s9)
      refine ⟨.ref e5, .list [.int (-1), .int 0, .int 0], rfl, .dp (dpL (xs := [.int (-1), .int 0, .int 0]) (.of z9) rfl) rfl, three_short, rfl, _, rfl, ?_⟩
      rw [three_shown, decide_eq_true rfl]
      refine iteF ⟨_, rfl, .ref p, dR, rfl, swR H9 (SBN.of (SameBut.of s19)), _, rfl, rfl, _, rfl, ?_⟩
      rw [decide_eq_true rfl]
      refine iteF ?_
      have hC9 := hC.but s19
      have hT9 : LamX.Tabs [(PT, qL)] H9 := hT.ext s19
      have hp9 := s19 _ _ hp
      have hRw9 : Rws H9 c p us M := hRw.sbn (SBN.of (SameBut.of s19))
      clear hC hT hp hRw swR rw1 rw3
      -- bent
      refine ⟨3, rfl, by decide, by decide, for_it walk_range (fun i σ H2 => ∃ (x13 x14 x15 : Option V) (m' : Nat), σ = [some (.ref a), some (.ref c), some (.int (wd : Nat)), some (.int (n : Nat)), some (.int (r : Nat)), some (.ref p), some (.str dR.shown), none, none, some (.ref q), some (.ref pp), none, none, x13, x14, x15] ∧ m' ≤ m + 10 * i ∧ Coil H2 c d ns m' ∧ LamX.Tabs [(PT, qL)] H2 ∧ SBN c H9 H2)
        ⟨none, none, none, m, rfl, by omega, hC9, hT9, SBN.of (SameBut.refl c H9)⟩ (fun _ _ _ _ _ => trivial) ?_ ?_⟩
      · rintro i x σ H2 H3 hi ⟨x13, x14, x15, m', rfl, hm', hC2, hT2, sb2⟩ ⟨rfl, rfl⟩
        have hi3 : i < 3 := hi
        refine ⟨_, rfl, _, rfl, c, d, ns, m', p, us, M, wd, rfl, hC2, by omega, npc, sb2 _ _ npc hp9 (by intro ps e; cases e), hRw9.sbn sb2, by omega, by omega, hMw, w1, w8, hMb, fun v H4 hB hC4 sb4 => ?_⟩
        have hT4 := tabs_but hT2 hC2 sb4
        obtain ⟨_, dv, _, _, hsw⟩ := id hB
        refine ⟨_, rfl, v, dv, rfl, hsw.same (SBN.up (SBN.of (SameBut.refl c H4))), ?_⟩
        refine ⟨_, rfl, c, v, rfl, hB, hT4, fun H5 x5 w5 => ⟨_, rfl, iteF ?_⟩⟩
        refine ⟨_, rfl, v, dv, rfl, hsw.same (SBN.up (SBN.ext x5)), _, rfl, rfl, _, rfl, ?_⟩
        rw [decide_eq_true rfl]
        exact iteF ⟨_, _, _, m' + 10, rfl, (by omega : m' + 10 ≤ m + 10 * (i + 1)), hC4.ext x5, w5, sb2.trans ((SBN.of sb4).trans (SBN.ext x5))⟩
      · rintro σ H2 ⟨x13, x14, x15, m', rfl, _⟩
        exact k _
    obtain ⟨t7, h7, rest⟩ : ∃ t7, PSs (cxOf CX0 P w K mg base ["script", "purse", "wide", "many", "rank", "rows", "kept", "row", "place", "start", "points", "mine", "its", "turn", "value", "before"] "law" (defScope st_law) f cdv A outer s H EE).nox ((defBody st_law).drop 7) t7 ∧
        ∀ (c d : Addr) (ns : List Int) (m wd n r : Nat) (p : Addr) (us : List V) (M : List Vec) (dR : PyData) (H1 : Hp), Coil H1 c d ns m → m ≤ 2000 → LamX.Tabs [(PT, qL)] H1 → H1 p = some (.lst us) → p ≠ c → Rws H1 c p us M → Ranked wd r M → M.length = n → (∀ x ∈ M, ∀ b ∈ x, b.natAbs ≤ 2 ^ 75) →
          1 ≤ wd → wd ≤ 8 → 1 ≤ n → n ≤ 16 → r ≤ wd → (∀ H', SBN c H1 H' → Sw K H' (.ref p) dR) →
          t7 { nx := fun _ H' => Q .non H', rt := Q } [some (.ref a), some (.ref c), some (.int (wd : Nat)), some (.int (n : Nat)), some (.int (r : Nat)), some (.ref p), some (.str dR.shown), none, none, none, none, none, none, none, none, none] H1 := by
      refine ⟨_, (pss_cons (ps_set (i := 9) sc_law.nd rfl (Or.inr rfl) (pe_lc (own := [("place", 8)]) (g := gName 8) (tt := tYes) rfl sc_law.nd (pi_range1 (by rfl) T.n_range (pa_cons (pv 2) pa_nil)) (blkOk_by (N := ["script", "purse", "wide", "many", "rank", "rows", "kept", "row", "place", "start", "points", "mine", "its", "turn", "value", "before"]) (sc := defScope st_law) (by decide +kernel)) (fun _ _ _ _ _ => (pg_name (i := 8) sc_law.nd rfl (Or.inl rfl))) (fun _ _ _ _ _ => pts_nil) (fun _ _ _ _ _ => (pe_dn D__law_number (hr.mono (by decide)) rfl (pa_cons (pv 1) (pa_cons pe_int pa_nil))))))
    (pss_cons (ps_set (i := 10) sc_law.nd rfl (Or.inl rfl) (pe_dn D__law_stirred (hr.mono (by decide)) rfl (pa_cons (pv 1) (pa_cons (pe_op op_cat (pe_lst (pa_cons (pv 9) pa_nil)) (pe_lc (own := [("row", 7)]) (g := gName 7) (tt := tYes) rfl sc_law.nd (pi_seqK K (pv 5)) (blkOk_by (N := ["script", "purse", "wide", "many", "rank", "rows", "kept", "row", "place", "start", "points", "mine", "its", "turn", "value", "before"]) (sc := defScope st_law) (by decide +kernel)) (fun _ _ _ _ _ => (pg_name (i := 7) sc_law.nd rfl (Or.inl rfl))) (fun _ _ _ _ _ => pts_nil) (fun _ _ _ _ _ => (pe_lc (own := [("mine", 11), ("its", 12)]) (g := gTup K 2 (gCons (gName 11) (gCons (gName 12) gNil))) (tt := tYes) rfl sc_law.nd (pi_zipMK K (by rfl) T.n_zip (pa_cons (pv 9) (pa_cons (pv 7) pa_nil))) (blkOk_by (N := ["script", "purse", "wide", "many", "rank", "rows", "kept", "row", "place", "start", "points", "mine", "its", "turn", "value", "before"]) (sc := scL) (by decide +kernel)) (fun _ _ _ _ _ => (pg_tup (by rfl) (pgs_cons (pg_name (i := 11) sc_law.nd rfl (Or.inl rfl)) (pgs_cons (pg_name (i := 12) sc_law.nd rfl (Or.inl rfl)) pgs_nil)))) (fun _ _ _ _ _ => pts_nil) (fun _ _ _ _ _ => (pe_op op_add (pv 11) (pv 12))))))) pa_nil))))
    (pss_cons (ps_if (PW.pt (pw_and (pt_cmpR op_lt (pv 3) pe_int (nomark _)) (pw_and1 (pt_cmpR op_ne (pe_callB (call_repr hG hr.units) (by rfl) T.n_repr (by decide +kernel) (pa_cons (pe_dkx K_span_of (hr.mono (by decide)) rfl (pk_cons (pv 10) pk_nil)) pa_nil)) (pe_callB (call_repr hG hr.units) (by rfl) T.n_repr (by decide +kernel) (pa_cons (pv 4) pa_nil)) (nomark _))))) (pss_one (ps_ret pe_bl)) pss_nil)
    h10))), ?_⟩
      clear hS hl hT
      intro c d ns m wd n r p us M dR H1 hC hm hT hp npc hRw hRk hMl hMb w1 w8 n1 n16 hr1 swR
      have hMne : M ≠ [] := List.length_pos_iff.mp (by omega)
      have hMw : ∀ x ∈ M, x.length = wd := hRk.len
      have hus : us.length = n := by rw [hRw.1, hMl]
      have hrb : ((r : Nat) : Int).natAbs < 2 ^ 85 := Nat.lt_of_le_of_lt (by omega : _ ≤ 100) (by decide)
      -- start
      refine ⟨_, rfl, _, rfl, by omega, by omega, fun q hq => lc_draw (lo := 0) (n := wd) (by omega) hq hC (fun x => rfl) ?_ ?_⟩
      · intro x H2 m' hm' hC2 R hR
        exact ⟨_, rfl, c, d, ns, m', 9, rfl, hC2, by omega, by decide, by decide, hR⟩
      intro H2 xs lx bx hq2 hC2 sb2
      obtain ⟨nqc, nqd⟩ := hC.ne hq
      have hp2 := sb2 _ _ npc hp
      have hRw2 : Rws H2 c p us M := hRw.sbn (SBN.of sb2)
      have hT2 := tabs_but hT hC sb2
      have swR2 : ∀ H', SBN c H2 H' → Sw K H' (.ref p) dR := fun H' s => swR H' ((SBN.of sb2).trans s)
      clear hC hT hp hRw sb2 hq swR
      -- points
      refine ⟨_, rfl, _, rfl, (by show 1 ≤ sizeLine; decide), fun p1 hp1 => ?_⟩
      have n1c := (hC2.ne hp1).1
      have s1 := same_upd (o := .lst [.ref q]) hp1
      have z1 : upd H2 p1 (.lst [.ref q]) p1 = some (.lst [.ref q]) := upd_same
      have hC3 := hC2.but s1
      generalize upd H2 p1 (.lst [.ref q]) = H3 at s1 z1 hC3 ⊢
      refine ⟨_, rfl, false, p, rfl, ⟨_, .of (s1 _ _ hp2)⟩, fun D hD => lc_rel (R := fun i y H => ∃ (q2 : Addr) (x : Vec), y = .ref q2 ∧ q2 ≠ c ∧ M[i]? = some x ∧ H q2 = some (.lst ((addV xs x).map V.int))) (walk_seq (b := false)) hD (Nat.lt_of_le_of_lt (by omega : us.length ≤ 16) (by decide)) (fun H s => .of (s _ _ (s1 _ _ hp2)))
        (fun i y H H' s ⟨q, x, e1, e2, e3, t⟩ => ⟨q, x, e1, e2, e3, s _ _ t⟩) ?_ ?_⟩
      · rintro i x H4 H5 hi s4 ⟨acc, hacc⟩ ⟨rfl, hx⟩ Rk kk
        have hiM : i < M.length := by omega
        obtain ⟨qi, rfl, nqi, _, hqi⟩ := hRw2.2 i x _ hx (List.getElem?_eq_getElem hiM)
        have s14 := s1.trans s4
        refine ⟨rfl, _, rfl, _, rfl, false, false, q, qi, _, _, rfl, .of (s14 _ _ hq2), .of (s14 _ _ hqi), fun D2 hD2 => lc_fun (fun t => V.int (xs.getD t 0 + (M[i]).getD t 0)) (walk_zipM rfl) hD2 ?_ (fun H6 s6 => ⟨.of (s6 _ _ (s14 _ _ hq2)), .of (s6 _ _ (s14 _ _ hqi))⟩) ?_ ?_⟩
        · rw [List.length_map, List.length_map, lx]
          exact Nat.lt_of_le_of_lt (Nat.le_trans (Nat.min_le_left _ _) w8) (by decide)
        · rintro t v H6 H7 ht s6 _ ⟨T', x', y', rfl, hTt, rfl, e3, e4⟩ Rk2 kk3
          obtain ⟨m1, hm1, rfl⟩ := map_int_get e3
          obtain ⟨m2, hm2, rfl⟩ := map_int_get e4
          refine ⟨T', _, rfl, .of upd_same, rfl, _, _, rfl, _, _, rfl, rfl, rfl, _, rfl, _, rfl, m1, m2, rfl, rfl, ?_⟩
          have e := kk3 _ (same_upd (o := .tup [.int m1, .int m2]) hTt)
          rw [List.getD_eq_getElem?_getD (l := xs) (i := t), List.getD_eq_getElem?_getD (l := M[i]) (i := t), hm1, hm2] at e
          exact e
        · intro H6 hD6 s6
          rw [List.length_map, List.length_map, add_list] at hD6
          refine kk _ _ s6 ⟨D2, M[i], rfl, ((hC3.but s4).ne hD2).1, List.getElem?_eq_getElem hiM, ?_⟩
          rw [off_ne (fun e => by rw [e, hacc] at hD2; cases hD2)]
          exact hD6
      rintro H4 ⟨acc, lacc, hD4, s4, hr4⟩
      have lacc' : acc.length = n := by omega
      refine ⟨p1, D, _, _, rfl, rfl, s4 _ _ z1, hD4, Nat.le_trans (by rw [lacc']; simp only [List.length_cons, List.length_nil]; omega : [V.ref q].length + acc.length ≤ 17) (by decide), fun Z hZ => ?_⟩
      have hC4 := hC3.but s4
      have nZ := (hC4.ne hZ).1
      have sZ := same_upd (o := .lst ([V.ref q] ++ acc)) hZ
      have zZ : upd H4 Z (.lst ([V.ref q] ++ acc)) Z = some (.lst ([V.ref q] ++ acc)) := upd_same
      have hRwZ : Rws (upd H4 Z (.lst ([V.ref q] ++ acc))) c Z ([V.ref q] ++ acc) (xs :: M.map (addV xs)) := by
        refine ⟨by simp [lacc', hMl], fun i u x e1 e2 => ?_⟩
        cases i with
        | zero =>
          cases e1
          cases e2
          have g := s4 _ _ (s1 _ _ hq2)
          exact ⟨q, rfl, nqc, (fun e => by rw [e, hZ] at g; cases g), sZ _ _ g⟩
        | succ i =>
          have e1' : acc[i]? = some u := e1
          have e2' : (M.map (addV xs))[i]? = some x := e2
          obtain ⟨q2, x', e3, e4, e5, t⟩ := hr4 i u e1'
          rw [List.getElem?_map, e5] at e2'
          cases e2'
          have g := off_same _ _ _ _ t
          exact ⟨q2, e3, e4, (fun e => by rw [e, hZ] at g; cases g), sZ _ _ g⟩
      have hCZ := hC4.but sZ
      have sZ2 : Same H2 (upd H4 Z (.lst ([V.ref q] ++ acc))) := s1.trans (s4.trans sZ)
      have lZ : ([V.ref q] ++ acc).length = n + 1 := by rw [List.length_append, lacc']; simp; omega
      clear hr4 s4 sZ hC4 hC3 z1 hD4 s1
      generalize upd H4 Z (.lst ([V.ref q] ++ acc)) = H5 at hRwZ hCZ sZ2 zZ ⊢
      refine ⟨c, d, ns, _, false, Z, _, rfl, hCZ, by omega, .of (off1 zZ nZ), by omega, fun pp ys H6 hperm _ nppc _ hys hC6 sb6 => ?_⟩
      rw [lZ] at hC6
      obtain ⟨N, hN, hRN⟩ := hRwZ.perm hperm
      have hRN6 : Rw2 H6 ys N := (hRN.sbn (SBN.of sb6)).rw2
      have hNl : N.length = n + 1 := by rw [hN.length_eq, List.length_cons, List.length_map, hMl]
      have hNmem : ∀ x ∈ N, x.length = wd ∧ ∀ b ∈ x, b.natAbs < 2 ^ 85 := fun x hx => by
        rcases List.mem_cons.mp (hN.mem_iff.mp hx) with e | e
        · rw [e]
          exact ⟨lx, fun b hb => Nat.lt_trans (bx b hb) (by decide)⟩
        · obtain ⟨row, hrow, rfl⟩ := List.mem_map.mp e
          unfold addV
          refine ⟨by rw [List.length_zipWith, lx, hMw row hrow, Nat.min_self], fun b hb => ?_⟩
          obtain ⟨i, hi⟩ := List.mem_iff_getElem?.mp hb
          rw [List.getElem?_zipWith] at hi
          cases e1 : xs[i]? with
          | none => rw [e1] at hi; cases hi
          | some u =>
            cases e2 : row[i]? with
            | none => rw [e1, e2] at hi; cases hi
            | some u2 =>
              rw [e1, e2] at hi
              have b1 := bx u (List.mem_of_getElem? e1)
              have b2 := hMb row hrow u2 (List.mem_of_getElem? e2)
              have e3 : u + u2 = b := Option.some.inj hi
              rw [← e3]
              exact Nat.lt_of_le_of_lt (by omega : (u + u2).natAbs ≤ 2 ^ 68 + 2 ^ 75) (by decide)
      have hN25 : ∀ x ∈ N, x.length ≤ 25 ∧ ∀ b ∈ x, b.natAbs < 2 ^ 85 := fun x hx => ⟨by rw [(hNmem x hx).1]; omega, (hNmem x hx).2⟩
      have esp := span_of_ranked hRk lx hN
      have sb26 : SameBut c H2 H6 := (SameBut.of sZ2).trans sb6
      have hT6 := tabs_but hT2 hC2 sb26
      have hp6 := sb26 _ _ npc hp2
      have hRw6 : Rws H6 c p us M := hRw2.sbn (SBN.of sb26)
      have hq6 := sb26 _ _ nqc hq2
      have swR6 : ∀ H', SBN c H6 H' → Sw K H' (.ref p) dR := fun H' s => swR2 H' ((SBN.of sb26).trans s)
      have lys : ys.length = n + 1 := by rw [hRN6.1, hNl]
      clear hRwZ hCZ sZ2 zZ hC2 hT2 hp2 hRw2 hq2 swR2 sb26 sb6 hRN hperm
      -- the span
      refine ⟨_, rfl, _, _, rfl, rfl, _, rfl, ?_⟩
      by_cases c16 : ((n : Nat) : Int) < 16
      · rw [decide_eq_true c16]
        refine iteT ?_
        have okN : okB (some (mat N)) 0 = true := ok_of (n := wd) (Nat.zero_le _) (by omega) w1 w8 fun x hx => (hNmem x hx).1
        refine ⟨_, rfl, rfl, .ref pp, some (mat N), rfl, val_l hys (by omega) (hRN6.rows hN25), mat_small hN25, fun _ N2 eN H7 s7 => ?_, fun e => absurd e (by rw [okN]; decide)⟩
        obtain rfl := mat_inj (Option.some.inj eN)
        rw [esp]
        refine ⟨_, _, rfl, int_it, int_sh hrb, _, rfl, _, _, rfl, int_it, int_sh hrb, rfl, _, rfl, ?_⟩
        rw [decide_eq_true rfl]
        refine iteF ?_
        exact rest2 c d ns _ wd n r p us M dR q pp xs H7 (hC6.but s7) (by omega) (hT6.ext s7) (s7 _ _ hp6) npc (hRw6.sbn (SBN.of (SameBut.of s7))) hMw hMl hMb w1 w8 n1 n16 (fun H' s => swR6 H' ((SBN.of (SameBut.of s7)).trans s)) (s7 _ _ hq6) lx bx
      · rw [decide_eq_false c16]
        refine iteF ?_
        exact rest2 c d ns _ wd n r p us M dR q pp xs H6 hC6 (by omega) hT6 hp6 npc hRw6 hMw hMl hMb w1 w8 n1 n16 swR6 hq6 lx bx
    refine ⟨_, (pss_cons (ps_set (i := 1) sc_law.nd rfl (Or.inr rfl) (pe_dn D__law_purse (hr.mono (by decide)) rfl (pa_cons (pv 0) pa_nil)))
    (pss_cons (ps_par (i := 2) (j := 3) (by rfl) sc_law.nd rfl rfl (by decide) rfl rfl (pa_cons (pe_op op_add pe_int (pe_dn D__law_coin (hr.mono (by decide)) rfl (pa_cons (pv 1) (pa_cons pe_int pa_nil)))) (pa_cons (pe_op op_add pe_int (pe_dn D__law_one_of (hr.mono (by decide)) rfl (pa_cons (pv 1) (pa_cons (pe_lst (pa_cons (pe_dn D__law_coin (hr.mono (by decide)) rfl (pa_cons (pv 1) (pa_cons pe_int pa_nil))) (pa_cons (pe_dn D__law_coin (hr.mono (by decide)) rfl (pa_cons (pv 1) (pa_cons pe_int pa_nil))) pa_nil))) pa_nil)))) pa_nil)) (by rfl))
    (pss_cons (ps_set (i := 4) sc_law.nd rfl (Or.inl rfl) (pe_dn D__law_coin (hr.mono (by decide)) rfl (pa_cons (pv 1) (pa_cons (pe_op op_add (pe_callB (call_min2 rfl) (by rfl) T.n_min (by decide +kernel) (pa_cons (pv 2) (pa_cons (pv 3) pa_nil))) pe_int) pa_nil))))
    (pss_cons (ps_set (i := 5) sc_law.nd rfl (Or.inr rfl) (pe_dn D__law_ranked (hr.mono (by decide)) rfl (pa_cons (pv 1) (pa_cons (pv 4) (pa_cons (pv 2) (pa_cons (pv 3) pa_nil))))))
    (pss_cons (ps_set (i := 6) sc_law.nd rfl (Or.inl rfl) (pe_callB (call_repr3 K hG hr.units) (by rfl) T.n_repr (by decide +kernel) (pa_cons (pv 5) pa_nil)))
    (pss_cons (ps_if (PW.pt (pw_or (pt_cmpR op_ne (pe_callB (call_repr hG hr.units) (by rfl) T.n_repr (by decide +kernel) (pa_cons (pe_dkx K_rank_of (hr.mono (by decide)) rfl (pk_cons (pv 5) pk_nil)) pa_nil)) (pe_callB (call_repr hG hr.units) (by rfl) T.n_repr (by decide +kernel) (pa_cons (pv 4) pa_nil)) (nomark _)) (pw_or1 (pt_cmpR op_ne (pe_callB (call_repr hG hr.units) (by rfl) T.n_repr (by decide +kernel) (pa_cons (pe_dnx X_rank_of (hr.mono (by decide)) rfl (pa_cons (pe_callTy (call_tupK K) (by rfl) T.n_tuple (by decide +kernel) (pa_cons (pe_lc (own := [("row", 7)]) (g := gName 7) (tt := tYes) rfl sc_law.nd (pi_seqK K (pv 5)) (blkOk_by (N := ["script", "purse", "wide", "many", "rank", "rows", "kept", "row", "place", "start", "points", "mine", "its", "turn", "value", "before"]) (sc := defScope st_law) (by decide +kernel)) (fun _ _ _ _ _ => (pg_name (i := 7) sc_law.nd rfl (Or.inl rfl))) (fun _ _ _ _ _ => pts_nil) (fun _ _ _ _ _ => (pe_callTy (call_tupK K) (by rfl) T.n_tuple (by decide +kernel) (pa_cons (pv 7) pa_nil)))) pa_nil)) pa_nil)) pa_nil)) (pe_callB (call_repr hG hr.units) (by rfl) T.n_repr (by decide +kernel) (pa_cons (pv 4) pa_nil)) (nomark _))))) (pss_one (ps_ret pe_bl)) pss_nil)
    (pss_cons (ps_if (PW.pt (pw_and (pt_cmpR op_le (pv 3) pe_int (nomark _)) (pw_and1 (pt_cmpR op_ne (pe_callB (call_repr hG hr.units) (by rfl) T.n_repr (by decide +kernel) (pa_cons (pe_dnx X_rank_of (hr.mono (by decide)) rfl (pa_cons (pe_lc (own := [("place", 8)]) (g := gName 8) (tt := tYes) rfl sc_law.nd (pi_range1 (by rfl) T.n_range (pa_cons (pv 2) pa_nil)) (blkOk_by (N := ["script", "purse", "wide", "many", "rank", "rows", "kept", "row", "place", "start", "points", "mine", "its", "turn", "value", "before"]) (sc := defScope st_law) (by decide +kernel)) (fun _ _ _ _ _ => (pg_name (i := 8) sc_law.nd rfl (Or.inr rfl))) (fun _ _ _ _ _ => pts_nil) (fun _ _ _ _ _ => (pe_lc (own := [("row", 7)]) (g := gName 7) (tt := tYes) rfl sc_law.nd (pi_seqK K (pv 5)) (blkOk_by (N := ["script", "purse", "wide", "many", "rank", "rows", "kept", "row", "place", "start", "points", "mine", "its", "turn", "value", "before"]) (sc := scC) (by decide +kernel)) (fun _ _ _ _ _ => (pg_name (i := 7) sc_law.nd rfl (Or.inl rfl))) (fun _ _ _ _ _ => pts_nil) (fun _ _ _ _ _ => (pe_ix (ix_K K) (pv 7) (pv 8) (fun _ _ => rfl)))))) pa_nil)) pa_nil)) (pe_callB (call_repr hG hr.units) (by rfl) T.n_repr (by decide +kernel) (pa_cons (pv 4) pa_nil)) (nomark _))))) (pss_one (ps_ret pe_bl)) pss_nil)
    h7))))))), ?_⟩
    refine ⟨_, rfl, a, ns, rfl, hS, hl, fun c d H1 hcn s1 hC => ?_⟩
    have hT1 : LamX.Tabs [(PT, qL)] H1 := hT.ext s1
    -- wide and many
    refine ⟨_, rfl, c, d, ns, 0, 8, rfl, hC, by omega, by decide, small9000 (by decide), fun r1 H2 a1 b1 hC2 sb2 => ⟨1, r1, rfl, rfl, ?_⟩⟩
    refine ⟨_, rfl, _, rfl, c, d, ns, 1, 6, rfl, hC2, by omega, by decide, small9000 (by decide), fun r2 H3 a2 b2 hC3 sb3 => ⟨_, rfl, c, d, ns, 2, 16, rfl, hC3, by omega, by decide, small9000 (by decide), fun r3 H4 a3 b3 hC4 sb4 => ⟨(by show 2 ≤ sizeLine; decide), fun L hL => ?_⟩⟩⟩
    have nL := (hC4.ne hL).1
    have sL := same_upd (o := .lst [.int r2, .int r3]) hL
    refine ⟨c, d, ns, 3, false, L, [.int r2, .int r3], rfl, hC4.but sL, by omega, .of (off1 upd_same nL), Nat.le_of_ble_eq_true rfl, Nat.le_of_ble_eq_true rfl, fun iz y H5 hy hC5 sb5 => ?_⟩
    obtain ⟨r4, rfl, a4, b4⟩ : ∃ k : Int, y = .int k ∧ 0 ≤ k ∧ k < 16 := by
      refine all_get (p := fun y => ∃ k : Int, y = .int k ∧ 0 ≤ k ∧ k < 16) ?_ hy
      intro y' hy'
      simp only [List.mem_cons, List.not_mem_nil, or_false] at hy'
      rcases hy' with rfl | rfl
      · exact ⟨_, rfl, a2, by omega⟩
      · exact ⟨_, rfl, a3, b3⟩
    have sb15 : SameBut c H1 H5 := sb2.trans (sb3.trans (sb4.trans ((SameBut.of sL).trans sb5)))
    have hT5 := tabs_but hT1 hC sb15
    refine ⟨1, r4, rfl, rfl, _, _, rfl, ?_⟩
    dsimp only
    obtain ⟨wd, hwd⟩ : ∃ n : Nat, 1 + r1 = (n : Int) := ⟨(1 + r1).toNat, by omega⟩
    obtain ⟨n, hn⟩ : ∃ n : Nat, 1 + r4 = (n : Int) := ⟨(1 + r4).toNat, by omega⟩
    rw [hwd, hn]
    have w1 : 1 ≤ wd := by omega
    have w8 : wd ≤ 8 := by omega
    have n1 : 1 ≤ n := by omega
    have n16 : n ≤ 16 := by omega
    -- rank
    refine ⟨_, rfl, _, rfl, _, rfl, (wd : Nat), (n : Nat), rfl, _, 1, rfl, rfl, c, d, ns, 4, _, rfl, hC5, by omega, ?_, ?_, fun r5 H6 a5 b5 hC6 sb6 => ?_⟩
    · split <;> omega
    · exact small9000 (Nat.lt_of_le_of_lt (by split <;> omega : _ ≤ 100) (by decide))
    obtain ⟨r, rfl⟩ : ∃ n : Nat, r5 = (n : Int) := ⟨r5.toNat, by omega⟩
    have hr1 : r ≤ wd := by split at b5 <;> omega
    have hr2 : r ≤ n := by split at b5 <;> omega
    clear b5
    refine ⟨_, rfl, _, rfl, _, rfl, _, rfl, c, d, ns, 5, r, wd, n, rfl, hC6, by omega, hr1, hr2, w8, n16, fun p us M H7 hpn npc npd hp hRw hRk hMl hMb hC7 sb7 => ?_⟩
    have hT7 := tabs_but hT5 hC5 (sb6.trans sb7)
    have hMne : M ≠ [] := List.length_pos_iff.mp (by omega)
    have hMw : ∀ x ∈ M, x.length = wd := hRk.len
    have hM25 : ∀ x ∈ M, x.length ≤ 25 ∧ ∀ b ∈ x, b.natAbs < 2 ^ 85 := fun x hx => ⟨by rw [hMw x hx]; omega, fun b hb => Nat.lt_of_le_of_lt (hMb x hx b hb) (by decide)⟩
    have hus : us.length = n := by rw [hRw.1, hMl]
    obtain ⟨_, dR, _, _, hsw⟩ := hRw.bnt (K := K) hp npc hMne (by omega) hM25
    have swR : ∀ H', SBN c H7 H' → Sw K H' (.ref p) dR := fun H' s => hsw.same s.up
    have okM : ∀ lo, lo ≤ 1 → okB (some (mat M)) lo = true := fun lo h => ok_of (n := wd) (by omega) (by omega) w1 w8 hMw
    have hrb : ((r : Nat) : Int).natAbs < 2 ^ 85 := Nat.lt_of_le_of_lt (by omega : _ ≤ 100) (by decide)
    have erk := rank_of_ranked hMne hRk
    refine ⟨_, rfl, .ref p, dR, rfl, swR H7 (SBN.of (SameBut.refl c H7)), ?_⟩
    -- the rank of rows
    refine ⟨_, rfl, rfl, .ref p, some (mat M), rfl, val_l hp (by omega) (hRw.rw2.rows hM25), mat_small hM25, fun _ N eN H8 s8 => ?_, fun e => absurd e (by rw [okM 1 (by omega)]; decide)⟩
    obtain rfl : N = M := mat_inj (Option.some.inj eN).symm
    rw [erk]
    refine ⟨_, _, rfl, int_it, int_sh hrb, _, rfl, _, _, rfl, int_it, int_sh hrb, rfl, _, rfl, ?_⟩
    rw [decide_eq_true rfl]
    refine iteF ?_
    -- .. as tuples
    refine ⟨_, rfl, false, p, rfl, ⟨_, .of (s8 _ _ hp)⟩, fun D hD => lc_rel (R := fun i y H => ∃ (q : Addr) (x : Vec), y = .ref q ∧ N[i]? = some x ∧ H q = some (.tup (x.map V.int))) (walk_seq (b := false)) hD (Nat.lt_of_le_of_lt (by omega : us.length ≤ 16) (by decide)) (fun H s => .of (s _ _ (s8 _ _ hp)))
      (fun i y H H' s ⟨q, x, e1, e2, t⟩ => ⟨q, x, e1, e2, s _ _ t⟩) ?_ ?_⟩
    · rintro i x H9 H10 hi s9 ⟨acc, hacc⟩ ⟨rfl, hx⟩ Rk kk
      obtain ⟨q, rfl, _, _, hq⟩ := hRw.2 i x _ hx (List.getElem?_eq_getElem (by omega : i < N.length))
      refine ⟨rfl, _, rfl, false, q, _, rfl, .of (s9 _ _ (s8 _ _ hq)), fun _ l hl => kk _ _ (same_upd hl) ⟨l, _, rfl, List.getElem?_eq_getElem (by omega : i < N.length), ?_⟩, fun z => (by cases z)⟩
      rw [off_ne (fun e => by rw [e, hacc] at hl; cases hl)]
      exact upd_same
    rintro H9 ⟨ts, lts, hD9, s9, hr9⟩
    refine ⟨false, D, _, rfl, .of hD9, fun _ Z hZ => ?_, fun z => (by cases z)⟩
    have sZ := same_upd (o := .tup ts) hZ
    have hts : Rw2 (upd H9 Z (.tup ts)) ts N := ⟨by rw [lts, hRw.1], fun i u x e1 e2 => by
      obtain ⟨q, x', e3, e4, t⟩ := hr9 i u e1
      rw [e2] at e4
      cases e4
      exact ⟨q, e3, .inr (sZ _ _ (off_same _ _ _ _ t))⟩⟩
    refine ⟨.ref Z, some (mat N), rfl, val_t upd_same (by omega) (hts.rows hM25), mat_small hM25, fun _ N' eN H10 s10 => ?_, fun e => absurd e (by rw [okM 1 (by omega)]; decide)⟩
    obtain rfl : N' = N := mat_inj (Option.some.inj eN).symm
    rw [erk]
    refine ⟨_, _, rfl, int_it, int_sh hrb, _, rfl, _, _, rfl, int_it, int_sh hrb, rfl, _, rfl, ?_⟩
    rw [decide_eq_true rfl]
    refine iteF ?_
    have s7A : Same H7 H10 := s8.trans (s9.trans (sZ.trans s10))
    clear hts hr9 hD9 sZ s9 s10 s8 hZ hD lts
    have hp10 := s7A _ _ hp
    have hRw10 : Rws H10 c p us N' := hRw.sbn (SBN.of (SameBut.of s7A))
    have hC10 := hC7.but s7A
    have hT10 : LamX.Tabs [(PT, qL)] H10 := hT7.ext s7A
    -- columns
    refine ⟨_, rfl, _, _, rfl, rfl, _, rfl, ?_⟩
    by_cases c8 : ((n : Nat) : Int) ≤ 8
    · rw [decide_eq_true c8]
      refine iteT ?_
      refine ⟨_, rfl, _, rfl, by omega, by omega, fun D hD => lc_rel (R := fun i y H => ∃ q : Addr, y = .ref q ∧ H q = some (.lst ((N'.map fun row => row.getD i 0).map V.int))) walk_range hD (Nat.lt_of_le_of_lt (by omega : _ ≤ 8) (by decide)) (fun _ _ => trivial)
        (fun i y H H' s ⟨q, e1, t⟩ => ⟨q, e1, s _ _ t⟩) ?_ ?_⟩
      · rintro i x H11 H12 hi s11 ⟨acc, hacc⟩ ⟨rfl, rfl⟩ Rk kk
        have hiw : i < wd := by omega
        refine ⟨rfl, _, rfl, false, p, rfl, ⟨_, .of (s11 _ _ hp10)⟩, fun D2 hD2 => lc_fun (fun t => V.int ((N'.getD t []).getD i 0)) (walk_seq (b := false)) hD2 (Nat.lt_of_le_of_lt (by omega : us.length ≤ 16) (by decide)) (fun H s => .of (s _ _ (s11 _ _ hp10))) ?_ ?_⟩
        · rintro t v H13 H14 ht s13 _ ⟨rfl, hx⟩ Rk2 kk2
          obtain ⟨q, rfl, _, _, hq⟩ := hRw10.2 t v _ hx (List.getElem?_eq_getElem (by omega : t < N'.length))
          have eg : N'.getD t [] = N'[t]'(by omega) := getD_of (by omega : t < N'.length) _
          have e := kk2 _ (Same.refl _)
          rw [eg] at e
          exact ⟨rfl, _, rfl, _, rfl, false, q, _, _, _, rfl, rfl, .of (s13 _ _ (s11 _ _ hq)), by rw [Int.zero_add]; exact atI_int (by rw [hMw _ (List.getElem_mem _)]; exact hiw), e⟩
        · intro H13 hD13 s13
          rw [hRw10.1, range_map_getD N' [] (fun row => V.int (row.getD i 0))] at hD13
          refine kk _ _ s13 ⟨D2, rfl, ?_⟩
          rw [off_ne (fun e => by rw [e, hacc] at hD2; cases hD2), List.map_map]
          exact hD13
      rintro H11 ⟨cs, lcs, hD11, s11, hr11⟩
      have lcs' : cs.length = wd := by omega
      have hcols : Rw2 H11 cs ((List.range wd).map fun j => N'.map fun row => row.getD j 0) := ⟨by rw [lcs', List.length_map, List.length_range], fun i u x e1 e2 => by
        obtain ⟨q, e3, t⟩ := hr11 i u e1
        have hi : i < wd := by rw [← lcs']; exact (List.getElem?_eq_some_iff.mp e1).1
        rw [List.getElem?_map, List.getElem?_range hi] at e2
        cases e2
        exact ⟨q, e3, .inl (off_same _ _ _ _ t)⟩⟩
      have hcb : ∀ x ∈ (List.range wd).map fun j => N'.map fun row => row.getD j 0, x.length ≤ 25 ∧ ∀ b ∈ x, b.natAbs < 2 ^ 85 := fun x hx => by
        obtain ⟨j, _, rfl⟩ := List.mem_map.mp hx
        refine ⟨by rw [List.length_map]; omega, fun b hb => ?_⟩
        obtain ⟨row, hrow, rfl⟩ := List.mem_map.mp hb
        exact getD_mem (P := fun b => b.natAbs < 2 ^ 85) (by decide) (hM25 row hrow).2
      have okC : okB (some (mat ((List.range wd).map fun j => N'.map fun row => row.getD j 0))) 1 = true := ok_of (n := n) (by rw [List.length_map, List.length_range]; exact w1) (by rw [List.length_map, List.length_range]; omega) n1 (by omega) fun x hx => by
        obtain ⟨j, _, rfl⟩ := List.mem_map.mp hx
        rw [List.length_map, hMl]
      refine ⟨.ref D, _, rfl, val_l hD11 (by omega) (hcols.rows hcb), mat_small hcb, fun _ N2 eN H12 s12 => ?_, fun e => absurd e (by rw [okC]; decide)⟩
      obtain rfl := mat_inj (Option.some.inj eN)
      rw [rank_of_cols w1 hRk]
      refine ⟨_, _, rfl, int_it, int_sh hrb, _, rfl, _, _, rfl, int_it, int_sh hrb, rfl, _, rfl, ?_⟩
      rw [decide_eq_true rfl]
      have s112 := s11.trans s12
      refine iteF ?_
      exact rest c d ns _ wd n r p us N' dR H12 (hC10.but s112) (by omega) (hT10.ext s112) (s112 _ _ hp10) npc (hRw10.sbn (SBN.of (SameBut.of s112))) hRk hMl hMb w1 w8 n1 n16 hr1 fun H' s => swR H' ((SBN.of (SameBut.of (s7A.trans s112))).trans s)
    · rw [decide_eq_false c8]
      refine iteF ?_
      exact rest c d ns _ wd n r p us N' dR H10 hC10 (by omega) hT10 hp10 npc hRw10 hRk hMl hMb w1 w8 n1 n16 hr1 fun H' s => swR H' ((SBN.of (SameBut.of s7A)).trans s)
end
end K0


set_option Elab.async false
set_option linter.all false
set_option maxRecDepth 100000
set_option maxHeartbeats 4000000
/-! the call of the law at the top, where its promise is FnG's, one table of code objects beside the script -/
namespace K0
open PySem PySem.Spec PyProof.Rows L2

/-- what the top tracks: the table at T, and the list at a where t -/
def topH (T a : Addr) (t : Bool) (u : HO) : Hp := fun b => if b = T then some (.tbl #[]) else if b = a then (if t = true then some u else none) else none
section
variable {T a b : Addr} {t : Bool} {u : HO}
theorem topH_T : topH T a t u T = some (.tbl #[]) := if_pos rfl
theorem topH_a (h : a ≠ T) : topH T a t u a = if t = true then some u else none := (if_neg h).trans (if_pos rfl)
theorem topH_o (h1 : b ≠ T) (h2 : b ≠ a) : topH T a t u b = none := (if_neg h1).trans (if_neg h2)
end
section
variable {P : Program} {w : World} {K : PySem.W.Frag} {mg mb : Str → Option Value} {k : Nat} {fa a cc PT : Addr} {fd : FuncData} {x : Str} {sp : Sp} {sT : Shared} {vs : List Value} {ns : List Int}
theorem top_call (KX : K.In sT.heap) (nG : sT.heap.Ns mainGlobals mg) (nB : sT.heap.Ns builtinsNs mb) (bB : ∀ y : Str, y ≠ "__name__" → mb y = bootBuiltins y) (lim : sT.heap.NoLimit) (gens : sT.gens = #[])
    (tab : sT.heap.get? PT = some { cls := .none, data := .fields #[] }) (tabK : K.lookup PT = none) (code : PySem.W.CodeHd sT.heap cc PT)
    (bm : ∃ (m : Addr) (om : Obj), mg "__builtins__" = some (.ref m) ∧ m ≠ builtinsNs ∧ sT.heap.get? m = some om ∧ om.cls = .type "module" ∧ om.dict = some builtinsNs ∧ om.data = .plain)
    (la : sT.heap.get? a = some { cls := .type "list", data := .seq vs.toArray }) (li : IntsAre vs ns) (ll : ns.length ≤ sizeLine) (room : Room k callerA)
    (F : ∀ gr : Heap, K.In gr → gr.Ns mainGlobals mg → LamX.TabB gr mg cc PT → FnG P w K mg gr k fa fd [x] sp)
    (bind : ∀ (s : Shared) (v : Value), BindsTo s fd ⟨[v], []⟩ [(x, v)])
    (ask : ∀ Hx : Hp, Hx PT = some (.tbl #[]) → SqL K Hx a (ns.map V.int) → sp [.ref a] Hx (fun v _ => v = .bl true) fun _ _ _ => False) :
    codeAny (model P w) callerA (.call (.ref fa) ⟨[.ref a], []⟩) (fun r sE => r = .ok (.ret (.bool true)) ∧ OldK sT.heap sE.heap ∧ sE.os = sT.os ∧ AllBare sE.gens) sT := by
  have vn := vals_ints li
  have len := li.length
  have aT : a ≠ PT := fun z => by
    rw [z, tab] at la
    cases la
  obtain ⟨t, ht⟩ : ∃ t, t = (K.lookup a).isNone := ⟨_, rfl⟩
  obtain ⟨u, hu⟩ : ∃ u, u = HO.frz { cls := .type "list", data := .seq vs.toArray } (.lst (ns.map V.int)) := ⟨_, rfl⟩
  obtain ⟨Hx, eH⟩ : ∃ Hx, Hx = topH PT a t u := ⟨_, rfl⟩
  have hT : Hx PT = some (.tbl #[]) := by rw [eH]; exact topH_T
  have hA : Hx a = if t = true then some u else none := by rw [eH]; exact topH_a aT
  have hO : ∀ b, b ≠ PT → b ≠ a → Hx b = none := fun b h1 h2 => by rw [eH]; exact topH_o h1 h2
  -- nothing but a list and a table is tracked
  have free : ∀ {b : Addr} {o : Obj}, sT.heap.get? b = some o → o.data ≠ .fields #[] → (∀ its n, o.data ≠ .seq its n) → Hx b = none := fun {b o} e d1 d2 => by
    refine hO b (fun z => ?_) fun z => ?_
    · rw [z, tab] at e
      cases e
      exact d1 rfl
    · rw [z, la] at e
      cases e
      exact d2 _ _ rfl
  have held : HOk P w Hx sT.heap := fun b o e => by
    by_cases h1 : b = PT
    · rw [h1, hT] at e
      cases e
      rw [h1]
      exact tab
    · by_cases h2 : b = a
      · rw [h2, hA] at e
        cases t with
        | false => exact absurd e (by simp)
        | true =>
          rw [if_pos rfl] at e
          cases e
          rw [h2, hu]
          exact ⟨la, by rw [List.length_map]; exact ll, vs, _, vn, la⟩
      · rw [hO b h1 h2] at e
        cases e
  have seq : SqL K Hx a (ns.map V.int) := by
    cases hk : K.lookup a with
    | none =>
      rw [hk] at ht
      refine .inl (.inr ⟨{ cls := .type "list", data := .seq vs.toArray }, ?_⟩)
      rw [hA, ht, ← hu]
      rfl
    | some o =>
      have e := KX a o hk
      rw [la] at e
      cases e
      exact .inr ⟨_, vs.toArray, _, hk, rfl, rfl, rfl, by rw [List.size_toArray, len]; exact ll, by simpa using vn⟩
  have inGr : K.In (hidT sT.heap Hx) := fun b o e => by
    refine hidT_get (KX b o e) ?_
    by_cases h1 : b = PT
    · rw [h1, tabK] at e
      cases e
    · by_cases h2 : b = a
      · rw [h2] at e
        rw [e] at ht
        rw [h2, hA, ht]
        rfl
      · exact hO b h1 h2
  have ns2 : ∀ {b : Addr} {m : Str → Option Value}, sT.heap.Ns b m → (hidT sT.heap Hx).Ns b m := fun {b m} ⟨o, es, ep, e, d, r⟩ =>
    ⟨o, es, ep, hidT_get e (free e (fun z => by rw [d] at z; cases z) fun its n z => by rw [d] at z; cases z), d, r⟩
  have tb : LamX.TabB (hidT sT.heap Hx) mg cc PT := by
    refine ⟨?_, ?_, fun z => ?_⟩
    · obtain ⟨o, us, file, tf, flags, tg, inF, text, tt, e1, r1, r2, r3, rest⟩ := code
      refine ⟨o, us, file, tf, flags, tg, inF, text, tt, hidT_get e1 (free e1 (fun z => ?_) fun its n z => ?_), r1, r2, r3, rest⟩
      · rw [r2] at z
        cases z
        simp at r3
      · rw [r2] at z
        cases z
    · obtain ⟨m, om, b1, b2, b3, b4, b5, b6⟩ := bm
      refine ⟨m, om, b1, b2, fun z => ?_, fun z => ?_, hidT_get b3 (free b3 (fun z => ?_) fun its n z => ?_), b4, b5, b6⟩
      · obtain ⟨o, es, ep, e, d, _⟩ := nG
        rw [z, e] at b3
        cases b3
        rw [d] at b6
        cases b6
      · rw [z, tab] at b3
        cases b3
        cases b6
      · rw [b6] at z
        cases z
      · rw [b6] at z
        cases z
    · obtain ⟨o, es, ep, e, d, _⟩ := nG
      rw [z, tab] at e
      cases e
      cases d
  have env : Env0 P w K mg (hidT sT.heap Hx) callerA [] sT Hx :=
    { frames := rfl
      mod := ⟨inGr, ns2 nG, ⟨mb, ns2 nB, bB⟩, let ⟨mc, z1, z2⟩ := lim; ⟨mc, ns2 z1, z2⟩⟩
      bs := fun b o e => of_hidT e
      bsz := Nat.le_of_eq (hidT_size _ _)
      funs := trivial
      frf := fun b hb => absurd hb List.not_mem_nil
      hok := held
      bare := .of_eq gens }
  have go := (F _ inGr (ns2 nG) tb).go callerA [] sT Hx ⟨[.ref a], []⟩ [.ref a] [.ref a] _ _ rfl room env (bind sT (.ref a)) (.cons rfl .nil) (ask Hx hT seq)
  refine codeAny_mono go fun r sE h => ?_
  match r, h with
  | .error e, h => exact (show False from h).elim
  | .ok .next, h => exact (show False from h).elim
  | .ok .brk, h => exact (show False from h).elim
  | .ok .cont, h => exact (show False from h).elim
  | .ok (.ret z), h =>
    obtain ⟨v, Hy, os, bare, un, ok2, rv, q⟩ := h
    have q2 : v = .bl true := q
    subst q2
    obtain rfl : z = Value.bool true := rv
    have stay : ∀ b o, b ≠ PT → sT.heap.get? b = some o → sE.heap.get? b = some o := fun b o nb e => by
      by_cases hb : b = a
      · have hAe := hA
        cases t with
        | false => exact un.keep b o e (by rw [hb, hAe]; rfl) List.not_mem_nil List.not_mem_nil
        | true =>
          rw [if_pos rfl] at hAe
          have fz := hAe
          rw [hu] at fz
          have f2 := un.frzs a _ _ fz
          obtain ⟨z1, _⟩ := held a _ fz
          obtain ⟨z2, _⟩ := ok2 a _ f2
          rw [hb, z1] at e
          cases e
          rw [hb]
          exact z2
      · exact un.keep b o e (hO b nb hb) List.not_mem_nil List.not_mem_nil
    obtain ⟨more, hm⟩ := un.tbls PT #[] hT
    have tE : sE.heap.get? PT = some { cls := .none, data := .fields (#[] ++ more) } := ok2 PT _ hm
    refine ⟨rfl, ⟨fun b o e => ?_, fun b o e => ?_⟩, os, bare⟩
    · by_cases hb : b = PT
      · rw [hb] at e ⊢
        rw [tab] at e
        cases e
        exact .inr (.inl ⟨(code.tab tab).isCodeTable, rfl, #[], more, rfl, tE⟩)
      · exact .inl (stay b o hb e)
    · by_cases hb : b = PT
      · rw [hb]
        exact ⟨_, tE⟩
      · exact ⟨o, stay b o hb e⟩
end
end K0


set_option Elab.async false
set_option linter.all false
set_option maxRecDepth 100000
set_option maxHeartbeats 4000000
namespace K0
open PySem PySem.Spec PyProof.Rows L2

section
variable {P : Program} {w : World} {K : PySem.W.Frag} {mg : Str → Option Value} {base : Heap}
theorem nmg {h : Heap} {x : Str} (X : K.In h) (G : h.Ns mainGlobals mg) (e : PySem.W.nsIn K mainGlobals x = some none) : mg x = none := PySem.W.mg_none_of X G e
theorem cls_ok {K : PySem.W.Frag} {D : Addr} (i : PySem.W.isClsIn K D = true) (t : PySem.W.typeIn K (.ref D) = some (.type "type")) : ((PySem.W.clsIn K D).isSome && PySem.W.typeIn K (.ref D) == some (.type "type")) = true := by
  have i2 : (PySem.W.clsIn K D).isSome = true := i
  rw [i2, t]
  rfl
theorem kit_self {K : PySem.W.Frag} {v : Value} : PySem.W.kitOne K v v = some true := if_pos (beq_iff_eq.mpr rfl)
theorem kit_cl {K : PySem.W.Frag} {C D : Addr} {b : Bool} (h : PySem.W.subIn K (.ref C) (.ref D) = some b) (i : PySem.W.isClsIn K D = true) (t : PySem.W.typeIn K (.ref D) = some (.type "type")) : PySem.W.kitCls K (.ref C) (.ref D) = some b := by
  exact Eq.trans (if_pos (cls_ok i t)) h
theorem kit_no {K : PySem.W.Frag} {C D : Addr} (h : PySem.W.subIn K (.ref C) (.ref D) = some false) (s : PySem.W.subIn K (.ref D) (.ref D) = some true) (i : PySem.W.isClsIn K D = true) (t : PySem.W.typeIn K (.ref D) = some (.type "type")) : PySem.W.kitOne K (.ref C) (.ref D) = some false := by
  have ne : ¬ (Value.ref C == Value.ref D) = true := fun e => by
    have e2 := Value.ref.inj (beq_iff_eq.mp e)
    rw [e2, s] at h
    cases h
  unfold PySem.W.kitOne
  rw [if_neg ne]
  exact kit_cl h i t
theorem kit_yes {K : PySem.W.Frag} {C D : Addr} (h : PySem.W.subIn K (.ref C) (.ref D) = some true) (i : PySem.W.isClsIn K D = true) (t : PySem.W.typeIn K (.ref D) = some (.type "type")) : PySem.W.kitOne K (.ref C) (.ref D) = some true := by
  unfold PySem.W.kitOne
  by_cases e : (Value.ref C == Value.ref D) = true
  · rw [if_pos e]
  · rw [if_neg e]
    exact kit_cl h i t
theorem kit_tn {K : PySem.W.Frag} {C : Addr} {T : String} {b : Bool} (h : PySem.W.subIn K (.ref C) (.type T) = some b) (m : PySem.W.kitMeta T = true) : PySem.W.kitOne K (.ref C) (.type T) = some b := by
  unfold PySem.W.kitOne
  rw [if_neg (fun e => by cases beq_iff_eq.mp e)]
  exact Eq.trans (if_pos m) h
theorem any_no {K : PySem.W.Frag} {t c : Value} {cs : List Value} (h : PySem.W.kitOne K t c = some false) (r : PySem.W.kitAny K t cs = some false) : PySem.W.kitAny K t (c :: cs) = some false := kitAny_cons h (fun _ => r) (fun e => by cases e)
theorem exm_yes {K : PySem.W.Frag} {C D : Addr} (b : PySem.W.subIn K (.ref D) (.type "BaseException") = some true) (h : PySem.W.subIn K (.ref C) (.ref D) = some true) (i : PySem.W.isClsIn K D = true) (t : PySem.W.typeIn K (.ref D) = some (.type "type")) : PySem.W.exmOne K (.ref C) (.ref D) = some true := by
  unfold PySem.W.exmOne
  rw [b, if_pos (by rfl)]
  exact kit_cl h i t
theorem dn_of {x : Str} {st : Stmt} {f : Addr} {fd : FuncData} {k : Nat} {ps : List Str} {sp : Sp} (F : Fun K x x st f fd) (O : FnOk P w K mg base CX0 k f fd ps sp) (m : mg x = some (.ref f))
    (b : ∀ (kV doc pm : Value) (an : Option Addr) (cdv ct : Value) (us : List Value), us.length = ps.length → bindArgs (PySem.W.fnOf x x (defArgs st) (defBody st) (defScope st) .none kV doc pm an cdv ct) ⟨us, []⟩ = pure (ps.zip us)) : Dn P w K mg base k x f ps sp := ⟨⟨fd, O, F.binds b⟩, m, F.kp⟩
theorem dg_of {x : Str} {st : Stmt} {f : Addr} {fd : FuncData} {k : Nat} {ps : List Str} {sp : Sp} (B : Binds K fd ps []) (kp : PySem.W.keepIn K (.ref f) = true) (O : FnG P w K mg base k f fd ps sp) (m : mg x = some (.ref f)) : DnG P w K mg base k x f ps sp := ⟨⟨fd, O, B⟩, m, kp⟩
theorem dx_of {x : Str} {st : Stmt} {f : Addr} {fd : FuncData} {k : Nat} {ps : List Str} {sp : Sp} (F : Fun K x x st f fd) (O : FnOk P w K mg base (L2.CX P w) k f fd ps sp) (m : mg x = some (.ref f))
    (b : ∀ (kV doc pm : Value) (an : Option Addr) (cdv ct : Value) (us : List Value), us.length = ps.length → bindArgs (PySem.W.fnOf x x (defArgs st) (defBody st) (defScope st) .none kV doc pm an cdv ct) ⟨us, []⟩ = pure (ps.zip us)) : DnX P w K mg base k x f ps sp := ⟨⟨fd, O, F.binds b⟩, m, F.kp⟩
/-- keywords, in the order of the parameters -/
theorem kb_same {x : Str} {st : Stmt} {f : Addr} {fd : FuncData} {ps : List Str} (F : Fun K x x st f fd)
    (b : ∀ (kV doc pm : Value) (an : Option Addr) (cdv ct : Value) (ws : List Value), ws.length = ps.length → bindArgs (PySem.W.fnOf x x (defArgs st) (defBody st) (defScope st) .none kV doc pm an cdv ct) ⟨[], ps.zip ws⟩ = pure (ps.zip ws)) : KBn K fd ps 0 ps (fun _ ws => ws) kw1 := by
  obtain ⟨oc, od, kV, doc, pm, an, cdv, ct, osl, rfl, lk, hcd⟩ := F.ex
  refine ⟨fun s us ws _ l1 l2 => ?_, fun _ r => r⟩
  match us, l1 with
  | [], _ => exact .of_eq (b kV doc pm an cdv ct ws l2)
end
theorem all_mk {P : Program} {w : World} {K : PySem.W.Frag} {h : Heap} {mg : Str → Option Value} (X : K.In h) (G : h.Ns mainGlobals mg)
    {C0 I0 C1 I1 C2 F0 F1 F2 F3 F4 F5 F6 F7 F8 F9 F10 F11 F12 F13 F14 F15 F16 F17 F18 F19 F20 F21 F22 F23 F24 F25 F26 F27 F28 F29 F30 cc PT : Addr} {nm0 cq0 nm1 cq1 : Str} {N0 N1 : Addr} {bs0 bm0 sub0 bs1 bm1 sub1 : List Value} {sn0 sn1 : List Str} {ab0 ab1 : Bool} {col0 col1 : Option Bool} {dd0 od0 an0 dd1 od1 an1 dod0 dan0 dod1 dan1 dod2 dan2 dod3 dan3 dod4 dan4 dod5 dan5 dod6 dan6 dod7 dan7 dod8 dan8 dod9 dan9 dod10 dan10 dod11 dan11 dod12 dan12 dod13 dan13 dod14 dan14 dod15 dan15 dod16 dan16 dod17 dan17 dod18 dan18 dod19 dan19 dod20 dan20 dod21 dan21 dod22 dan22 dod23 dan23 dod24 dan24 dod25 dan25 dod26 dan26 dod27 dan27 dod28 dan28 dod29 dan29 dod30 dan30 : Option Addr}
    {m00 m10 m20 m30 m50 m01 m11 m21 m31 m51 : Option Value} {oc0 kv0 cdc0 pm0 cd0 tt0 oc1 kv1 cdc1 pm1 cd1 tt1 doc0 dkv0 ddc0 dpm0 dcd0 dct0 doc1 dkv1 ddc1 dpm1 dcd1 dct1 doc2 dkv2 ddc2 dpm2 dcd2 dct2 doc3 dkv3 ddc3 dpm3 dcd3 dct3 doc4 dkv4 ddc4 dpm4 dcd4 dct4 doc5 dkv5 ddc5 dpm5 dcd5 dct5 doc6 dkv6 ddc6 dpm6 dcd6 dct6 doc7 dkv7 ddc7 dpm7 dcd7 dct7 doc8 dkv8 ddc8 dpm8 dcd8 dct8 doc9 dkv9 ddc9 dpm9 dcd9 dct9 doc10 dkv10 ddc10 dpm10 dcd10 dct10 doc11 dkv11 ddc11 dpm11 dcd11 dct11 doc12 dkv12 ddc12 dpm12 dcd12 dct12 doc13 dkv13 ddc13 dpm13 dcd13 dct13 doc14 dkv14 ddc14 dpm14 dcd14 dct14 doc15 dkv15 ddc15 dpm15 dcd15 dct15 doc16 dkv16 ddc16 dpm16 dcd16 dct16 doc17 dkv17 ddc17 dpm17 dcd17 dct17 doc18 dkv18 ddc18 dpm18 dcd18 dct18 doc19 dkv19 ddc19 dpm19 dcd19 dct19 doc20 dkv20 ddc20 dpm20 dcd20 dct20 doc21 dkv21 ddc21 dpm21 dcd21 dct21 doc22 dkv22 ddc22 dpm22 dcd22 dct22 doc23 dkv23 ddc23 dpm23 dcd23 dct23 doc24 dkv24 ddc24 dpm24 dcd24 dct24 doc25 dkv25 ddc25 dpm25 dcd25 dct25 doc26 dkv26 ddc26 dpm26 dcd26 dct26 doc27 dkv27 ddc27 dpm27 dcd27 dct27 doc28 dkv28 ddc28 dpm28 dcd28 dct28 doc29 dkv29 ddc29 dpm29 dcd29 dct29 doc30 dkv30 ddc30 dpm30 dcd30 dct30 : Value} {sl0 sl1 dsl0 dsl1 dsl2 dsl3 dsl4 dsl5 dsl6 dsl7 dsl8 dsl9 dsl10 dsl11 dsl12 dsl13 dsl14 dsl15 dsl16 dsl17 dsl18 dsl19 dsl20 dsl21 dsl22 dsl23 dsl24 dsl25 dsl26 dsl27 dsl28 dsl29 dsl30 : Array (Option Value)} {tMP tMW : Tok}
    (ca0 : PySem.W.nsIn K mainGlobals "BadNumber" = some (some (.ref C0)))
    (cl0 : K.lookup C0 = some (excClassObj nm0 cq0 C0 N0 bs0 bm0 true sn0 sub0 ab0 col0 dd0 m00 m10 m20 m30 m50 "ValueError.__new__"))
    (cv0 : PySem.HandSPX.refsVE bm0 = true)
    (cs0 : PySem.W.findIn K (.ref C0) "__setattr__" = some (some (.builtin "object.__setattr__")))
    (ci0 : PySem.W.findIn K (.ref C0) "__init__" = some (some (.ref I0)))
    (ct0 : PySem.W.typeIn K (.ref I0) = some (.type "function"))
    (cf0 : K.lookup I0 = some ⟨oc0, od0, .func (PySem.W.fnOf "__init__" "BadNumber.__init__" (defArgs si_BadNumber) (defBody si_BadNumber) (defScope si_BadNumber) .none kv0 cdc0 pm0 an0 cd0 tt0), sl0⟩)
    (cc0 : PySem.W.codeIn K cd0 "BadNumber.__init__" = true)
    (cj0 : PySem.W.keepIn K (.ref I0) = true)
    (cn0part : PySem.W.findIn K (.ref C0) "part" = some none)
    (cg0 : PySem.W.findIn K (.ref C0) "__getattribute__" = some (some (.builtin "BaseException.__getattribute__")))
    (ch0 : PySem.W.findIn K (.ref C0) "__getattr__" = some none)
    (ce0 : PySem.W.subIn K (.ref C0) (.type "BaseException") = some true)
    (cy0 : PySem.W.typeIn K (.ref C0) = some (.type "type"))
    (ck0 : PySem.W.keepIn K (.ref C0) = true)
    (cd_0 : PySem.W.hasDictIn K C0 = true)
    (co0 : PySem.W.findIn K (.ref C0) "__class__" = some (some (.builtin "object.__class__")))
    (cm0 : PySem.W.mroIn K C0 (.type "object") = some true)
    (iC0 : PySem.W.isClsIn K C0 = true)
    (ca1 : PySem.W.nsIn K mainGlobals "BadPoint" = some (some (.ref C1)))
    (cl1 : K.lookup C1 = some (excClassObj nm1 cq1 C1 N1 bs1 bm1 true sn1 sub1 ab1 col1 dd1 m01 m11 m21 m31 m51 "ValueError.__new__"))
    (cv1 : PySem.HandSPX.refsVE bm1 = true)
    (cs1 : PySem.W.findIn K (.ref C1) "__setattr__" = some (some (.builtin "object.__setattr__")))
    (ci1 : PySem.W.findIn K (.ref C1) "__init__" = some (some (.ref I1)))
    (ct1 : PySem.W.typeIn K (.ref I1) = some (.type "function"))
    (cf1 : K.lookup I1 = some ⟨oc1, od1, .func (PySem.W.fnOf "__init__" "BadPoint.__init__" (defArgs si_BadPoint) (defBody si_BadPoint) (defScope si_BadPoint) .none kv1 cdc1 pm1 an1 cd1 tt1), sl1⟩)
    (cc1 : PySem.W.codeIn K cd1 "BadPoint.__init__" = true)
    (cj1 : PySem.W.keepIn K (.ref I1) = true)
    (cn1part : PySem.W.findIn K (.ref C1) "part" = some none)
    (cg1 : PySem.W.findIn K (.ref C1) "__getattribute__" = some (some (.builtin "BaseException.__getattribute__")))
    (ch1 : PySem.W.findIn K (.ref C1) "__getattr__" = some none)
    (ce1 : PySem.W.subIn K (.ref C1) (.type "BaseException") = some true)
    (cy1 : PySem.W.typeIn K (.ref C1) = some (.type "type"))
    (ck1 : PySem.W.keepIn K (.ref C1) = true)
    (cd_1 : PySem.W.hasDictIn K C1 = true)
    (co1 : PySem.W.findIn K (.ref C1) "__class__" = some (some (.builtin "object.__class__")))
    (cm1 : PySem.W.mroIn K C1 (.type "object") = some true)
    (iC1 : PySem.W.isClsIn K C1 = true)
    (ca2 : PySem.W.nsIn K mainGlobals "SolidError" = some (some (.ref C2)))
    (ce2 : PySem.W.subIn K (.ref C2) (.type "BaseException") = some true)
    (cy2 : PySem.W.typeIn K (.ref C2) = some (.type "type"))
    (iC2 : PySem.W.isClsIn K C2 = true)
    (gn : PySem.W.specialIn K (.builtin "object.__class__") "__get__" = some (some (.builtin "getset_descriptor.__get__")))
    (gt : PySem.W.takesIn K (.builtin "object.__class__") = some true)
    (k0_0 : PySem.W.subIn K (.ref C0) (.ref C0) = some true)
    (k1_0 : PySem.W.subIn K (.ref C1) (.ref C0) = some false)
    (ks0 : PySem.W.subIn K (.ref C0) (.ref C2) = some true)
    (ks1 : PySem.W.subIn K (.ref C1) (.ref C2) = some true)
    (n_isinstance : PySem.W.nsIn K mainGlobals "isinstance" = some none)
    (n_int : PySem.W.nsIn K mainGlobals "int" = some none)
    (n_bool : PySem.W.nsIn K mainGlobals "bool" = some none)
    (n_list : PySem.W.nsIn K mainGlobals "list" = some none)
    (n_tuple : PySem.W.nsIn K mainGlobals "tuple" = some none)
    (n_len : PySem.W.nsIn K mainGlobals "len" = some none)
    (n_all : PySem.W.nsIn K mainGlobals "all" = some none)
    (n_abs : PySem.W.nsIn K mainGlobals "abs" = some none)
    (n_repr : PySem.W.nsIn K mainGlobals "repr" = some none)
    (n_range : PySem.W.nsIn K mainGlobals "range" = some none)
    (n_enumerate : PySem.W.nsIn K mainGlobals "enumerate" = some none)
    (n_zip : PySem.W.nsIn K mainGlobals "zip" = some none)
    (n_sum : PySem.W.nsIn K mainGlobals "sum" = some none)
    (n_min : PySem.W.nsIn K mainGlobals "min" = some none)
    (m_gcd : PySem.W.nsIn K mainGlobals "gcd" = some (some (.builtin "math.gcd")))
    (c_MP : PySem.W.nsIn K mainGlobals "MOST_POINTS" = some (some (.int 16 tMP)))
    (c_MW : PySem.W.nsIn K mainGlobals "MOST_WIDE" = some (some (.int 8 tMW)))
    (da0 : PySem.W.nsIn K mainGlobals "divisor_of" = some (some (.ref F0)))
    (dl0 : K.lookup F0 = some ⟨doc0, dod0, .func (PySem.W.fnOf "divisor_of" "divisor_of" (defArgs st_divisor_of) (defBody st_divisor_of) (defScope st_divisor_of) .none dkv0 ddc0 dpm0 dan0 dcd0 dct0), dsl0⟩)
    (dc0 : PySem.W.codeIn K dcd0 "divisor_of" = true)
    (dk0 : PySem.W.keepIn K (.ref F0) = true)
    (da1 : PySem.W.nsIn K mainGlobals "reduced" = some (some (.ref F1)))
    (dl1 : K.lookup F1 = some ⟨doc1, dod1, .func (PySem.W.fnOf "reduced" "reduced" (defArgs st_reduced) (defBody st_reduced) (defScope st_reduced) .none dkv1 ddc1 dpm1 dan1 dcd1 dct1), dsl1⟩)
    (dc1 : PySem.W.codeIn K dcd1 "reduced" = true)
    (dk1 : PySem.W.keepIn K (.ref F1) = true)
    (da2 : PySem.W.nsIn K mainGlobals "product_of" = some (some (.ref F2)))
    (dl2 : K.lookup F2 = some ⟨doc2, dod2, .func (PySem.W.fnOf "product_of" "product_of" (defArgs st_product_of) (defBody st_product_of) (defScope st_product_of) .none dkv2 ddc2 dpm2 dan2 dcd2 dct2), dsl2⟩)
    (dc2 : PySem.W.codeIn K dcd2 "product_of" = true)
    (dk2 : PySem.W.keepIn K (.ref F2) = true)
    (da3 : PySem.W.nsIn K mainGlobals "unit_rows" = some (some (.ref F3)))
    (dl3 : K.lookup F3 = some ⟨doc3, dod3, .func (PySem.W.fnOf "unit_rows" "unit_rows" (defArgs st_unit_rows) (defBody st_unit_rows) (defScope st_unit_rows) .none dkv3 ddc3 dpm3 dan3 dcd3 dct3), dsl3⟩)
    (dc3 : PySem.W.codeIn K dcd3 "unit_rows" = true)
    (dk3 : PySem.W.keepIn K (.ref F3) = true)
    (da4 : PySem.W.nsIn K mainGlobals "narrowed" = some (some (.ref F4)))
    (dl4 : K.lookup F4 = some ⟨doc4, dod4, .func (PySem.W.fnOf "narrowed" "narrowed" (defArgs st_narrowed) (defBody st_narrowed) (defScope st_narrowed) .none dkv4 ddc4 dpm4 dan4 dcd4 dct4), dsl4⟩)
    (dc4 : PySem.W.codeIn K dcd4 "narrowed" = true)
    (dk4 : PySem.W.keepIn K (.ref F4) = true)
    (da5 : PySem.W.nsIn K mainGlobals "without" = some (some (.ref F5)))
    (dl5 : K.lookup F5 = some ⟨doc5, dod5, .func (PySem.W.fnOf "without" "without" (defArgs st_without) (defBody st_without) (defScope st_without) .none dkv5 ddc5 dpm5 dan5 dcd5 dct5), dsl5⟩)
    (dc5 : PySem.W.codeIn K dcd5 "without" = true)
    (dk5 : PySem.W.keepIn K (.ref F5) = true)
    (da6 : PySem.W.nsIn K mainGlobals "rank_among" = some (some (.ref F6)))
    (dl6 : K.lookup F6 = some ⟨doc6, dod6, .func (PySem.W.fnOf "rank_among" "rank_among" (defArgs st_rank_among) (defBody st_rank_among) (defScope st_rank_among) .none dkv6 ddc6 dpm6 dan6 dcd6 dct6), dsl6⟩)
    (dc6 : PySem.W.codeIn K dcd6 "rank_among" = true)
    (dk6 : PySem.W.keepIn K (.ref F6) = true)
    (da7 : PySem.W.nsIn K mainGlobals "lifted_point" = some (some (.ref F7)))
    (dl7 : K.lookup F7 = some ⟨doc7, dod7, .func (PySem.W.fnOf "lifted_point" "lifted_point" (defArgs st_lifted_point) (defBody st_lifted_point) (defScope st_lifted_point) .none dkv7 ddc7 dpm7 dan7 dcd7 dct7), dsl7⟩)
    (dc7 : PySem.W.codeIn K dcd7 "lifted_point" = true)
    (dk7 : PySem.W.keepIn K (.ref F7) = true)
    (da8 : PySem.W.nsIn K mainGlobals "span_among" = some (some (.ref F8)))
    (dl8 : K.lookup F8 = some ⟨doc8, dod8, .func (PySem.W.fnOf "span_among" "span_among" (defArgs st_span_among) (defBody st_span_among) (defScope st_span_among) .none dkv8 ddc8 dpm8 dan8 dcd8 dct8), dsl8⟩)
    (dc8 : PySem.W.codeIn K dcd8 "span_among" = true)
    (dk8 : PySem.W.keepIn K (.ref F8) = true)
    (da9 : PySem.W.nsIn K mainGlobals "is_integer" = some (some (.ref F9)))
    (dl9 : K.lookup F9 = some ⟨doc9, dod9, .func (PySem.W.fnOf "is_integer" "is_integer" (defArgs st_is_integer) (defBody st_is_integer) (defScope st_is_integer) .none dkv9 ddc9 dpm9 dan9 dcd9 dct9), dsl9⟩)
    (dc9 : PySem.W.codeIn K dcd9 "is_integer" = true)
    (dk9 : PySem.W.keepIn K (.ref F9) = true)
    (da10 : PySem.W.nsIn K mainGlobals "is_within" = some (some (.ref F10)))
    (dl10 : K.lookup F10 = some ⟨doc10, dod10, .func (PySem.W.fnOf "is_within" "is_within" (defArgs st_is_within) (defBody st_is_within) (defScope st_is_within) .none dkv10 ddc10 dpm10 dan10 dcd10 dct10), dsl10⟩)
    (dc10 : PySem.W.codeIn K dcd10 "is_within" = true)
    (dk10 : PySem.W.keepIn K (.ref F10) = true)
    (da11 : PySem.W.nsIn K mainGlobals "is_list" = some (some (.ref F11)))
    (dl11 : K.lookup F11 = some ⟨doc11, dod11, .func (PySem.W.fnOf "is_list" "is_list" (defArgs st_is_list) (defBody st_is_list) (defScope st_is_list) .none dkv11 ddc11 dpm11 dan11 dcd11 dct11), dsl11⟩)
    (dc11 : PySem.W.codeIn K dcd11 "is_list" = true)
    (dk11 : PySem.W.keepIn K (.ref F11) = true)
    (da12 : PySem.W.nsIn K mainGlobals "are_integers" = some (some (.ref F12)))
    (dl12 : K.lookup F12 = some ⟨doc12, dod12, .func (PySem.W.fnOf "are_integers" "are_integers" (defArgs st_are_integers) (defBody st_are_integers) (defScope st_are_integers) .none dkv12 ddc12 dpm12 dan12 dcd12 dct12), dsl12⟩)
    (dc12 : PySem.W.codeIn K dcd12 "are_integers" = true)
    (dk12 : PySem.W.keepIn K (.ref F12) = true)
    (da13 : PySem.W.nsIn K mainGlobals "is_point" = some (some (.ref F13)))
    (dl13 : K.lookup F13 = some ⟨doc13, dod13, .func (PySem.W.fnOf "is_point" "is_point" (defArgs st_is_point) (defBody st_is_point) (defScope st_is_point) .none dkv13 ddc13 dpm13 dan13 dcd13 dct13), dsl13⟩)
    (dc13 : PySem.W.codeIn K dcd13 "is_point" = true)
    (dk13 : PySem.W.keepIn K (.ref F13) = true)
    (da14 : PySem.W.nsIn K mainGlobals "are_points" = some (some (.ref F14)))
    (dl14 : K.lookup F14 = some ⟨doc14, dod14, .func (PySem.W.fnOf "are_points" "are_points" (defArgs st_are_points) (defBody st_are_points) (defScope st_are_points) .none dkv14 ddc14 dpm14 dan14 dcd14 dct14), dsl14⟩)
    (dc14 : PySem.W.codeIn K dcd14 "are_points" = true)
    (dk14 : PySem.W.keepIn K (.ref F14) = true)
    (da15 : PySem.W.nsIn K mainGlobals "rank_of" = some (some (.ref F15)))
    (dl15 : K.lookup F15 = some ⟨doc15, dod15, .func (PySem.W.fnOf "rank_of" "rank_of" (defArgs st_rank_of) (defBody st_rank_of) (defScope st_rank_of) .none dkv15 ddc15 dpm15 dan15 dcd15 dct15), dsl15⟩)
    (dc15 : PySem.W.codeIn K dcd15 "rank_of" = true)
    (dk15 : PySem.W.keepIn K (.ref F15) = true)
    (da16 : PySem.W.nsIn K mainGlobals "span_of" = some (some (.ref F16)))
    (dl16 : K.lookup F16 = some ⟨doc16, dod16, .func (PySem.W.fnOf "span_of" "span_of" (defArgs st_span_of) (defBody st_span_of) (defScope st_span_of) .none dkv16 ddc16 dpm16 dan16 dcd16 dct16), dsl16⟩)
    (dc16 : PySem.W.codeIn K dcd16 "span_of" = true)
    (dk16 : PySem.W.keepIn K (.ref F16) = true)
    (da17 : PySem.W.nsIn K mainGlobals "_law_purse" = some (some (.ref F17)))
    (dl17 : K.lookup F17 = some ⟨doc17, dod17, .func (PySem.W.fnOf "_law_purse" "_law_purse" (defArgs st__law_purse) (defBody st__law_purse) (defScope st__law_purse) .none dkv17 ddc17 dpm17 dan17 dcd17 dct17), dsl17⟩)
    (dc17 : PySem.W.codeIn K dcd17 "_law_purse" = true)
    (dk17 : PySem.W.keepIn K (.ref F17) = true)
    (da18 : PySem.W.nsIn K mainGlobals "_law_coin" = some (some (.ref F18)))
    (dl18 : K.lookup F18 = some ⟨doc18, dod18, .func (PySem.W.fnOf "_law_coin" "_law_coin" (defArgs st__law_coin) (defBody st__law_coin) (defScope st__law_coin) .none dkv18 ddc18 dpm18 dan18 dcd18 dct18), dsl18⟩)
    (dc18 : PySem.W.codeIn K dcd18 "_law_coin" = true)
    (dk18 : PySem.W.keepIn K (.ref F18) = true)
    (da19 : PySem.W.nsIn K mainGlobals "_law_one_of" = some (some (.ref F19)))
    (dl19 : K.lookup F19 = some ⟨doc19, dod19, .func (PySem.W.fnOf "_law_one_of" "_law_one_of" (defArgs st__law_one_of) (defBody st__law_one_of) (defScope st__law_one_of) .none dkv19 ddc19 dpm19 dan19 dcd19 dct19), dsl19⟩)
    (dc19 : PySem.W.codeIn K dcd19 "_law_one_of" = true)
    (dk19 : PySem.W.keepIn K (.ref F19) = true)
    (da20 : PySem.W.nsIn K mainGlobals "_law_number" = some (some (.ref F20)))
    (dl20 : K.lookup F20 = some ⟨doc20, dod20, .func (PySem.W.fnOf "_law_number" "_law_number" (defArgs st__law_number) (defBody st__law_number) (defScope st__law_number) .none dkv20 ddc20 dpm20 dan20 dcd20 dct20), dsl20⟩)
    (dc20 : PySem.W.codeIn K dcd20 "_law_number" = true)
    (dk20 : PySem.W.keepIn K (.ref F20) = true)
    (da21 : PySem.W.nsIn K mainGlobals "_law_stirred" = some (some (.ref F21)))
    (dl21 : K.lookup F21 = some ⟨doc21, dod21, .func (PySem.W.fnOf "_law_stirred" "_law_stirred" (defArgs st__law_stirred) (defBody st__law_stirred) (defScope st__law_stirred) .none dkv21 ddc21 dpm21 dan21 dcd21 dct21), dsl21⟩)
    (dc21 : PySem.W.codeIn K dcd21 "_law_stirred" = true)
    (dk21 : PySem.W.keepIn K (.ref F21) = true)
    (da22 : PySem.W.nsIn K mainGlobals "_law_ranked" = some (some (.ref F22)))
    (dl22 : K.lookup F22 = some ⟨doc22, dod22, .func (PySem.W.fnOf "_law_ranked" "_law_ranked" (defArgs st__law_ranked) (defBody st__law_ranked) (defScope st__law_ranked) .none dkv22 ddc22 dpm22 dan22 dcd22 dct22), dsl22⟩)
    (dc22 : PySem.W.codeIn K dcd22 "_law_ranked" = true)
    (dk22 : PySem.W.keepIn K (.ref F22) = true)
    (da23 : PySem.W.nsIn K mainGlobals "_law_own_rank" = some (some (.ref F23)))
    (dl23 : K.lookup F23 = some ⟨doc23, dod23, .func (PySem.W.fnOf "_law_own_rank" "_law_own_rank" (defArgs st__law_own_rank) (defBody st__law_own_rank) (defScope st__law_own_rank) .none dkv23 ddc23 dpm23 dan23 dcd23 dct23), dsl23⟩)
    (dc23 : PySem.W.codeIn K dcd23 "_law_own_rank" = true)
    (dk23 : PySem.W.keepIn K (.ref F23) = true)
    (da24 : PySem.W.nsIn K mainGlobals "_law_steps" = some (some (.ref F24)))
    (dl24 : K.lookup F24 = some ⟨doc24, dod24, .func (PySem.W.fnOf "_law_steps" "_law_steps" (defArgs st__law_steps) (defBody st__law_steps) (defScope st__law_steps) .none dkv24 ddc24 dpm24 dan24 dcd24 dct24), dsl24⟩)
    (dc24 : PySem.W.codeIn K dcd24 "_law_steps" = true)
    (dk24 : PySem.W.keepIn K (.ref F24) = true)
    (da25 : PySem.W.nsIn K mainGlobals "_law_is_integer" = some (some (.ref F25)))
    (dl25 : K.lookup F25 = some ⟨doc25, dod25, .func (PySem.W.fnOf "_law_is_integer" "_law_is_integer" (defArgs st__law_is_integer) (defBody st__law_is_integer) (defScope st__law_is_integer) .none dkv25 ddc25 dpm25 dan25 dcd25 dct25), dsl25⟩)
    (dc25 : PySem.W.codeIn K dcd25 "_law_is_integer" = true)
    (dk25 : PySem.W.keepIn K (.ref F25) = true)
    (da26 : PySem.W.nsIn K mainGlobals "_law_are_rows" = some (some (.ref F26)))
    (dl26 : K.lookup F26 = some ⟨doc26, dod26, .func (PySem.W.fnOf "_law_are_rows" "_law_are_rows" (defArgs st__law_are_rows) (defBody st__law_are_rows) (defScope st__law_are_rows) .none dkv26 ddc26 dpm26 dan26 dcd26 dct26), dsl26⟩)
    (dc26 : PySem.W.codeIn K dcd26 "_law_are_rows" = true)
    (dk26 : PySem.W.keepIn K (.ref F26) = true)
    (da27 : PySem.W.nsIn K mainGlobals "_law_bent" = some (some (.ref F27)))
    (dl27 : K.lookup F27 = some ⟨doc27, dod27, .func (PySem.W.fnOf "_law_bent" "_law_bent" (defArgs st__law_bent) (defBody st__law_bent) (defScope st__law_bent) .none dkv27 ddc27 dpm27 dan27 dcd27 dct27), dsl27⟩)
    (dc27 : PySem.W.codeIn K dcd27 "_law_bent" = true)
    (dk27 : PySem.W.keepIn K (.ref F27) = true)
    (da28 : PySem.W.nsIn K mainGlobals "_law_raised" = some (some (.ref F28)))
    (dl28 : K.lookup F28 = some ⟨doc28, dod28, .func (PySem.W.fnOf "_law_raised" "_law_raised" (defArgs st__law_raised) (defBody st__law_raised) (defScope st__law_raised) .none dkv28 ddc28 dpm28 dan28 dcd28 dct28), dsl28⟩)
    (dc28 : PySem.W.codeIn K dcd28 "_law_raised" = true)
    (dk28 : PySem.W.keepIn K (.ref F28) = true)
    (da29 : PySem.W.nsIn K mainGlobals "_law_bent_right" = some (some (.ref F29)))
    (dl29 : K.lookup F29 = some ⟨doc29, dod29, .func (PySem.W.fnOf "_law_bent_right" "_law_bent_right" (defArgs st__law_bent_right) (defBody st__law_bent_right) (defScope st__law_bent_right) .none dkv29 ddc29 dpm29 dan29 (.ref cc) dct29), dsl29⟩)
    (dc29 : PySem.W.codeIn K (.ref cc) "_law_bent_right" = true)
    (dk29 : PySem.W.keepIn K (.ref F29) = true)
    (da30 : PySem.W.nsIn K mainGlobals "law" = some (some (.ref F30)))
    (dl30 : K.lookup F30 = some ⟨doc30, dod30, .func (PySem.W.fnOf "law" "law" (defArgs st_law) (defBody st_law) (defScope st_law) .none dkv30 ddc30 dpm30 dan30 dcd30 dct30), dsl30⟩)
    (dc30 : PySem.W.codeIn K dcd30 "law" = true)
    (dk30 : PySem.W.keepIn K (.ref F30) = true)
    {fa : Addr} (hmg : mg "law" = some (.ref fa)) (gr : Heap) (tb : LamX.TabB gr mg cc PT) : FnG P w K mg gr 11 fa (PySem.W.fnOf "law" "law" (defArgs st_law) (defBody st_law) (defScope st_law) .none dkv30 ddc30 dpm30 dan30 dcd30 dct30) ["script"] (spLaw K PT) := by
  have ox0 : OexC K C0 := ⟨⟨_, _, _, _, _, _, _, _, _, _, _, _, _, _, _, cl0, cv0⟩, cs0, ce0, cy0, ck0⟩
  have xf0 : XfC K C0 := ⟨cg0, ch0, ce0, cd_0⟩
  have ex0 : ExcC K C0 := ⟨cg0, ch0, ce0, cd_0, co0, gn, gt, cm0⟩
  have fi0 := fun_mk (st := si_BadNumber) cf0 cc0 cj0
  have ox1 : OexC K C1 := ⟨⟨_, _, _, _, _, _, _, _, _, _, _, _, _, _, _, cl1, cv1⟩, cs1, ce1, cy1, ck1⟩
  have xf1 : XfC K C1 := ⟨cg1, ch1, ce1, cd_1⟩
  have ex1 : ExcC K C1 := ⟨cg1, ch1, ce1, cd_1, co1, gn, gt, cm1⟩
  have fi1 := fun_mk (st := si_BadPoint) cf1 cc1 cj1
  have T : Nm mg := ⟨nmg X G n_isinstance, nmg X G n_int, nmg X G n_bool, nmg X G n_list, nmg X G n_tuple, nmg X G n_len, nmg X G n_all, nmg X G n_abs, nmg X G n_repr, nmg X G n_range, nmg X G n_enumerate, nmg X G n_zip, nmg X G n_sum, nmg X G n_min, PySem.W.mg_of X G m_gcd, ⟨_, PySem.W.mg_of X G c_MP⟩, ⟨_, PySem.W.mg_of X G c_MW⟩⟩
  have f0 := fun_mk (st := st_divisor_of) dl0 dc0 dk0
  have a0 := PySem.W.mg_of X G da0
  have f1 := fun_mk (st := st_reduced) dl1 dc1 dk1
  have a1 := PySem.W.mg_of X G da1
  have f2 := fun_mk (st := st_product_of) dl2 dc2 dk2
  have a2 := PySem.W.mg_of X G da2
  have f3 := fun_mk (st := st_unit_rows) dl3 dc3 dk3
  have a3 := PySem.W.mg_of X G da3
  have f4 := fun_mk (st := st_narrowed) dl4 dc4 dk4
  have a4 := PySem.W.mg_of X G da4
  have f5 := fun_mk (st := st_without) dl5 dc5 dk5
  have a5 := PySem.W.mg_of X G da5
  have f6 := fun_mk (st := st_rank_among) dl6 dc6 dk6
  have a6 := PySem.W.mg_of X G da6
  have f7 := fun_mk (st := st_lifted_point) dl7 dc7 dk7
  have a7 := PySem.W.mg_of X G da7
  have f8 := fun_mk (st := st_span_among) dl8 dc8 dk8
  have a8 := PySem.W.mg_of X G da8
  have f9 := fun_mk (st := st_is_integer) dl9 dc9 dk9
  have a9 := PySem.W.mg_of X G da9
  have f10 := fun_mk (st := st_is_within) dl10 dc10 dk10
  have a10 := PySem.W.mg_of X G da10
  have f11 := fun_mk (st := st_is_list) dl11 dc11 dk11
  have a11 := PySem.W.mg_of X G da11
  have f12 := fun_mk (st := st_are_integers) dl12 dc12 dk12
  have a12 := PySem.W.mg_of X G da12
  have f13 := fun_mk (st := st_is_point) dl13 dc13 dk13
  have a13 := PySem.W.mg_of X G da13
  have f14 := fun_mk (st := st_are_points) dl14 dc14 dk14
  have a14 := PySem.W.mg_of X G da14
  have f15 := fun_mk (st := st_rank_of) dl15 dc15 dk15
  have a15 := PySem.W.mg_of X G da15
  have f16 := fun_mk (st := st_span_of) dl16 dc16 dk16
  have a16 := PySem.W.mg_of X G da16
  have f17 := fun_mk (st := st__law_purse) dl17 dc17 dk17
  have a17 := PySem.W.mg_of X G da17
  have f18 := fun_mk (st := st__law_coin) dl18 dc18 dk18
  have a18 := PySem.W.mg_of X G da18
  have f19 := fun_mk (st := st__law_one_of) dl19 dc19 dk19
  have a19 := PySem.W.mg_of X G da19
  have f20 := fun_mk (st := st__law_number) dl20 dc20 dk20
  have a20 := PySem.W.mg_of X G da20
  have f21 := fun_mk (st := st__law_stirred) dl21 dc21 dk21
  have a21 := PySem.W.mg_of X G da21
  have f22 := fun_mk (st := st__law_ranked) dl22 dc22 dk22
  have a22 := PySem.W.mg_of X G da22
  have f23 := fun_mk (st := st__law_own_rank) dl23 dc23 dk23
  have a23 := PySem.W.mg_of X G da23
  have f24 := fun_mk (st := st__law_steps) dl24 dc24 dk24
  have a24 := PySem.W.mg_of X G da24
  have f25 := fun_mk (st := st__law_is_integer) dl25 dc25 dk25
  have a25 := PySem.W.mg_of X G da25
  have f26 := fun_mk (st := st__law_are_rows) dl26 dc26 dk26
  have a26 := PySem.W.mg_of X G da26
  have f27 := fun_mk (st := st__law_bent) dl27 dc27 dk27
  have a27 := PySem.W.mg_of X G da27
  have f28 := fun_mk (st := st__law_raised) dl28 dc28 dk28
  have a28 := PySem.W.mg_of X G da28
  have f29 : FunC K "_law_bent_right" "_law_bent_right" st__law_bent_right F29 _ cc := ⟨_, _, _, _, _, _, _, _, rfl, dl29, dc29⟩
  have a29 := PySem.W.mg_of X G da29
  have f30 := fun_mk (st := st_law) dl30 dc30 dk30
  have a30 := PySem.W.mg_of X G da30
  have D_divisor_of := dn_of f0 (ok_divisor_of (P := P) (w := w) (base := gr) f0 T) a0 (fun _ _ _ _ _ _ us hl => match us, hl with | [_], _ => rfl)
  have D_reduced := dn_of f1 (ok_reduced f1 T D_divisor_of) a1 (fun _ _ _ _ _ _ us hl => match us, hl with | [_], _ => rfl)
  have D_product_of := dn_of f2 (ok_product_of (P := P) (w := w) (base := gr) f2 T) a2 (fun _ _ _ _ _ _ us hl => match us, hl with | [_, _], _ => rfl)
  have D_unit_rows := dn_of f3 (ok_unit_rows (P := P) (w := w) (base := gr) f3 T) a3 (fun _ _ _ _ _ _ us hl => match us, hl with | [_], _ => rfl)
  have D_without := dn_of f5 (ok_without f5 T D_reduced) a5 (fun _ _ _ _ _ _ us hl => match us, hl with | [_, _, _, _], _ => rfl)
  have D_narrowed := dn_of f4 (ok_narrowed f4 T D_product_of D_without) a4 (fun _ _ _ _ _ _ us hl => match us, hl with | [_, _], _ => rfl)
  have D_rank_among := dn_of f6 (ok_rank_among f6 T D_unit_rows D_narrowed) a6 (fun _ _ _ _ _ _ us hl => match us, hl with | [_, _], _ => rfl)
  have D_lifted_point := dn_of f7 (ok_lifted_point (P := P) (w := w) (mg := mg) (base := gr) f7) a7 (fun _ _ _ _ _ _ us hl => match us, hl with | [_], _ => rfl)
  have D_span_among := dn_of f8 (ok_span_among f8 T D_rank_among D_lifted_point) a8 (fun _ _ _ _ _ _ us hl => match us, hl with | [_, _], _ => rfl)
  have D_is_integer := dn_of f9 (ok_is_integer (P := P) (w := w) (base := gr) f9 T) a9 (fun _ _ _ _ _ _ us hl => match us, hl with | [_], _ => rfl)
  have D_is_within := dn_of f10 (ok_is_within f10 T D_is_integer) a10 (fun _ _ _ _ _ _ us hl => match us, hl with | [_, _, _], _ => rfl)
  have D_is_list := dn_of f11 (ok_is_list f11 T D_is_within) a11 (fun _ _ _ _ _ _ us hl => match us, hl with | [_, _, _], _ => rfl)
  have D_are_integers := dn_of f12 (ok_are_integers f12 T D_is_integer D_is_list) a12 (fun _ _ _ _ _ _ us hl => match us, hl with | [_], _ => rfl)
  have D_is_point := dn_of f13 (ok_is_point f13 D_are_integers D_is_list) a13 (fun _ _ _ _ _ _ us hl => match us, hl with | [_, _], _ => rfl)
  have D_are_points := dn_of f14 (ok_are_points f14 T D_is_list D_is_point) a14 (fun _ _ _ _ _ _ us hl => match us, hl with | [_, _, _], _ => rfl)
  have R0 : RaiseC P w K mg gr "BadNumber" C0 "part" := ⟨I0, _, _, ci0, ct0, oki_BadNumber fi0 ox0 cn0part, fi0.binds (ps := ["self", "part"]) (fun _ _ _ _ _ _ us hl => match us, hl with | [_, _], _ => rfl), ox0, PySem.W.mg_of X G ca0⟩
  have R1 : RaiseC P w K mg gr "BadPoint" C1 "part" := ⟨I1, _, _, ci1, ct1, oki_BadPoint fi1 ox1 cn1part, fi1.binds (ps := ["self", "part"]) (fun _ _ _ _ _ _ us hl => match us, hl with | [_, _], _ => rfl), ox1, PySem.W.mg_of X G ca1⟩
  have or := ok_rank_of f15 T D_is_list D_are_points D_rank_among R0
  have os := ok_span_of f16 T D_is_list D_are_points D_span_among R1
  have X_rank_of := dx_of f15 or a15 (fun _ _ _ _ _ _ us hl => match us, hl with | [_], _ => rfl)
  have X_span_of := dx_of f16 os a16 (fun _ _ _ _ _ _ us hl => match us, hl with | [_], _ => rfl)
  have K_rank_of : DnKX P w K mg gr 7 "rank_of" F15 ["rows"] ["rows"] kw1 (spAsk K C0 1 "rows" rankL) := ⟨⟨_, _, or, kb_same (ps := ["rows"]) f15 (fun _ _ _ _ _ _ ws hl => match ws, hl with | [_], _ => rfl)⟩, a15, dk15⟩
  have K_span_of : DnKX P w K mg gr 7 "span_of" F16 ["points"] ["points"] kw1 (spAsk K C1 0 "points" spanL) := ⟨⟨_, _, os, kb_same (ps := ["points"]) f16 (fun _ _ _ _ _ _ ws hl => match ws, hl with | [_], _ => rfl)⟩, a16, dk16⟩
  have D__law_purse := dn_of f17 (ok_coil (P := P) (w := w) (base := gr) f17 T) a17 (fun _ _ _ _ _ _ us hl => match us, hl with | [_], _ => rfl)
  have D__law_coin := dn_of f18 (ok_turn (P := P) (w := w) (base := gr) f18 T) a18 (fun _ _ _ _ _ _ us hl => match us, hl with | [_, _], _ => rfl)
  have D__law_one_of := dn_of f19 (ok_one_of f19 T D__law_coin) a19 (fun _ _ _ _ _ _ us hl => match us, hl with | [_, _], _ => rfl)
  have D__law_number := dn_of f20 (ok_number f20 D__law_coin) a20 (fun _ _ _ _ _ _ us hl => match us, hl with | [_, _], _ => rfl)
  have D__law_stirred := dn_of f21 (ok_stirred f21 T D__law_coin) a21 (fun _ _ _ _ _ _ us hl => match us, hl with | [_, _], _ => rfl)
  have D__law_ranked := dn_of f22 (ok_ranked f22 T D__law_coin D__law_one_of D__law_number D__law_stirred) a22 (fun _ _ _ _ _ _ us hl => match us, hl with | [_, _, _, _], _ => rfl)
  have D__law_own_rank := dn_of f23 (ok_own_rank (P := P) (w := w) (base := gr) f23 T) a23 (fun _ _ _ _ _ _ us hl => match us, hl with | [_], _ => rfl)
  have D__law_steps := dn_of f24 (ok_steps (P := P) (w := w) (base := gr) f24 T) a24 (fun _ _ _ _ _ _ us hl => match us, hl with | [_], _ => rfl)
  have D__law_is_integer := dn_of f25 (ok_lis_integer (P := P) (w := w) (base := gr) f25 T) a25 (fun _ _ _ _ _ _ us hl => match us, hl with | [_], _ => rfl)
  have D__law_are_rows := dn_of f26 (ok_are_rows f26 T D__law_is_integer) a26 (fun _ _ _ _ _ _ us hl => match us, hl with | [_, _], _ => rfl)
  have D__law_bent := dn_of f27 (ok_bent f27 T D__law_coin D__law_one_of) a27 (fun _ _ _ _ _ _ us hl => match us, hl with | [_, _], _ => rfl)
  have BR := (fun_mk (st := st__law_bent_right) dl29 dc29 dk29).binds (ps := ["value"]) (fun _ _ _ _ _ _ us hl => match us, hl with | [_], _ => rfl)
  have GR := dg_of (x := "_law_bent_right") (st := st__law_bent_right) BR dk29 (ok_bent_right (PT := PT) f29 T D__law_are_rows D__law_own_rank D__law_steps X_rank_of X_span_of f28 (f28.binds (ps := ["ask"]) (fun _ _ _ _ _ _ us hl => match us, hl with | [_], _ => rfl)) a28 dk28 tb (PySem.W.mg_of X G ca2) (PySem.W.mg_of X G ca0) (PySem.W.mg_of X G ca1) (exm_yes ce2 ks0 iC2 cy2) (exm_yes ce2 ks1 iC2 cy2) kit_self (kit_no k1_0 k0_0 iC0 cy0) kit_self ex0 xf0 cn0part ex1 xf1 cn1part) a29
  have efa := hmg.symm.trans a30
  cases efa
  exact ok_law f30 T D__law_purse D__law_coin D__law_one_of D__law_number D__law_stirred D__law_ranked D__law_bent GR X_rank_of K_rank_of X_span_of K_span_of
end K0


set_option Elab.async false
set_option linter.all false
set_option maxRecDepth 100000
set_option maxHeartbeats 4000000
namespace K0
open PySem PySem.Spec PyProof.Rows L2
theorem walk_G {l : PySem.W.OpenLaw} {n k : Nat} {q : Program} {loose : List Str} {XP : (Str → Option Value) → Heap → Prop} {YP : World → Heap → Prop} {d : DefRec}
    {K : Params → PySem.W.Frag} {x : Str}
    (hn : l.most = some n) (hn2 : n ≤ sizeLine) (hdf : d.params.defaults = []) (room : Room k callerA)
    (kin : ∀ (w : World) (h : Heap), YP w h → (K w.params).In h)
    (F : ∀ (w : World) (mg : Str → Option Value) (fa : Addr) (h : Heap),
      YP w h → (K w.params).In h → h.Ns mainGlobals mg → mg d.name = some (.ref fa) →
      ∃ (fd : FuncData) (cc PT : Addr) (sp : Sp), h.get? PT = some { cls := .none, data := .fields #[] } ∧
        (K w.params).lookup PT = none ∧ PySem.W.CodeHd h cc PT ∧
        (∀ (s : Shared) (v : Value), BindsTo s fd ⟨[v], []⟩ [(x, v)]) ∧
        (∀ (Hx : Hp) (a : Addr) (ns : List Int), ns.length ≤ n → Hx PT = some (.tbl #[]) →
          SqL (K w.params) Hx a (ns.map V.int) → sp [.ref a] Hx (fun v _ => v = .bl true) fun _ _ _ => False) ∧
        ∀ gr : Heap, (K w.params).In gr → gr.Ns mainGlobals mg → LamX.TabB gr mg cc PT →
          FnG l.prog w (K w.params) mg gr k fa fd [x] sp) :
    PySem.W.WalkO q loose XP YP l.row.toRowW d []
      (fun f vs => PySem.call f vs) := by
  refine Att.attach_call hn hdf fun w sB sT mg mb fa o pm cd doc a vs ns Gd Y _ _ _ hmg la li ll gens => ?_
  obtain ⟨fd, cc, PT, sp, tab, tabK, code, bind, ask, Fg⟩ := F w mg fa _ Y (kin w _ Y) Gd.T.g hmg
  exact top_call (kin w _ Y) Gd.T.g Gd.T.b Gd.T.builtins Gd.T.nolimit gens tab tabK code Gd.T.bmain la li
    (Nat.le_trans ll hn2) room Fg bind fun Hx h1 h2 => ask Hx a ns ll h1 h2
/-- what the law asks of the top -/
theorem ask_law {K : PySem.W.Frag} {PT : Addr} (Hx : Hp) (a : Addr) (ns : List Int) (hl : ns.length ≤ 63) (hT : Hx PT = some (.tbl #[])) (hS : SqL K Hx a (ns.map V.int)) :
    spLaw K PT [.ref a] Hx (fun v _ => v = .bl true) fun _ _ _ => False :=
  ⟨a, ns, rfl, hS, hl, fun p hp => by cases List.mem_singleton.mp hp; exact LamX.TabS.nil hT, fun _ => rfl⟩
theorem fin_of {P : Program} {w : World} {K : PySem.W.Frag} {mg : Str → Option Value} {h : Heap} {fa cc PT : Addr} {kv dc pm cd ct : Value} {an : Option Addr} (KX : K.In h)
    (z : ∀ gr : Heap, LamX.TabB gr mg cc PT → FnG P w K mg gr 11 fa (PySem.W.fnOf "law" "law" (defArgs st_law) (defBody st_law) (defScope st_law) .none kv dc pm an cd ct) ["script"] (spLaw K PT))
    (tab : h.get? PT = some { cls := .none, data := .fields #[] }) (tk : K.lookup PT = none) (ch : PySem.W.codeHdIn K cc PT = true) :
    ∃ (fd : FuncData) (cc PT : Addr) (sp : Sp), h.get? PT = some { cls := .none, data := .fields #[] } ∧
        K.lookup PT = none ∧ PySem.W.CodeHd h cc PT ∧
        (∀ (s : Shared) (v : Value), BindsTo s fd ⟨[v], []⟩ [(("script" : Str), v)]) ∧
        (∀ (Hx : Hp) (a : Addr) (ns : List Int), ns.length ≤ 63 → Hx PT = some (.tbl #[]) →
          SqL K Hx a (ns.map V.int) → sp [.ref a] Hx (fun v _ => v = .bl true) fun _ _ _ => False) ∧
        ∀ gr : Heap, K.In gr → gr.Ns mainGlobals mg → LamX.TabB gr mg cc PT → FnG P w K mg gr 11 fa fd ["script"] sp :=
  ⟨_, cc, PT, spLaw K PT, tab, tk, PySem.W.codeHd_of_K KX ch, fun s v => .of_eq rfl, fun Hx a ns h1 h2 h3 => ask_law Hx a ns h1 h2 h3, fun gr _ _ tb => z gr tb⟩
end K0


set_option Elab.async false
open PySem PySem.W PyProof.Rows
set_option maxRecDepth 100000 in
set_option maxHeartbeats 0 in
theorem PySem.Challenge.cw_spindleway_k03_ranks_and_spans_holds : PySem.Challenge.rw_spindleway_k03_ranks_and_spans.Holds := by
  w_on; o_law; k_head; (case hw => w_witness2)
  k_fill
  refine K0.walk_G (l := PySem.Challenge.rw_spindleway_k03_ranks_and_spans) (n := 63) (k := 11) (x := "script") rfl (by decide) rfl ⟨rfl, by decide, by decide⟩ (fun w h Y => PySem.W.km_in_of Y) ?F
  case F =>
    intro w mg fa h Y KX G hmg
    refine' K0.fin_of (PT := 270) KX (K0.all_mk KX G ?ca0 ?cl0 ?cv0 ?cs0 ?ci0 ?ct0 ?cf0 ?cc0 ?cj0 ?cn0part ?cg0 ?ch0 ?ce0 ?cy0 ?ck0 ?cd_0 ?co0 ?cm0 ?iC0 ?ca1 ?cl1 ?cv1 ?cs1 ?ci1 ?ct1 ?cf1 ?cc1 ?cj1 ?cn1part ?cg1 ?ch1 ?ce1 ?cy1 ?ck1 ?cd_1 ?co1 ?cm1 ?iC1 ?ca2 ?ce2 ?cy2 ?iC2 ?gn ?gt ?k0_0 ?k1_0 ?ks0 ?ks1 ?n_isinstance ?n_int ?n_bool ?n_list ?n_tuple ?n_len ?n_all ?n_abs ?n_repr ?n_range ?n_enumerate ?n_zip ?n_sum ?n_min ?m_gcd ?c_MP ?c_MW ?da0 ?dl0 ?dc0 ?dk0 ?da1 ?dl1 ?dc1 ?dk1 ?da2 ?dl2 ?dc2 ?dk2 ?da3 ?dl3 ?dc3 ?dk3 ?da4 ?dl4 ?dc4 ?dk4 ?da5 ?dl5 ?dc5 ?dk5 ?da6 ?dl6 ?dc6 ?dk6 ?da7 ?dl7 ?dc7 ?dk7 ?da8 ?dl8 ?dc8 ?dk8 ?da9 ?dl9 ?dc9 ?dk9 ?da10 ?dl10 ?dc10 ?dk10 ?da11 ?dl11 ?dc11 ?dk11 ?da12 ?dl12 ?dc12 ?dk12 ?da13 ?dl13 ?dc13 ?dk13 ?da14 ?dl14 ?dc14 ?dk14 ?da15 ?dl15 ?dc15 ?dk15 ?da16 ?dl16 ?dc16 ?dk16 ?da17 ?dl17 ?dc17 ?dk17 ?da18 ?dl18 ?dc18 ?dk18 ?da19 ?dl19 ?dc19 ?dk19 ?da20 ?dl20 ?dc20 ?dk20 ?da21 ?dl21 ?dc21 ?dk21 ?da22 ?dl22 ?dc22 ?dk22 ?da23 ?dl23 ?dc23 ?dk23 ?da24 ?dl24 ?dc24 ?dk24 ?da25 ?dl25 ?dc25 ?dk25 ?da26 ?dl26 ?dc26 ?dk26 ?da27 ?dl27 ?dc27 ?dk27 ?da28 ?dl28 ?dc28 ?dk28 ?da29 ?dl29 ?dc29 ?dk29 ?da30 ?dl30 ?dc30 ?dk30 hmg) ?tab ?tk ?ch
    (case ca0 => k_is)
    (case cl0 => k_is)
    (case cv0 => first | rfl | k_is)
    (case cs0 => k_is)
    (case ci0 => k_is)
    (case ct0 => k_is)
    (case cf0 => k_is)
    (case cc0 => k_is)
    (case cj0 => k_is)
    (case cn0part => k_is)
    (case cg0 => k_is)
    (case ch0 => k_is)
    (case ce0 => k_is)
    (case cy0 => k_is)
    (case ck0 => k_is)
    (case cd_0 => k_is)
    (case co0 => k_is)
    (case cm0 => k_is)
    (case iC0 => k_is)
    (case ca1 => k_is)
    (case cl1 => k_is)
    (case cv1 => first | rfl | k_is)
    (case cs1 => k_is)
    (case ci1 => k_is)
    (case ct1 => k_is)
    (case cf1 => k_is)
    (case cc1 => k_is)
    (case cj1 => k_is)
    (case cn1part => k_is)
    (case cg1 => k_is)
    (case ch1 => k_is)
    (case ce1 => k_is)
    (case cy1 => k_is)
    (case ck1 => k_is)
    (case cd_1 => k_is)
    (case co1 => k_is)
    (case cm1 => k_is)
    (case iC1 => k_is)
    (case ca2 => k_is)
    (case ce2 => k_is)
    (case cy2 => k_is)
    (case iC2 => k_is)
    (case gn => k_is)
    (case gt => k_is)
    (case k0_0 => k_is)
    (case k1_0 => k_is)
    (case ks0 => k_is)
    (case ks1 => k_is)
    (case n_isinstance => k_is)
    (case n_int => k_is)
    (case n_bool => k_is)
    (case n_list => k_is)
    (case n_tuple => k_is)
    (case n_len => k_is)
    (case n_all => k_is)
    (case n_abs => k_is)
    (case n_repr => k_is)
    (case n_range => k_is)
    (case n_enumerate => k_is)
    (case n_zip => k_is)
    (case n_sum => k_is)
    (case n_min => k_is)
    (case m_gcd => k_is)
    (case c_MP => k_is)
    (case c_MW => k_is)
    (case da0 => k_is)
    (case dl0 => k_is)
    (case dc0 => k_is)
    (case dk0 => k_is)
    (case da1 => k_is)
    (case dl1 => k_is)
    (case dc1 => k_is)
    (case dk1 => k_is)
    (case da2 => k_is)
    (case dl2 => k_is)
    (case dc2 => k_is)
    (case dk2 => k_is)
    (case da3 => k_is)
    (case dl3 => k_is)
    (case dc3 => k_is)
    (case dk3 => k_is)
    (case da4 => k_is)
    (case dl4 => k_is)
    (case dc4 => k_is)
    (case dk4 => k_is)
    (case da5 => k_is)
    (case dl5 => k_is)
    (case dc5 => k_is)
    (case dk5 => k_is)
    (case da6 => k_is)
    (case dl6 => k_is)
    (case dc6 => k_is)
    (case dk6 => k_is)
    (case da7 => k_is)
    (case dl7 => k_is)
    (case dc7 => k_is)
    (case dk7 => k_is)
    (case da8 => k_is)
    (case dl8 => k_is)
    (case dc8 => k_is)
    (case dk8 => k_is)
    (case da9 => k_is)
    (case dl9 => k_is)
    (case dc9 => k_is)
    (case dk9 => k_is)
    (case da10 => k_is)
    (case dl10 => k_is)
    (case dc10 => k_is)
    (case dk10 => k_is)
    (case da11 => k_is)
    (case dl11 => k_is)
    (case dc11 => k_is)
    (case dk11 => k_is)
    (case da12 => k_is)
    (case dl12 => k_is)
    (case dc12 => k_is)
    (case dk12 => k_is)
    (case da13 => k_is)
    (case dl13 => k_is)
    (case dc13 => k_is)
    (case dk13 => k_is)
    (case da14 => k_is)
    (case dl14 => k_is)
    (case dc14 => k_is)
    (case dk14 => k_is)
    (case da15 => k_is)
    (case dl15 => k_is)
    (case dc15 => k_is)
    (case dk15 => k_is)
    (case da16 => k_is)
    (case dl16 => k_is)
    (case dc16 => k_is)
    (case dk16 => k_is)
    (case da17 => k_is)
    (case dl17 => k_is)
    (case dc17 => k_is)
    (case dk17 => k_is)
    (case da18 => k_is)
    (case dl18 => k_is)
    (case dc18 => k_is)
    (case dk18 => k_is)
    (case da19 => k_is)
    (case dl19 => k_is)
    (case dc19 => k_is)
    (case dk19 => k_is)
    (case da20 => k_is)
    (case dl20 => k_is)
    (case dc20 => k_is)
    (case dk20 => k_is)
    (case da21 => k_is)
    (case dl21 => k_is)
    (case dc21 => k_is)
    (case dk21 => k_is)
    (case da22 => k_is)
    (case dl22 => k_is)
    (case dc22 => k_is)
    (case dk22 => k_is)
    (case da23 => k_is)
    (case dl23 => k_is)
    (case dc23 => k_is)
    (case dk23 => k_is)
    (case da24 => k_is)
    (case dl24 => k_is)
    (case dc24 => k_is)
    (case dk24 => k_is)
    (case da25 => k_is)
    (case dl25 => k_is)
    (case dc25 => k_is)
    (case dk25 => k_is)
    (case da26 => k_is)
    (case dl26 => k_is)
    (case dc26 => k_is)
    (case dk26 => k_is)
    (case da27 => k_is)
    (case dl27 => k_is)
    (case dc27 => k_is)
    (case dk27 => k_is)
    (case da28 => k_is)
    (case dl28 => k_is)
    (case dc28 => k_is)
    (case dk28 => k_is)
    (case da29 => k_is)
    (case dl29 => k_is)
    (case dc29 => k_is)
    (case dk29 => k_is)
    (case da30 => k_is)
    (case dl30 => k_is)
    (case dc30 => k_is)
    (case dk30 => k_is)
    (case tab => exact PySem.W.km_tabs_of Y 270 (by simp))
    (case tk => first | rfl | k_is)
    (case ch => first | rfl | k_is)
    exact Value.none

