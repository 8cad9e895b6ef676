/- Plain mathematics of CRC-32 and Adler-32 over natural numbers. -/
namespace Corb

/-- One step of the turned polynomial: half of it, and the polynomial into it if it was odd. -/
def sh (n : Nat) : Nat := if n % 2 = 1 then (n / 2) ^^^ 3988292384 else n / 2

def shN : Nat → Nat → Nat
  | 0, x => x
  | k + 1, x => shN k (sh x)

theorem shN_add (a b x : Nat) : shN (a + b) x = shN b (shN a x) := by
  induction a generalizing x with
  | zero => simp [shN]
  | succ a ih => rw [show a + 1 + b = (a + b) + 1 by omega]; simp [shN, ih]

theorem shN_succ' (k x : Nat) : shN (k + 1) x = sh (shN k x) := by
  rw [shN_add k 1 x]; rfl

theorem sh_lt (x : Nat) (h : x < 4294967296) : sh x < 4294967296 := by
  unfold sh
  split
  · exact Nat.xor_lt_two_pow (n := 32) (by omega) (by omega)
  · omega

theorem shN_lt (k x : Nat) (h : x < 4294967296) : shN k x < 4294967296 := by
  induction k generalizing x with
  | zero => exact h
  | succ k ih => exact ih _ (sh_lt x h)

theorem xor_div_two (x y : Nat) : (x ^^^ y) / 2 = (x / 2) ^^^ (y / 2) := by
  apply Nat.eq_of_testBit_eq
  intro i
  simp [Nat.testBit_xor, Nat.testBit_div_two]

theorem xor_mod_two (x y : Nat) : (x ^^^ y) % 2 = (x % 2 + y % 2) % 2 := by
  have h := Nat.xor_mod_two_pow (a := x) (b := y) (n := 1)
  simp only [Nat.pow_one] at h
  rw [h]
  rcases Nat.mod_two_eq_zero_or_one x with hx | hx <;> rcases Nat.mod_two_eq_zero_or_one y with hy | hy <;> simp [hx, hy]

theorem sh_alt (x : Nat) : sh x = (x / 2) ^^^ (if x % 2 = 1 then 3988292384 else 0) := by
  unfold sh; split <;> simp

theorem sh_xor (x y : Nat) : sh (x ^^^ y) = sh x ^^^ sh y := by
  rw [sh_alt, sh_alt x, sh_alt y, xor_div_two, xor_mod_two]
  rcases Nat.mod_two_eq_zero_or_one x with hx | hx <;> rcases Nat.mod_two_eq_zero_or_one y with hy | hy <;> simp [hx, hy]
  · ac_rfl
  · ac_rfl
  · rw [show (x / 2 ^^^ 3988292384 ^^^ (y / 2 ^^^ 3988292384)) = (x / 2 ^^^ y / 2) ^^^ (3988292384 ^^^ 3988292384) by ac_rfl]
    simp

theorem shN_xor (k x y : Nat) : shN k (x ^^^ y) = shN k x ^^^ shN k y := by
  induction k generalizing x y with
  | zero => rfl
  | succ k ih => simp [shN, sh_xor, ih]

theorem sh_double (k : Nat) : sh (2 * k) = k := by
  unfold sh; rw [if_neg (by omega)]; omega

theorem split16 (x : Nat) : x = (x % 16) ^^^ (2 * (2 * (2 * (2 * (x / 16))))) := by
  apply Nat.eq_of_testBit_eq
  intro i
  have h1 : x % 16 = x % 2 ^ 4 := rfl
  have h2 : 2 * (2 * (2 * (2 * (x / 16)))) = 2 ^ 4 * (x / 2 ^ 4) := by omega
  rw [h1, h2, Nat.testBit_xor, Nat.testBit_mod_two_pow, Nat.testBit_two_pow_mul, Nat.testBit_div_two_pow]
  by_cases hi : i < 4
  · simp [hi, show ¬ 4 ≤ i by omega]
  · simp [hi, show i - 4 + 4 = i by omega, show 4 ≤ i by omega]

theorem shN4 (x : Nat) : shN 4 x = shN 4 (x % 16) ^^^ (x / 16) := by
  conv => lhs; rw [split16 x]
  rw [shN_xor]
  congr 1
  simp [shN, sh_double]

theorem xor_cancel (a b p : Nat) (h : a ^^^ p = b ^^^ p) : a = b := by
  have := congrArg (· ^^^ p) h
  simpa [Nat.xor_assoc] using this

theorem sh_inj (x y : Nat) (hx : x < 4294967296) (hy : y < 4294967296) (h : sh x = sh y) : x = y := by
  have tx : (sh x).testBit 31 = decide (x % 2 = 1) := by
    rw [sh_alt, Nat.testBit_xor]
    have : (x / 2).testBit 31 = false := Nat.testBit_lt_two_pow (by omega)
    rw [this]
    split <;> simp_all
    decide
  have ty : (sh y).testBit 31 = decide (y % 2 = 1) := by
    rw [sh_alt, Nat.testBit_xor]
    have : (y / 2).testBit 31 = false := Nat.testBit_lt_two_pow (by omega)
    rw [this]
    split <;> simp_all
    decide
  have hp : decide (x % 2 = 1) = decide (y % 2 = 1) := by rw [← tx, ← ty, h]
  have hp' : x % 2 = 1 ↔ y % 2 = 1 := by simpa using hp
  rw [sh_alt, sh_alt y] at h
  by_cases c : x % 2 = 1
  · have c' := hp'.1 c
    rw [if_pos c, if_pos c'] at h
    have : x / 2 = y / 2 := xor_cancel _ _ _ h
    omega
  · have c' : ¬ y % 2 = 1 := fun k => c (hp'.2 k)
    rw [if_neg c, if_neg c'] at h
    simp at h
    omega

theorem shN_inj (k x y : Nat) (hx : x < 4294967296) (hy : y < 4294967296) (h : shN k x = shN k y) : x = y := by
  induction k generalizing x y with
  | zero => exact h
  | succ k ih => exact sh_inj x y hx hy (ih _ _ (sh_lt x hx) (sh_lt y hy) h)

/-- A state with a text more. -/
def fold (c : Nat) (l : List UInt8) : Nat := l.foldl (fun c b => shN 8 (c ^^^ b.toNat)) c

@[simp] theorem fold_nil (c : Nat) : fold c [] = c := rfl
theorem fold_cons (c : Nat) (b : UInt8) (l : List UInt8) : fold c (b :: l) = fold (shN 8 (c ^^^ b.toNat)) l := rfl
theorem fold_append (c : Nat) (l m : List UInt8) : fold c (l ++ m) = fold (fold c l) m := by
  unfold fold; rw [List.foldl_append]

theorem byte_lt (b : UInt8) : b.toNat < 256 := b.toNat_lt

theorem xorb_lt (c : Nat) (b : UInt8) (h : c < 4294967296) : c ^^^ b.toNat < 4294967296 :=
  Nat.xor_lt_two_pow (n := 32) h (by have := byte_lt b; omega)

theorem fold_lt (c : Nat) (l : List UInt8) (h : c < 4294967296) : fold c l < 4294967296 := by
  induction l generalizing c with
  | nil => exact h
  | cons b l ih => rw [fold_cons]; exact ih _ (shN_lt _ _ (xorb_lt c b h))

def full : Nat := 4294967295

def crcMore (c : Nat) (l : List UInt8) : Nat := fold (c ^^^ full) l ^^^ full

theorem crcMore_lt (c : Nat) (l : List UInt8) (h : c < 4294967296) : crcMore c l < 4294967296 :=
  Nat.xor_lt_two_pow (n := 32) (fold_lt _ _ (Nat.xor_lt_two_pow (n := 32) h (by decide))) (by decide)

theorem xor_full_full (c : Nat) : c ^^^ full ^^^ full = c := by
  rw [Nat.xor_assoc]; simp

theorem crcMore_append (c : Nat) (l m : List UInt8) : crcMore c (l ++ m) = crcMore (crcMore c l) m := by
  unfold crcMore; rw [fold_append, xor_full_full]

theorem crcMore_nil (c : Nat) : crcMore c [] = c := by
  unfold crcMore; rw [fold_nil, xor_full_full]

theorem fold_xor (c d : Nat) (l : List UInt8) : fold (c ^^^ d) l = fold c l ^^^ shN (8 * l.length) d := by
  induction l generalizing c d with
  | nil => rfl
  | cons b l ih =>
    rw [fold_cons, fold_cons]
    rw [show (c ^^^ d ^^^ b.toNat) = (c ^^^ b.toNat) ^^^ d by ac_rfl, shN_xor, ih]
    rw [show 8 * (b :: l).length = 8 + 8 * l.length by simp only [List.length_cons]; omega, shN_add]

def crcJoin (a b n : Nat) : Nat := shN (8 * n) a ^^^ b

theorem crcJoin_lt (a b n : Nat) (ha : a < 4294967296) (hb : b < 4294967296) : crcJoin a b n < 4294967296 :=
  Nat.xor_lt_two_pow (n := 32) (shN_lt _ _ ha) hb

theorem crcJoin_crc (a : Nat) (m : List UInt8) : crcMore a m = crcJoin a (crcMore 0 m) m.length := by
  unfold crcMore crcJoin
  rw [show a ^^^ full = (0 ^^^ full) ^^^ a by simp [Nat.xor_comm], fold_xor]
  ac_rfl

theorem crcJoin_append (l m : List UInt8) : crcMore 0 (l ++ m) = crcJoin (crcMore 0 l) (crcMore 0 m) m.length := by
  rw [crcMore_append, crcJoin_crc]

theorem fold_inj (c d : Nat) (l : List UInt8) (hc : c < 4294967296) (hd : d < 4294967296) (h : fold c l = fold d l) : c = d := by
  induction l generalizing c d with
  | nil => exact h
  | cons b l ih =>
    rw [fold_cons, fold_cons] at h
    have h1 := ih _ _ (shN_lt _ _ (xorb_lt c b hc)) (shN_lt _ _ (xorb_lt d b hd)) h
    have h2 := shN_inj _ _ _ (xorb_lt c b hc) (xorb_lt d b hd) h1
    exact xor_cancel _ _ _ h2


/-- Four bytes, the lowest first, are read like a number of 32 bits. -/
theorem shN8_small (x : Nat) : shN 8 x = shN 8 (x % 256) ^^^ (x / 256) := by
  have e : ∀ y, shN 8 y = shN 4 (shN 4 y) := fun y => shN_add 4 4 y
  rw [e x, shN4 x, shN_xor, shN4 (x / 16), e (x % 256), shN4 (x % 256), shN_xor, shN4 (x % 256 / 16)]
  rw [show x % 256 % 16 = x % 16 by omega, show x % 256 / 16 % 16 = x / 16 % 16 by omega, show x % 256 / 16 / 16 = 0 by omega, show x / 16 / 16 = x / 256 by omega]
  simp [Nat.xor_assoc]

theorem split256 (x : Nat) : x = (x % 256) ^^^ (256 * (x / 256)) := by
  apply Nat.eq_of_testBit_eq
  intro i
  have h1 : x % 256 = x % 2 ^ 8 := rfl
  have h2 : 256 * (x / 256) = 2 ^ 8 * (x / 2 ^ 8) := rfl
  rw [h1, h2, Nat.testBit_xor, Nat.testBit_mod_two_pow, Nat.testBit_two_pow_mul, Nat.testBit_div_two_pow]
  by_cases hi : i < 8
  · simp [hi, show ¬ 8 ≤ i by omega]
  · simp [hi, show i - 8 + 8 = i by omega, show 8 ≤ i by omega]

theorem shN8_mul (k : Nat) : shN 8 (256 * k) = k := by
  rw [shN8_small, show 256 * k % 256 = 0 by omega, show 256 * k / 256 = k by omega]
  simp [shN, sh]

theorem shN8_word (c n : Nat) : shN 8 (c ^^^ n) = shN 8 (c ^^^ (n % 256)) ^^^ (n / 256) := by
  conv => lhs; rw [split256 n]
  rw [← Nat.xor_assoc, shN_xor, shN8_mul]

theorem four (c n : Nat) :
    shN 8 (shN 8 (shN 8 (shN 8 (c ^^^ n % 256) ^^^ n / 256 % 256) ^^^ n / 65536 % 256) ^^^ n / 16777216) = shN 32 (c ^^^ n) := by
  rw [show (32 : Nat) = 8 + (8 + (8 + 8)) from rfl, shN_add, shN_add, shN_add, shN8_word c n, shN8_word _ (n / 256), shN8_word _ (n / 256 / 256)]
  rw [show n / 256 / 256 / 256 = n / 16777216 by omega, show n / 256 / 256 % 256 = n / 65536 % 256 by omega]

theorem crc_end : shN 32 full ^^^ full = 558161692 := by decide +kernel

end Corb
