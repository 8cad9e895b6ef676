/- Plain mathematics of Adler-32 over natural numbers. -/
namespace Corb

/-- The two halves of a sum, a byte more. -/
def aStep (p : Nat × Nat) (b : UInt8) : Nat × Nat := ((p.1 + b.toNat) % 65521, (p.2 + (p.1 + b.toNat) % 65521) % 65521)
def aFold (p : Nat × Nat) (l : List UInt8) : Nat × Nat := l.foldl aStep p

@[simp] theorem aFold_nil (p : Nat × Nat) : aFold p [] = p := rfl
theorem aFold_append (p : Nat × Nat) (l m : List UInt8) : aFold p (l ++ m) = aFold (aFold p l) m := by
  unfold aFold; rw [List.foldl_append]
theorem aFold_snoc (p : Nat × Nat) (l : List UInt8) (b : UInt8) : aFold p (l ++ [b]) = aStep (aFold p l) b := by
  rw [aFold_append]; rfl
theorem aFold_lt (p : Nat × Nat) (l : List UInt8) (h1 : p.1 < 65521) (h2 : p.2 < 65521) : (aFold p l).1 < 65521 ∧ (aFold p l).2 < 65521 := by
  induction l generalizing p with
  | nil => exact ⟨h1, h2⟩
  | cons b l ih =>
    show (aFold (aStep p b) l).1 < 65521 ∧ (aFold (aStep p b) l).2 < 65521
    exact ih _ (Nat.mod_lt _ (by omega)) (Nat.mod_lt _ (by omega))

def adler (l : List UInt8) : Nat := (aFold (1, 0) l).2 * 65536 + (aFold (1, 0) l).1

theorem adler_parts (l : List UInt8) : adler l % 65536 = (aFold (1, 0) l).1 ∧ adler l / 65536 = (aFold (1, 0) l).2 := by
  have h := aFold_lt (1, 0) l (by decide) (by decide)
  unfold adler; omega

def adlerJoin (a b n : Nat) : Nat :=
  (a / 65536 + b / 65536 + n * (a % 65536 + 65520)) % 65521 * 65536 + (a % 65536 + b % 65536 + 65520) % 65521

theorem aFold_any (p : Nat × Nat) (h1 : p.1 < 65521) (h2 : p.2 < 65521) (m : List UInt8) :
    aFold p m = ((p.1 + (aFold (1, 0) m).1 + 65520) % 65521, (p.2 + (aFold (1, 0) m).2 + m.length * (p.1 + 65520)) % 65521) := by
  have key : ∀ r : List UInt8, aFold p r.reverse = ((p.1 + (aFold (1, 0) r.reverse).1 + 65520) % 65521, (p.2 + (aFold (1, 0) r.reverse).2 + r.length * (p.1 + 65520)) % 65521) := by
    intro r
    induction r with
    | nil => simp; apply Prod.ext <;> simp <;> omega
    | cons b r ih =>
      rw [List.reverse_cons, aFold_snoc, aFold_snoc, ih]
      generalize aFold (1, 0) r.reverse = q
      have e : (b :: r).length * (p.1 + 65520) = r.length * (p.1 + 65520) + (p.1 + 65520) := by simp [Nat.add_mul]
      rw [e]
      generalize r.length * (p.1 + 65520) = P
      simp only [aStep]
      apply Prod.ext
      · simp only; omega
      · simp only; omega
  have := key m.reverse
  simpa using this

theorem adlerJoin_append (l m : List UInt8) : adlerJoin (adler l) (adler m) m.length = adler (l ++ m) := by
  have hl := aFold_lt (1, 0) l (by decide) (by decide)
  have pl := adler_parts l
  have pm := adler_parts m
  unfold adlerJoin
  rw [pl.1, pl.2, pm.1, pm.2]
  unfold adler
  rw [aFold_append, aFold_any (aFold (1, 0) l) hl.1 hl.2 m]

theorem adler_lt (l : List UInt8) : adler l < 4294967296 ∧ adler l % 65536 < 65521 ∧ adler l / 65536 < 65521 := by
  have h := aFold_lt (1, 0) l (by decide) (by decide)
  have p := adler_parts l
  refine ⟨?_, by omega, by omega⟩
  unfold adler; omega

theorem adlerJoin_lt (a b n : Nat) : adlerJoin a b n < 4294967296 ∧ adlerJoin a b n % 65536 < 65521 ∧ adlerJoin a b n / 65536 < 65521 := by
  unfold adlerJoin
  generalize (a / 65536 + b / 65536 + n * (a % 65536 + 65520)) = P
  generalize a % 65536 + b % 65536 + 65520 = Q
  have h1 : P % 65521 < 65521 := Nat.mod_lt _ (by omega)
  have h2 : Q % 65521 < 65521 := Nat.mod_lt _ (by omega)
  generalize P % 65521 = p at *
  generalize Q % 65521 = q at *
  refine ⟨by omega, by omega, by omega⟩

end Corb
