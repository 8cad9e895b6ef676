/- Of what the proof is made: 3 texts, one behind the other. -/
import Derived.Test.YtgpghapnmalipaaGreatDoorM6
import Derived.Test.YtgpghapnmalipaaGreatDoorAr1
import Derived.Deep.RegionWith
namespace Go.Proofs.YtgpghapnmalipaaGreatDoor
open Go.RowKit
abbrev Tk := Int × Int × Int
def k0 : Tk := (0, 0, 0)
def KRow (w : World) (a : Option Addr) (l : List Tk) : Prop :=
  0 < l.length → ∃ g o, a = some ⟨g, o, none⟩ ∧ g < w.heap.size ∧ ∀ i, i < l.length → w.cell? ⟨g, o + i * 3, none⟩ = some (.int .i64 (l.getD i k0).1) ∧ w.cell? ⟨g, o + i * 3 + 1, none⟩ = some (.int .i64 (l.getD i k0).2.1) ∧ w.cell? ⟨g, o + i * 3 + 2, none⟩ = some (.int .i64 (l.getD i k0).2.2)
theorem KRow.later {w w' : World} {a : Option Addr} {l : List Tk} (h : KRow w a l) (hb : Below w.heap.size w w') : KRow w' a l := by
  intro h0
  obtain ⟨g, o, e, hlt, hc⟩ := h h0
  refine ⟨g, o, e, Nat.lt_of_lt_of_le hlt hb.size, fun i hi => ⟨?_, ?_, ?_⟩⟩
  · exact (hb.cell (p := ⟨g, o + i * 3, none⟩) hlt).trans (hc i hi).1
  · exact (hb.cell (p := ⟨g, o + i * 3 + 1, none⟩) hlt).trans (hc i hi).2.1
  · exact (hb.cell (p := ⟨g, o + i * 3 + 2, none⟩) hlt).trans (hc i hi).2.2
def kcells : List Tk → List Value
  | [] => []
  | p :: l => .int .i64 p.1 :: .int .i64 p.2.1 :: .int .i64 p.2.2 :: kcells l
theorem kcells_append (l m : List Tk) : kcells (l ++ m) = kcells l ++ kcells m := by
  induction l with
  | nil => rfl
  | cons p l ih => simp [kcells, ih]
theorem kcells_get (l : List Tk) (i : Nat) (h : i < l.length) : (kcells l)[i * 3]? = some (.int .i64 (l.getD i k0).1) ∧ (kcells l)[i * 3 + 1]? = some (.int .i64 (l.getD i k0).2.1) ∧ (kcells l)[i * 3 + 2]? = some (.int .i64 (l.getD i k0).2.2) := by
  induction l generalizing i with
  | nil => simp at h
  | cons p l ih =>
    cases i with
    | zero => simp [kcells]
    | succ i =>
      have := ih i (by simpa using h)
      rw [show (i + 1) * 3 = i * 3 + 1 + 1 + 1 by omega]
      simpa [kcells] using this
theorem kcells_set (l : List Tk) (j : Nat) (x : Tk) : (((kcells l).set (j * 3) (.int .i64 x.1)).set (j * 3 + 1) (.int .i64 x.2.1)).set (j * 3 + 2) (.int .i64 x.2.2) = kcells (l.set j x) := by
  induction l generalizing j with
  | nil => simp [kcells]
  | cons p l ih =>
    cases j with
    | zero => simp [kcells]
    | succ j =>
      rw [show (j + 1) * 3 = j * 3 + 1 + 1 + 1 by omega]
      simp only [kcells, List.set_cons_succ]
      rw [ih j]
def KOwn (w : World) (base : Nat) (v : Value) (l : List Tk) : Prop := w.ownsRow base 232 3 v l.length (kcells l)
theorem KOwn.form {w : World} {base : Nat} {v : Value} {l : List Tk} (h : KOwn w base v l) : ∃ a cap, v = .slice a l.length cap := by
  rcases h.2 with ⟨e, h0⟩ | ⟨g, cap, _, e, _⟩
  · exact ⟨none, 0, by rw [e, h0]⟩
  · exact ⟨_, cap, e⟩
theorem KOwn.formN {w : World} {base n : Nat} {v : Value} {l : List Tk} (hn : l.length = n) (h : KOwn w base v l) : ∃ a cap, v = .slice a n cap := by
  subst hn; exact h.form
theorem KOwn.row {w : World} {base : Nat} {a : Option Addr} {cap : Nat} {l : List Tk} (h : KOwn w base (.slice a l.length cap) l) : KRow w a l := by
  intro h0
  rcases h.2 with ⟨_, h1⟩ | ⟨g, cap', cur, e, hb, hg, hr⟩
  · omega
  · simp only [Value.slice.injEq] at e
    obtain ⟨rfl, _, rfl⟩ := e
    refine ⟨g, 0, rfl, (Array.getElem?_eq_some_iff.1 hg).1, fun i hi => ?_⟩
    have hp := kcells_get l i hi
    have c1 := World.ownsRow.cellAt h (i * 3) (by omega)
    have c2 := World.ownsRow.cellAt h (i * 3 + 1) (by omega)
    have c3 := World.ownsRow.cellAt h (i * 3 + 2) (by omega)
    rw [Nat.zero_add]
    exact ⟨c1.trans hp.1, c2.trans hp.2.1, c3.trans hp.2.2⟩
theorem KOwn.rowN {w : World} {base n : Nat} {a : Option Addr} {cap : Nat} {l : List Tk} (hn : l.length = n) (h : KOwn w base (.slice a n cap) l) : KRow w a l := by
  subst hn; exact h.row
theorem KOwn.later {w w' : World} {base B : Nat} {v : Value} {l : List Tk} (h : KOwn w base v l) (hb : Below B w w') (hB : w.heap.size ≤ B) : KOwn w' base v l :=
  World.ownsRow.kept h (row := none) ⟨hb.os, hb.tape, hb.output, hb.size, fun k hk _ => hb.block k (by omega)⟩ (by
    cases hv : v.ownBlock with
    | none => exact .inl rfl
    | some k => exact .inr (by simp))
theorem KOwn.mono {w : World} {base base' : Nat} {v : Value} {l : List Tk} (h : KOwn w base v l) (hb : base' ≤ base) : KOwn w base' v l := by
  refine ⟨h.1, ?_⟩
  rcases h.2 with hn | ⟨g, cap, cur, e, hbg, rest⟩
  · exact .inl hn
  · exact .inr ⟨g, cap, cur, e, Nat.le_trans hb hbg, rest⟩
theorem KOwn.own {w : World} {base n : Nat} {v : Value} {l : List Tk} (hn : l.length = n) (h : KOwn w base v l) : w.ownsRow base 232 3 v n (kcells l) := by
  subst hn; exact h
theorem KOwn.somes {w : World} {base cap n : Nat} {a : Option Addr} {l : List Tk} (h : KOwn w base (.slice a n cap) l) (hl : 0 < l.length) : ∃ g, a = some ⟨g, 0, none⟩ := by
  rcases h.2 with ⟨_, e⟩ | ⟨g, cap', cur, e, _⟩
  · omega
  · simp only [Value.slice.injEq] at e
    exact ⟨g, e.1⟩
theorem KOwn.below {w : World} {base cap n g : Nat} {l : List Tk} (h : KOwn w base (.slice (some ⟨g, 0, none⟩) n cap) l) : base ≤ g ∧ g < w.heap.size := World.ownsRow.lt h g rfl
theorem KOwn.at {w : World} {base g cap n : Nat} {l : List Tk} (hn : l.length = n) (h : KOwn w base (.slice (some ⟨g, 0, none⟩) n cap) l) (j : Nat) (hj : j < n) :
    w.cell? ⟨g, j * 3, none⟩ = some (.int .i64 (l.getD j k0).1) ∧ w.cell? ⟨g, j * 3 + 1, none⟩ = some (.int .i64 (l.getD j k0).2.1) ∧ w.cell? ⟨g, j * 3 + 2, none⟩ = some (.int .i64 (l.getD j k0).2.2) ∧ w.frozen? ⟨g, j * 3, none⟩ = false ∧ w.frozen? ⟨g, j * 3 + 1, none⟩ = false ∧ w.frozen? ⟨g, j * 3 + 2, none⟩ = false := by
  subst hn
  have hp := kcells_get l j hj
  exact ⟨(World.ownsRow.cellAt h (j * 3) (by omega)).trans hp.1, (World.ownsRow.cellAt h (j * 3 + 1) (by omega)).trans hp.2.1, (World.ownsRow.cellAt h (j * 3 + 2) (by omega)).trans hp.2.2, World.ownsRow.frozenAt h _, World.ownsRow.frozenAt h _, World.ownsRow.frozenAt h _⟩
theorem KOwn.put {w : World} {base g cap n : Nat} {l : List Tk} (hn : l.length = n) (h : KOwn w base (.slice (some ⟨g, 0, none⟩) n cap) l) (j : Nat) (x : Tk) :
    KOwn (((w.setCell ⟨g, j * 3, none⟩ (.int .i64 x.1)).setCell ⟨g, j * 3 + 1, none⟩ (.int .i64 x.2.1)).setCell ⟨g, j * 3 + 2, none⟩ (.int .i64 x.2.2)) base (.slice (some ⟨g, 0, none⟩) n cap) (l.set j x) := by
  subst hn
  have h1 := (World.ownsRow.stored h (j * 3) (.int .i64 x.1)).1
  have h2 := (World.ownsRow.stored h1 (j * 3 + 1) (.int .i64 x.2.1)).1
  have h3 := (World.ownsRow.stored h2 (j * 3 + 2) (.int .i64 x.2.2)).1
  rw [kcells_set] at h3
  show World.ownsRow _ _ _ _ _ (l.set j x).length _
  rw [List.length_set]
  exact h3
theorem KOwn.touch {w w' : World} {a : Option Addr} {base : Nat} {v : Value} {l : List Tk} (h : KOwn w base v l) (ht : Touch a w w') (hne : ∀ g, a = some ⟨g, 0, none⟩ → g < base) : KOwn w' base v l := by
  refine ⟨h.1, ?_⟩
  rcases h.2 with hn | ⟨g, cap, cur, rfl, hbg, hgg, rest⟩
  · exact .inl hn
  · refine .inr ⟨g, cap, cur, rfl, hbg, ?_, rest⟩
    rw [ht.2 g (fun g' e => by have := hne g' e; omega)]
    exact hgg
theorem Tryz.infoTok : (Tryz.prog.info? 232).map (fun i => (i.zero, i.size, i.bytes)) = some (some (.agg #[.int .i64 0, .int .i64 0, .int .i64 0]), 3, 24) := by kernel_rfl
theorem kown_snoc {x : World} {base n : Nat} {v : Value} {l : List Tk} {a b c : Int} (hn : l.length = n) (h : x.ownsRow base 232 3 v (n + 1) (kcells l ++ [.int .i64 a, .int .i64 b, .int .i64 c])) : KOwn x base v (l ++ [(a, b, c)]) := by
  subst hn
  show World.ownsRow _ _ _ _ _ (l ++ [(a, b, c)]).length _
  rw [kcells_append]
  simpa [kcells] using h
theorem KOwn.nil (w : World) (base : Nat) : KOwn w base (.slice none 0 0) [] := World.ownsRow_nil _ _ _ _
theorem KOwn.lit (w : World) (base : Nat) (hb : base ≤ w.heap.size) : KOwn (w.alloc (.cells #[] 232)) base (.slice (some ⟨w.heap.size, 0, none⟩) 0 0) [] := World.ownsRow_lit w #[] 0 hb (by unfold maxLen; omega) rfl
theorem k3_new (w : World) (x y z : Value) (t : TypeId) (g : Nat) (hg : w.heap.size = g) : ∀ (j : Nat) (u : Value), [x, y, z][j]? = some u → (w.alloc (.cells #[x, y, z] t)).cell? ((⟨g, 0, none⟩ : Addr).add j) = some u := by
  subst hg
  intro j u hj
  match j, hj with
  | 0, hj => simp at hj; subst hj; simp [Addr.add]
  | 1, hj => simp at hj; subst hj; simp [Addr.add]
  | 2, hj => simp at hj; subst hj; simp [Addr.add]
theorem k3_one (x y z : Int) : ∀ u ∈ [Value.int .i64 x, Value.int .i64 y, Value.int .i64 z], u.oneCell' = true := by
  intro u hu
  simp at hu
  rcases hu with rfl | rfl | rfl <;> rfl
theorem take_snocK (l : List Tk) (k : Nat) (h : k < l.length) : l.take (k + 1) = l.take k ++ [l.getD k k0] := by
  rw [List.take_succ_eq_append_getElem h]
  congr 2
  simp [List.getD, h]
end Go.Proofs.YtgpghapnmalipaaGreatDoor
namespace Go.Proofs.YtgpghapnmalipaaGreatDoor
open Go.RowKit
def isB (t : Tk) : Bool := decide (t.2.1 = 0) && (inB t.1 0 255 && decide (t.2.2 = 0))
def isK (t : Tk) : Bool := decide (t.1 = 0) && inB t.2.1 3 60 && inB t.2.2 1 250
theorem isB_K {t : Tk} (h : isB t = true) : isK t = false := by
  simp only [isB, Bool.and_eq_true, decide_eq_true_eq] at h
  have : inB t.2.1 3 60 = false := inB_false.2 (by omega)
  simp [isK, this]
def okT (t : Tk) : Bool := isB t || isK t
end Go.Proofs.YtgpghapnmalipaaGreatDoor
namespace Go.Proofs.YtgpghapnmalipaaGreatDoor
open Go.RowKit
def agF (L : List UInt8) (p b : Nat) : Nat → Nat → Nat
  | 0, n => n
  | f + 1, n => if p + n < L.length ∧ L.getD (p + n) 0 = L.getD (p + n - b) 0 then agF L p b f (n + 1) else n
def agN (L : List UInt8) (p b : Nat) : Nat := agF L p b 60 0
theorem agF_step {L : List UInt8} {p b k : Nat} (hk : k < 60) (h : p + k < L.length) (he : L.getD (p + k) 0 = L.getD (p + k - b) 0) : agF L p b (60 - k) k = agF L p b (60 - (k + 1)) (k + 1) := by
  obtain ⟨f, hf⟩ : ∃ f, 60 - k = f + 1 := ⟨60 - k - 1, by omega⟩
  rw [hf, show 60 - (k + 1) = f by omega]
  simp only [agF]
  rw [if_pos ⟨h, he⟩]
theorem agF_stop {L : List UInt8} {p b k : Nat} (h : k = 60 ∨ ¬ (p + k < L.length) ∨ L.getD (p + k) 0 ≠ L.getD (p + k - b) 0) (hk : k ≤ 60) : agF L p b (60 - k) k = k := by
  by_cases e : k = 60
  · subst e; rfl
  · obtain ⟨f, hf⟩ : ∃ f, 60 - k = f + 1 := ⟨60 - k - 1, by omega⟩
    rw [hf]
    simp only [agF]
    rw [if_neg]
    rintro ⟨h1, h2⟩
    rcases h with h | h | h
    · exact e h
    · exact h h1
    · exact h h2
theorem agF_bd (L : List UInt8) (p b f n : Nat) : n ≤ agF L p b f n ∧ agF L p b f n ≤ n + f ∧ (p + n ≤ L.length → p + agF L p b f n ≤ L.length) ∧ (∀ i, n ≤ i → i < agF L p b f n → L.getD (p + i) 0 = L.getD (p + i - b) 0) := by
  induction f generalizing n with
  | zero => exact ⟨Nat.le_refl _, Nat.le_refl _, fun h => h, fun i h1 h2 => by simp only [agF] at h2; omega⟩
  | succ f ih =>
    simp only [agF]
    split
    · rename_i h
      obtain ⟨h1, h2, h3, h4⟩ := ih (n + 1)
      refine ⟨by omega, by omega, fun _ => h3 (by omega), fun i h5 h6 => ?_⟩
      by_cases e : i = n
      · subst e; exact h.2
      · exact h4 i (by omega) h6
    · exact ⟨Nat.le_refl _, by omega, fun h => h, fun i h1 h2 => by omega⟩
theorem agN_le (L : List UInt8) (p b : Nat) : agN L p b ≤ 60 := by have := (agF_bd L p b 60 0).2.1; unfold agN; omega
theorem agN_in {L : List UInt8} {p b : Nat} (h : p ≤ L.length) : p + agN L p b ≤ L.length := (agF_bd L p b 60 0).2.2.1 (by omega)
def bestF (L : List UInt8) (p : Nat) : Nat → Nat × Nat
  | 0 => (0, 0)
  | k + 1 => if (bestF L p k).1 < agN L p (k + 1) then (agN L p (k + 1), k + 1) else bestF L p k
theorem bestF_le (L : List UInt8) (p k : Nat) : (bestF L p k).1 ≤ 60 ∧ (bestF L p k).2 ≤ k ∧ ((bestF L p k).1 ≠ 0 → 1 ≤ (bestF L p k).2 ∧ (bestF L p k).1 = agN L p (bestF L p k).2) ∧ (∀ b, 1 ≤ b → b ≤ k → agN L p b ≤ (bestF L p k).1 ∧ (agN L p b = (bestF L p k).1 → (bestF L p k).1 ≠ 0 → (bestF L p k).2 ≤ b)) := by
  induction k with
  | zero => exact ⟨by simp [bestF], by simp [bestF], fun h => by simp [bestF] at h, fun b h1 h2 => by omega⟩
  | succ k ih =>
    obtain ⟨h1, h2, h3, h4⟩ := ih
    simp only [bestF]
    split
    · rename_i h
      refine ⟨agN_le L p (k + 1), Nat.le_refl _, fun _ => ⟨by simp, rfl⟩, fun b hb1 hb2 => ?_⟩
      by_cases e : b = k + 1
      · subst e; exact ⟨Nat.le_refl _, fun _ _ => Nat.le_refl _⟩
      · have := (h4 b hb1 (by omega)).1
        simp only
        exact ⟨by omega, fun he => by omega⟩
    · rename_i h
      refine ⟨h1, by omega, h3, fun b hb1 hb2 => ?_⟩
      by_cases e : b = k + 1
      · subst e
        exact ⟨by omega, fun _ hne => by omega⟩
      · exact h4 b hb1 (by omega)
def tokP (L : List UInt8) (p : Nat) : Tk :=
  if (bestF L p (min p 250)).1 < 3 then (((L.getD p 0).toNat : Int), 0, 0) else (0, ((bestF L p (min p 250)).1 : Int), ((bestF L p (min p 250)).2 : Int))
def sizP (L : List UInt8) (p : Nat) : Nat := if (bestF L p (min p 250)).1 < 3 then 1 else (bestF L p (min p 250)).1
theorem sizP_pos (L : List UInt8) (p : Nat) : 1 ≤ sizP L p ∧ sizP L p ≤ 60 := by
  unfold sizP
  have := (bestF_le L p (min p 250)).1
  split <;> omega
theorem sizP_in {L : List UInt8} {p : Nat} (h : p < L.length) : p + sizP L p ≤ L.length := by
  unfold sizP
  obtain ⟨h1, h2, h3, h4⟩ := bestF_le L p (min p 250)
  split
  · omega
  · rename_i hn
    obtain ⟨h5, h6⟩ := h3 (by omega)
    rw [h6]
    exact agN_in (by omega)
def toksF (L : List UInt8) : Nat → Nat → List Tk
  | 0, _ => []
  | f + 1, p => if p < L.length then tokP L p :: toksF L f (p + sizP L p) else []
theorem toksF_more {L : List UInt8} {f p : Nat} (h : L.length - p ≤ f) : toksF L f p = toksF L (L.length - p) p := by
  induction f generalizing p with
  | zero => rw [show L.length - p = 0 by omega]
  | succ f ih =>
    by_cases hp : p < L.length
    · obtain ⟨g, hg⟩ : ∃ g, L.length - p = g + 1 := ⟨L.length - p - 1, by omega⟩
      have hs := sizP_pos L p
      rw [hg]
      simp only [toksF]
      rw [if_pos hp, if_pos hp, ih (by omega)]
      congr 1
      -- both are the tokens from there on
      have : ∀ g', L.length - (p + sizP L p) ≤ g' → g' ≤ f → toksF L g' (p + sizP L p) = toksF L (L.length - (p + sizP L p)) (p + sizP L p) := by
        intro g' h1 h2
        clear ih
        have key : ∀ n q, L.length - q ≤ n → toksF L n q = toksF L (L.length - q) q := by
          intro n
          induction n with
          | zero => intro q hq; rw [show L.length - q = 0 by omega]
          | succ n ihn =>
            intro q hq
            by_cases hq2 : q < L.length
            · obtain ⟨m, hm⟩ : ∃ m, L.length - q = m + 1 := ⟨L.length - q - 1, by omega⟩
              have hs2 := sizP_pos L q
              rw [hm]
              simp only [toksF]
              rw [if_pos hq2, if_pos hq2, ihn _ (by omega)]
              congr 1
              by_cases hmn : m = n
              · subst hmn; rw [ihn _ (by omega)]
              · have hmn2 : m < n := by omega
                clear hq
                have : ∀ n m r, m ≤ n → L.length - r ≤ m → toksF L n r = toksF L m r := by
                  intro n
                  induction n with
                  | zero => intro m r h1 _; rw [show m = 0 by omega]
                  | succ n ih3 =>
                    intro m r h1 h2
                    by_cases hr : r < L.length
                    · obtain ⟨m', rfl⟩ : ∃ m', m = m' + 1 := ⟨m - 1, by omega⟩
                      have hs3 := sizP_pos L r
                      simp only [toksF]
                      rw [if_pos hr, if_pos hr, ih3 m' _ (by omega) (by omega)]
                    · cases m with
                      | zero => simp only [toksF]; rw [if_neg hr]
                      | succ m => simp only [toksF]; rw [if_neg hr, if_neg hr]
                exact (this m _ _ (by omega) (Nat.le_refl _)).symm
            · rw [show L.length - q = 0 by omega]
              simp only [toksF]
              rw [if_neg hq2]
        exact key g' _ h1
      exact (this g (by omega) (by omega)).symm
    · rw [show L.length - p = 0 by omega]
      simp only [toksF]
      rw [if_neg hp]
def toksP (L : List UInt8) (p : Nat) : List Tk := toksF L (L.length - p) p
theorem toksP_step {L : List UInt8} {p : Nat} (h : p < L.length) : toksP L p = tokP L p :: toksP L (p + sizP L p) := by
  unfold toksP
  obtain ⟨g, hg⟩ : ∃ g, L.length - p = g + 1 := ⟨L.length - p - 1, by omega⟩
  have hs := sizP_pos L p
  rw [hg]
  simp only [toksF]
  rw [if_pos h, toksF_more (by omega)]
theorem toksP_end {L : List UInt8} {p : Nat} (h : ¬ p < L.length) : toksP L p = [] := by
  unfold toksP
  rw [show L.length - p = 0 by omega]
  rfl
theorem toksP_len (L : List UInt8) : ∀ n p, L.length - p ≤ n → (toksP L p).length ≤ L.length - p := by
  intro n
  induction n with
  | zero => intro p h; rw [toksP_end (by omega)]; simp
  | succ n ih =>
    intro p h
    by_cases hp : p < L.length
    · have hs := sizP_pos L p
      rw [toksP_step hp]
      have := ih (p + sizP L p) (by omega)
      simp only [List.length_cons]
      omega
    · rw [toksP_end hp]; simp
end Go.Proofs.YtgpghapnmalipaaGreatDoor
