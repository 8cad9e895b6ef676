/- What the model's writer of bits holds, over this seat's program. -/
import Derived.Test.YtmocfpjcknmhlaaRb1
import Derived.Test.YtmocfpjcknmhlaaPc2
import Derived.Test.YtmocfpjcknmhlaaRd2
import Derived.Test.YtmocfpjcknmhlaaBitMath
import Derived.Test.YtmocfpjcknmhlaaStepLaw
import Derived.Deep.CutRange
import Derived.Laws.IdiomStrings
import Derived.Laws.OwnMore
namespace Go.Proofs.Ytmocfpjcknmhlaa
open Go.RowKit Corb

/-- Bytes as cells. -/
def bcells (l : List UInt8) : List Value := l.map fun x => Value.int .u8 (x.toNat : Int)

/-- A row of bytes of the call's own, behind block b. -/
def Bys (w : World) (b : Nat) (v : Value) (l : List UInt8) : Prop := w.ownsRow (b + 1) 5 1 v l.length (bcells l)

theorem Bys.form {w : World} {b : Nat} {v : Value} {l : List UInt8} (h : Bys w b v l) : ∃ a cap, v = .slice a l.length cap := by
  rcases h.2 with ⟨e, h0⟩ | ⟨g, cap, _, e, _⟩
  · exact ⟨none, 0, by rw [e, h0]⟩
  · exact ⟨_, cap, e⟩
theorem Bys.set {w : World} {b o : Nat} {v : Value} {l : List UInt8} (h : Bys w b v l) (u : Value) : Bys (w.setCell ⟨b, o, none⟩ u) b v l :=
  ownsRow_setCell_below h (a := ⟨b, o, none⟩) (Nat.lt_succ_self b) u
theorem Bys.drew {w : World} {b : Nat} {v : Value} {l : List UInt8} (h : Bys w b v l) : Bys w.drew b v l := h

/-- The model's writer: the number V of m bits. -/
def Out (w : World) (b V m : Nat) : Prop :=
  V < p2 m ∧ ∃ v, Three w b v (.int .i64 (V / p2 (8 * (m / 8)) : Nat)) (.int .i64 (m % 8 : Nat)) ∧ Bys w b v (leS (m / 8) V)

theorem out_room (V m x : Nat) (hV : V < p2 m) (hx : x ≤ 1) (hr : m % 8 < 7) :
    V + x * p2 m < p2 (m + 1) ∧ (V + x * p2 m) / p2 (8 * ((m + 1) / 8)) = V / p2 (8 * (m / 8)) + x * p2 (m % 8) ∧ leS ((m + 1) / 8) (V + x * p2 m) = leS (m / 8) V := by
  refine ⟨add_lt V x m hV hx, ?_, ?_⟩
  · rw [show (m + 1) / 8 = m / 8 by omega]
    have := div_add V x m (m / 8) (by omega)
    rw [show m - 8 * (m / 8) = m % 8 by omega] at this
    exact this
  · rw [show (m + 1) / 8 = m / 8 by omega]
    exact leS_add (m / 8) V x m (by omega)
theorem out_full (V m x : Nat) (hV : V < p2 m) (hx : x ≤ 1) (hr : m % 8 = 7) :
    V + x * p2 m < p2 (m + 1) ∧ (V + x * p2 m) / p2 (8 * ((m + 1) / 8)) = 0 ∧ (m + 1) % 8 = 0 ∧
      leS ((m + 1) / 8) (V + x * p2 m) = leS (m / 8) V ++ [UInt8.ofNat (V / p2 (8 * (m / 8)) + x * p2 (m % 8))] := by
  have h1 := add_lt V x m hV hx
  refine ⟨h1, ?_, by omega, ?_⟩
  · apply Nat.div_eq_of_lt
    have : p2 (8 * ((m + 1) / 8)) = 2 ^ (m + 1) := by unfold p2; rw [show 8 * ((m + 1) / 8) = m + 1 by omega]
    rw [this]; exact h1
  · rw [show (m + 1) / 8 = m / 8 + 1 by omega]
    have a := leS_add (m / 8) V x m (by omega)
    have d := div_add V x m (m / 8) (by omega)
    rw [show m - 8 * (m / 8) = m % 8 by omega] at d
    have hl := high_lt (V + x * 2 ^ m) (m + 1) (m / 8) h1 (by omega)
    rw [show m + 1 - 8 * (m / 8) = 8 by omega] at hl
    show leS (m / 8) (V + x * 2 ^ m) ++ [UInt8.ofNat ((V + x * 2 ^ m) / 2 ^ (8 * (m / 8)) % 256)] = _
    rw [Nat.mod_eq_of_lt hl, a, d]
    rfl
theorem last_bd (V m : Nat) (hV : V < p2 m) : V / p2 (8 * (m / 8)) < p2 (m % 8) := by
  have := high_lt V m (m / 8) hV (by omega)
  rw [show m - 8 * (m / 8) = m % 8 by omega] at this
  exact this
theorem Try.infoByte : (Try.prog.info? 5).map (fun i => (i.zero, i.size, i.bytes)) = some (some (.int .u8 0), 1, 1) := by kernel_rfl
theorem byte_val (k : Nat) (h : k < 256) : (UInt8.ofNat k).toNat = k := by
  have : k % 256 = k := Nat.mod_eq_of_lt h
  simp [this]

theorem push_after {w W2 WA w' : World} {b : Nat} {v v' v1 v2 : Value} {l : List UInt8} {x : UInt8} (T2 : Three W2 b v v1 v2) (Y2 : Bys W2 b v l) (B2 : Below b w W2)
    (hWA : Below (b + 1) W2 WA) (hown : w'.ownsRow (b + 1) 5 1 v' (l.length + 1) (bcells l ++ [.int .u8 (x.toNat : Int)])) (hgrow : WA.grownBy w' v.ownBlock) :
    (∃ g cap, v' = .slice (some ⟨g, 0, none⟩) (l.length + 1) cap) ∧ Three w' b v v1 v2 ∧ Bys w' b v' (l ++ [x]) ∧ Below b w w' := by
  have hlt := T2.2.2.2.2.2.2
  have hlt2 := Nat.lt_of_lt_of_le hlt hWA.size
  have hblk : ∀ k, v.ownBlock = some k → b + 1 ≤ k := fun k hk => (Y2.lt k hk).1
  have hb : Below (b + 1) W2 w' := hWA.grown hgrow (by omega) hblk
  refine ⟨?_, T2.kept hb, ?_, B2.trans (hb.mono (by omega))⟩
  · rcases hown.2 with ⟨_, h0⟩ | ⟨g, cap, _, e, _⟩
    · omega
    · exact ⟨g, cap, e⟩
  · show w'.ownsRow (b + 1) 5 1 v' (l ++ [x]).length (bcells (l ++ [x]))
    simpa [bcells] using hown

end Go.Proofs.Ytmocfpjcknmhlaa
