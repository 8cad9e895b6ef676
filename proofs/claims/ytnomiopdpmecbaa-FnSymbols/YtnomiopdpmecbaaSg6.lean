/- The walk of an exact law: the program reads symbols by a code as the model does. -/
import Derived.Test.YtnomiopdpmecbaaSg5
namespace Go.Proofs.Ytnomiopdpmecbaa
open Go.RowKit Corb

theorem sgL_len (l : List Int) (s : ByteArray) (m : Int) : (sgL l s m).length ≤ 4000 := by
  cases h1 : lensOk l && inB m 0 4000
  · unfold sgL; rw [h1]; simp
  · unfold sgL
    rw [h1, if_pos rfl]
    simp only [Bool.and_eq_true] at h1
    have hb := inB_true.1 h1.2
    cases h : decs l (numB s) (8 * s.size) m.toNat with
    | none => simp
    | some lp =>
      obtain ⟨L, p⟩ := lp
      have := decs_len h
      simp only; omega
theorem specSymbolsGet_n (a : Option Addr) (cap n m : Nat) (l : List Int) (s : ByteArray) (c : Int) (R : List Int) (ok : Bool) (w : World) (hn : l.length = n) (h : IRow w a l) (hm : n ≤ 1048576) (hs : s.size ≤ 2000000) (hR : sgL l s c = R) (hRm : R.length = m) (hO : sgOk l s c = ok) :
    Calls Try.prog 16 #[.slice a n cap, .string s, .int .i64 c] w fun e w' => ∃ va vc, e = .returned (.tuple #[.slice va m vc, .bool ok]) ∧ IOwn w' w.heap.size (.slice va m vc) R ∧ Below w.heap.size w w' :=
  (specSymbolsGet_any a cap n l s c w hn h hm hs).mono fun e w' ⟨v, he, ho, hb⟩ => by
    rw [hR] at ho
    rw [hO] at he
    obtain ⟨va, vc, rfl⟩ := ho.formN hRm
    exact ⟨va, vc, he, ho, hb⟩
theorem implSymbolsGet_n (a : Option Addr) (cap n m : Nat) (l : List Int) (s : ByteArray) (c : Int) (R : List Int) (ok : Bool) (w : World) (hn : l.length = n) (h : IRow w a l) (hm : n ≤ 1048576) (hs : s.size ≤ 2000000) (hR : sgL l s c = R) (hRm : R.length = m) (hO : sgOk l s c = ok) :
    Calls Try.prog 11 #[.slice a n cap, .string s, .int .i64 c] w fun e w' => ∃ va vc, e = .returned (.tuple #[.slice va m vc, .bool ok]) ∧ IOwn w' w.heap.size (.slice va m vc) R ∧ Below w.heap.size w w' :=
  (implSymbolsGet_any a cap n l s c w hn h hm hs).mono fun e w' ⟨v, he, ho, hb⟩ => by
    rw [hR] at ho
    rw [hO] at he
    obtain ⟨va, vc, rfl⟩ := ho.formN hRm
    exact ⟨va, vc, he, ho, hb⟩


end Go.Proofs.Ytnomiopdpmecbaa
