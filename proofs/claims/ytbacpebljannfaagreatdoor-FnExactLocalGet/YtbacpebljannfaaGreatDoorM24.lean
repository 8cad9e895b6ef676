/- Of what the proof is made: 2 texts, one behind the other. -/
import Derived.Deep.RegionHeld3
import Derived.Deep.DeepCutAuto
import Derived.Test.YtbacpebljannfaaGreatDoorM16
import Derived.Test.YtbacpebljannfaaGreatDoorM9
import Derived.Test.YtbacpebljannfaaGreatDoorM10
import Derived.Test.YtbacpebljannfaaGreatDoorM18
import Derived.Test.YtbacpebljannfaaGreatDoorFb4
import Derived.Test.YtbacpebljannfaaGreatDoorM8
import Derived.Test.YtbacpebljannfaaGreatDoorM3
import Derived.Test.YtbacpebljannfaaGreatDoorBits
import Derived.Test.YtbacpebljannfaaGreatDoorAr1
import Derived.Test.YtbacpebljannfaaGreatDoorM6
import Derived.Test.YtbacpebljannfaaGreatDoorM15
import Derived.Test.YtbacpebljannfaaGreatDoorStepLaw
import Derived.Test.YtbacpebljannfaaGreatDoorGn1
import Derived.Test.YtbacpebljannfaaGreatDoorM11
import Derived.Test.YtbacpebljannfaaGreatDoorM2
import Derived.Test.YtbacpebljannfaaGreatDoorM21
import Derived.Test.YtbacpebljannfaaGreatDoorFs4
namespace Go.Proofs.YtbacpebljannfaaGreatDoor
open Go.RowKit Go.Shelf Corb
attribute [local go_sem] Oper.semAt_some
end Go.Proofs.YtbacpebljannfaaGreatDoor
namespace Go.Proofs.YtbacpebljannfaaGreatDoor
open Go.RowKit Corb
theorem IOwn.cut {w : World} {base n m cap : Nat} {a : Option Addr} {l : List Int} (hn : l.length = n) (h : IOwn w base (.slice a n cap) l) (hm : m ≤ n) (h0 : 0 < n) : IOwn w base (.slice a m cap) (l.take m) := by
  subst hn
  rcases h.2 with ⟨_, e⟩ | ⟨g, cap', cur, e, hb, hg, h1, h2, h3, h4⟩
  · omega
  · simp only [Value.slice.injEq] at e
    obtain ⟨rfl, _, rfl⟩ := e
    refine ⟨by simp, .inr ⟨g, cap, cur, by rw [List.length_take]; congr 1; omega, hb, hg, by rw [List.length_take]; omega, h2, h3, ?_⟩⟩
    rw [List.length_take, List.map_take, ← h4, List.take_take]
    congr 1
    omega
theorem IOwn.cap {w : World} {base n cap g : Nat} {l : List Int} (h : IOwn w base (.slice (some ⟨g, 0, none⟩) n cap) l) : n ≤ cap ∧ cap ≤ maxLen := by
  rcases h.2 with ⟨e, _⟩ | ⟨g', cap', cur, e, hb, hg, h1, h2, h3, h4⟩
  · cases e
  · simp only [Value.slice.injEq] at e
    obtain ⟨_, rfl, rfl⟩ := e
    exact ⟨h1, h2⟩
end Go.Proofs.YtbacpebljannfaaGreatDoor
