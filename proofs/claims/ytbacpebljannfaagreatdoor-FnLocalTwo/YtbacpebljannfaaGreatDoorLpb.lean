/- The walk of the law that a file takes no more than its head, its name and its text. -/
import Derived.Test.YtbacpebljannfaaGreatDoorM29
import Derived.Test.YtbacpebljannfaaGreatDoorM18
import Derived.Test.YtbacpebljannfaaGreatDoorM24
import Derived.Test.YtbacpebljannfaaGreatDoorM6
import Derived.Lib.QuietBelow
namespace Go.Proofs.YtbacpebljannfaaGreatDoor
open Go.RowKit Corb
set_option maxRecDepth 100000
theorem local_list (n t : ByteArray) (N : Nat) : (localB n t N).data.toList = (headB (howN t) N (crcMore 0 t.data.toList) (bodyB t).size t.size n).data.toList ++ (bodyB t).data.toList := by
  unfold localB; simp
theorem body_small (t : ByteArray) : (bodyB t).size ≤ t.size := by unfold bodyB; split <;> omega
theorem how_small (t : ByteArray) : howN t ≤ 8 := by unfold howN; split <;> omega
theorem ba_of_list {a b : ByteArray} (h : a.data.toList = b.data.toList) : a = b := ByteArray.ext (Array.toList_inj.1 h)
theorem local_facts {n t : ByteArray} {N : Nat} (hN : N < 4294967296) (hn : n.size < 65536) (ht : t.size < 4294967296) :
    (localB n t N).size = 30 + n.size + (bodyB t).size ∧ wd (localB n t N).data.toList 14 4 = crcMore 0 t.data.toList ∧ wd (localB n t N).data.toList 22 4 = t.size ∧ (localB n t N).extract 30 (30 + n.size) = n := by
  have hb := body_small t
  have hh := how_small t
  obtain ⟨_, _, _, r3, _, r5, _, r7, _⟩ := head_reads (how := howN t) (st := N) (crc := crcMore 0 t.data.toList) (pk := (bodyB t).size) (lg := t.size) (nm := n) (bodyB t).data.toList (by omega) hN (crcMore_lt _ _ (by omega)) (by omega) ht hn
  rw [← local_list] at r3 r5 r7
  refine ⟨?_, r3, r5, ba_of_list ?_⟩
  · unfold localB headB
    rw [ByteArray.size_append, ByteArray.size_append, ByteArray.size_append, toldB_size]
    show 4 + 26 + _ + _ = _
    omega
  · rw [ext_list, Nat.add_sub_cancel_left, r7]
end Go.Proofs.YtbacpebljannfaaGreatDoor