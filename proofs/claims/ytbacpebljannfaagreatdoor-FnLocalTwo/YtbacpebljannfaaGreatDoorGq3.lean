/- Unpacking, the program's: the text, and how many bytes were packed. -/
import Derived.Test.YtbacpebljannfaaGreatDoorGq2
import Derived.OwnWalk
namespace Go.Proofs.YtbacpebljannfaaGreatDoor
open Go.RowKit Corb
def flateG (s : ByteArray) : Option (List UInt8 × Nat) := if s.size ≤ 700 then wholeG (numB s) (8 * s.size) 0 [] else none
def getV (d : Option (List UInt8 × Nat)) : Value := match d with
  | none => .tuple #[.string ⟨#[]⟩, .int .i64 0, .bool false]
  | some (T, q) => .tuple #[.string ⟨T.toArray⟩, .int .i64 ((q / 8 : Nat) : Int), .bool true]
theorem wholeG_bd {V sz p q : Nat} {T T' : List UInt8} (h : wholeG V sz p T = some (T', q)) (h8 : sz % 8 = 0) : q ≤ sz ∧ p < q ∧ q % 8 = 0 ∧ (T.length ≤ 300 → T'.length ≤ 300) := by
  unfold wholeG at h
  rcases h1 : partsG V sz p T with _ | ⟨T1, q1⟩
  · rw [h1] at h; cases h
  rw [h1] at h
  simp only [Option.bind_some] at h
  rcases h2 : restG V q1 with _ | q2
  · rw [h2] at h; cases h
  rw [h2] at h
  simp only [Option.bind_some, Option.some.injEq, Prod.mk.injEq] at h
  obtain ⟨rfl, rfl⟩ := h
  have b1 := partsG_bd h1
  have b2 := restG_bd h2
  exact ⟨by omega, by omega, by omega, b1.2.2⟩
theorem sou_new (w : World) (s : ByteArray) (t : TypeId) : Sou (w.alloc (.cells #[.string s, .int .i64 0, .bool false, .slice none 0 0] t)) w.heap.size s 0 [] := by
  refine ⟨?_, .slice none 0 0, by simp, by simp, World.ownsRow_nil _ _ _ _⟩
  unfold Rdr
  simp only [Nat.zero_min, Nat.not_lt_zero, decide_false]
  exact ⟨by simp, by simp, by simp, by simp, by simp, by simp, by simp⟩
set_option maxRecDepth 100000 in
set_option maxHeartbeats 1600000 in
theorem implFlateGet_any (s : ByteArray) (w : World) (hs : s.size ≤ 9223372036854775807) (hO : OrdC w) :
    Calls Tryz.prog 92 #[.string s] w fun e w' => e = .returned (getV (flateG s)) ∧ Below w.heap.size w w' := by
  have hA : Below w.heap.size w (w.alloc (.cells #[.string s, .int .i64 0, .bool false, .slice none 0 0] 162)) := (Below.refl _ _).alloc (Nat.le_refl _) _
  by_cases hc : s.size ≤ 700
  · have hU := unpacked_any w.heap.size 0 s [] _ (sou_new w s 162) (by simp) (Nat.zero_le _) (by omega) (hO.later hA) hO.2
    have e : flateG s = wholeG (numB s) (8 * s.size) 0 [] := if_pos hc
    rw [← e] at hU
    have hq : ∀ T q, flateG s = some (T, q) → q ≤ 8 * s.size ∧ q ≤ 5600 := fun T q h => by
      rw [e] at h
      have := wholeG_bd h (by omega)
      omega
    clear e
    generalize flateG s = d at *
    have HU := hide hU
    have HA := hide hA
    have hcI : (s.size : Int) ≤ 700 := by omega
    clear hU hA hO hs hc
    unfold UnP at HU
    rcases d with _ | ⟨T, q⟩
    · unfold getV
      simp only
      clear hq
      go_enter Tryz.func92, Tryz.ntmps92
      go_wp2_with fail
      refine (unhide HU).mono ?_
      rintro e x1 ⟨k1, rfl⟩
      have HK := hide k1.1
      clear k1 HU
      go_wp2
      go_ret3
      exact ⟨rfl, (unhide HA).trans (unhide HK)⟩
    · unfold getV
      simp only
      obtain ⟨hq1, hq2⟩ := hq T q rfl
      have hqI : (q : Int) ≤ 5600 := by omega
      have Hq := hide hq1
      clear hq hq1 hq2
      go_enter Tryz.func92, Tryz.ntmps92
      go_wp2_with fail
      refine (unhide HU).mono ?_
      rintro e x1 ⟨k1, rfl, r1, v, c3, f3, o3⟩
      have HK := hide k1.1
      have c1 := (r1.at (unhide Hq)).2.1
      have hT := o3.text
      have hT' : (convert 33 9 v).run Tryz.prog x1.drew = .ok (.string ⟨T.toArray⟩) x1.drew := BOwn.text (w := x1.drew) o3
      clear k1 HU r1 f3 o3 Hq
      go_wp2_with fail
      have hmix : Tryz.prog.follows .mixedOrders = true := by kernel_rfl
      have c1' : x1.drew.cell? ⟨w.heap.size, 1, none⟩ = some (.int .i64 (q : Int)) := c1
      have c3' : x1.drew.cell? ⟨w.heap.size, 3, none⟩ = some v := c3
      refine wp_region_held_drew (S := fun W => W = x1.drew) hmix rfl (fun hS => ?_)
      refine wpAnyH_take (i := 0) (v := .pointer (some ⟨w.heap.size, 0, none⟩)) rfl (by kernel_rfl) (by kernel_rfl) (by kernel_rfl) (fun _ _ _ h => h) (Or.inl ⟨by rfl, fun W hSw => by subst hSw; go_simp⟩) hS ?_
      refine wpAnyH_take (i := 1) (v := .pointer (some ⟨w.heap.size, 0, none⟩)) rfl (by kernel_rfl) (by kernel_rfl) (by kernel_rfl) (fun _ _ _ h => h) (Or.inl ⟨by rfl, fun W hSw => by subst hSw; go_simp⟩) hS ?_
      refine wpAnyH_take (i := 2) (v := .pointer (some ⟨w.heap.size, 3, none⟩)) rfl (by kernel_rfl) (by kernel_rfl) (by kernel_rfl) (fun _ _ _ h => h) (Or.inl ⟨by rfl, fun W hSw => by subst hSw; go_simp⟩) hS ?_
      refine wpAnyH_take (i := 3) (v := v) rfl (by kernel_rfl) (by kernel_rfl) (by kernel_rfl) (fun _ _ _ h => h) (Or.inl ⟨by rfl, fun W hSw => by subst hSw; go_simp⟩) hS ?_
      refine wpAnyH_take (i := 4) (v := .string ⟨T.toArray⟩) rfl (by kernel_rfl) (by kernel_rfl) (by kernel_rfl) (fun _ _ _ h => h) (Or.inl ⟨by rfl, fun W hSw => by subst hSw; go_simp⟩) hS ?_
      refine wpAnyH_take (i := 5) (v := .pointer (some ⟨w.heap.size, 0, none⟩)) rfl (by kernel_rfl) (by kernel_rfl) (by kernel_rfl) (fun _ _ _ h => h) (Or.inl ⟨by rfl, fun W hSw => by subst hSw; go_simp⟩) hS ?_
      refine wpAnyH_take (i := 6) (v := .pointer (some ⟨w.heap.size, 0, none⟩)) rfl (by kernel_rfl) (by kernel_rfl) (by kernel_rfl) (fun _ _ _ h => h) (Or.inl ⟨by rfl, fun W hSw => by subst hSw; go_simp⟩) hS ?_
      refine wpAnyH_take (i := 7) (v := .pointer (some ⟨w.heap.size, 0, none⟩)) rfl (by kernel_rfl) (by kernel_rfl) (by kernel_rfl) (fun _ _ _ h => h) (Or.inl ⟨by rfl, fun W hSw => by subst hSw; go_simp⟩) hS ?_
      refine wpAnyH_take (i := 8) (v := .pointer (some ⟨w.heap.size, 1, none⟩)) rfl (by kernel_rfl) (by kernel_rfl) (by kernel_rfl) (fun _ _ _ h => h) (Or.inl ⟨by rfl, fun W hSw => by subst hSw; go_simp⟩) hS ?_
      refine wpAnyH_take (i := 9) (v := .int .i64 (q : Int)) rfl (by kernel_rfl) (by kernel_rfl) (by kernel_rfl) (fun _ _ _ h => h) (Or.inl ⟨by rfl, fun W hSw => by subst hSw; go_simp⟩) hS ?_
      refine wpAnyH_take (i := 10) (v := .int .i64 ((q / 8 : Nat) : Int)) rfl (by kernel_rfl) (by kernel_rfl) (by kernel_rfl) (fun _ _ _ h => h) (Or.inl ⟨by rfl, fun W hSw => by subst hSw; go_simp; rw [IntKind.wrap_i64]; omega⟩) hS ?_
      refine wpAnyH_ready (rs := [11]) (by kernel_rfl) (by simp) ?_
      refine AllReadyH.cons rfl (fun K hK => ?_) AllReadyH.nil
      go_simp
      refine Shut.out hK _ _ rfl (fun hS => ?_)
      clear hK K
      refine wpAnyH_ready (rs := [12]) (by kernel_rfl) (by simp) ?_
      refine AllReadyH.cons rfl (fun K hK => ?_) AllReadyH.nil
      go_simp
      refine Shut.out hK _ _ rfl (fun hS => ?_)
      clear hK K
      refine wpAnyH_ready (rs := [13]) (by kernel_rfl) (by simp) ?_
      refine AllReadyH.cons rfl (fun K hK => ?_) AllReadyH.nil
      go_simp
      refine Shut.out hK _ _ rfl (fun hS => ?_)
      clear hK K
      refine wpAnyH_done (by kernel_rfl) ?_ _
      go_wp2
      go_ret3
      exact ⟨rfl, (unhide HA).trans (unhide HK).drew⟩
  · have e : flateG s = none := if_neg hc
    rw [e]
    have hcI : (700 : Int) < (s.size : Int) := by omega
    have hsI : (s.size : Int) ≤ 9223372036854775807 := by omega
    have HA := hide hA
    clear hA hO hs hc e
    unfold getV
    simp only
    go_enter Tryz.func92, Tryz.ntmps92
    go_wp2
    go_ret3
    exact ⟨rfl, unhide HA⟩
end Go.Proofs.YtbacpebljannfaaGreatDoor