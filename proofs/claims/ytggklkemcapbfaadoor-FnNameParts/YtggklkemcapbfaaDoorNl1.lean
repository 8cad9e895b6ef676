/- The walk of the law of names. -/
import Derived.Test.YtggklkemcapbfaaDoorNk4
import Derived.Test.YtggklkemcapbfaaDoorKb1
namespace Go.Proofs.YtggklkemcapbfaaDoor
open Go.RowKit

theorem names_all (s : ByteArray) (hs : s ∈ noNames ++ okNames) : s.size ≤ 100 ∧ (nameB s.data.toList = true → (1 ≤ s.size) ∧ s.data.toList.headD 0 ≠ 47 ∧ s.data.toList.getLastD 0 ≠ 47 ∧ nameB ((⟨#[46, 46, 47]⟩ : ByteArray) ++ s).data.toList = false ∧ nameB ((⟨#[47]⟩ : ByteArray) ++ s).data.toList = false ∧ nameB (s ++ (⟨#[47, 46, 46]⟩ : ByteArray)).data.toList = false ∧ nameB (s ++ (⟨#[47]⟩ : ByteArray)).data.toList = false) := by
  simp only [noNames, okNames, List.cons_append, List.nil_append, List.mem_cons, List.not_mem_nil, or_false] at hs
  rcases hs with rfl | rfl | rfl | rfl | rfl | rfl | rfl | rfl | rfl | rfl | rfl | rfl | rfl | rfl | rfl | rfl <;> decide +kernel
theorem first_byte (s : ByteArray) (h : 0 < s.size) (k : s.data.toList.headD 0 ≠ 47) : ¬ (s[0].toNat : Int) = 47 := by
  intro e
  apply k
  obtain ⟨⟨l⟩⟩ := s
  cases l with
  | nil => exact absurd h (by simp [ByteArray.size])
  | cons b l =>
    have e' : b.toNat = 47 := by
      have : ((⟨⟨b :: l⟩⟩ : ByteArray)[0]).toNat = b.toNat := rfl
      omega
    exact UInt8.toNat_inj.1 e'
theorem last_byte (s : ByteArray) (h : 0 < s.size) (k : s.data.toList.getLastD 0 ≠ 47) : ¬ (s[s.size - 1].toNat : Int) = 47 := by
  intro e
  apply k
  have hl : s.data.toList.length = s.size := by simp
  have hlt : s.size - 1 < s.data.toList.length := by omega
  have e1 : s[s.size - 1] = s.data.toList[s.size - 1] := rfl
  have e2 : s.data.toList.getLastD 0 = s[s.size - 1] := by
    rw [e1, List.getLastD_eq_getLast?, List.getLast?_eq_getElem?, hl, List.getElem?_eq_getElem hlt]; rfl
  rw [e2]
  apply UInt8.toNat_inj.1
  show _ = 47
  omega

set_option maxHeartbeats 4000000 in
theorem fnName_walk (a : Option Addr) (len cap : Nat) (zs : List Int) (m : Int) (w : World) (w0 : IsRow .u8 w a len cap zs) (hm : w.cell? ⟨0, 0, none⟩ = some (.int .i64 m)) :
    Calls Tryd.prog 5 #[.slice a len cap] w fun e w' => e = .returned (.bool true) ∧ Below w.heap.size w w' := by
  obtain ⟨⟨z, hsrc⟩, hc, hlen⟩ := src_of w0
  have hlen' := hide hlen
  have HM := hide hm
  have hmb := hide (World.block_lt_of_cell? _ _ hm)
  have CM := hide (fun W (hb : Below w.heap.size w W) => (hb.cell (p := ⟨0, 0, none⟩) (unhide hmb)).trans (unhide HM))
  unfold maxLen at hlen
  clear w0 hm
  by_cases hl : (len : Int) ≤ 1048576
  · go_enter Tryd.func5, Tryd.ntmps5
    go_wp2_with fail
    refine (drawNameOk_any a len cap z _ hsrc hc (unhide hlen')).mono ?_
    rintro e x1 ⟨s, hs, rfl, hb1⟩
    obtain ⟨hsz, hN⟩ := names_all s hs
    have HSZ := hide hsz
    have hszI : (s.size : Int) ≤ 100 := by omega
    have B1 := hide hb1
    clear hs hsrc hsz hb1
    go_wp2_with fail
    refine (implNameOk_any s m _ (by have := unhide HSZ; omega) (unhide CM _ (unhide B1))).mono ?_
    rintro e x2 ⟨rfl, hb2⟩
    have B2 := hide (bnext (unhide B1) hb2)
    clear hb2 B1
    go_wp2_with fail
    refine (specNameOk_any s _ (by have := unhide HSZ; omega)).mono ?_
    rintro e x3 ⟨rfl, hb3⟩
    have B3 := hide (bnext (unhide B2) hb3)
    clear hb3 B2
    cases hk : nameB s.data.toList
    · go_wp2_with fail
      refine (specNameOk_any s _ (by have := unhide HSZ; omega)).mono ?_
      rintro e x4 ⟨rfl, hb4⟩
      rw [hk]
      go_wp2
      go_ret
      exact ⟨rfl, bnext (unhide B3) hb4⟩
    · obtain ⟨h1, h2, h3, n1, n2, n3, n4⟩ := hN hk
      have hp : (1 : Int) ≤ (s.size : Int) := by omega
      have f1 := first_byte s h1 h2
      have f2 := last_byte s h1 h3
      have N1 := hide n1
      have N2 := hide n2
      have N3 := hide n3
      have N4 := hide n4
      clear hN h2 h3 n1 n2 n3 n4 hk
      go_wp2_with fail
      refine (implNameOk_any _ m _ (by rw [ByteArray.size_append]; have := unhide HSZ; show 3 + s.size ≤ _; omega) (unhide CM _ (unhide B3))).mono ?_
      rintro e x4 ⟨rfl, hb⟩
      rw [unhide N1]
      have B4 := hide (bnext (unhide B3) hb)
      clear hb B3
      go_wp2_with fail
      refine (implNameOk_any _ m _ (by rw [ByteArray.size_append]; have := unhide HSZ; show 1 + s.size ≤ _; omega) (unhide CM _ (unhide B4))).mono ?_
      rintro e x5 ⟨rfl, hb⟩
      rw [unhide N2]
      have B5 := hide (bnext (unhide B4) hb)
      clear hb B4
      go_wp2_with fail
      refine (implNameOk_any _ m _ (by rw [ByteArray.size_append]; have := unhide HSZ; show s.size + 3 ≤ _; omega) (unhide CM _ (unhide B5))).mono ?_
      rintro e x6 ⟨rfl, hb⟩
      rw [unhide N3]
      have B6 := hide (bnext (unhide B5) hb)
      clear hb B5
      go_wp2_with fail
      refine (implNameOk_any _ m _ (by rw [ByteArray.size_append]; have := unhide HSZ; show s.size + 1 ≤ _; omega) (unhide CM _ (unhide B6))).mono ?_
      rintro e x7 ⟨rfl, hb⟩
      rw [unhide N4]
      have B7 := hide (bnext (unhide B6) hb)
      clear hb B6
      go_wp2
      go_ret
      exact ⟨ret_bool (by simp [f1, f2]), unhide B7⟩
  · go_enter Tryd.func5, Tryd.ntmps5
    go_wp2
    go_ret
    exact ⟨rfl, Below.refl _ _⟩

end Go.Proofs.YtggklkemcapbfaaDoor
