/- Contracts of the program's iterator over the tokens of a text, over this seat's program. -/
import Derived.RangeFuncNested
import Derived.RangeFuncBound
import Derived.RangeFuncCalls
import Derived.RangeFuncLeaves
import Derived.RangeFuncBox
import Derived.Shelf.Abstract
import Derived.Shelf.RegionOpen
import Derived.WalkKit
import Derived.OwnWalkIn
import Derived.TacticsInMore
import Derived.LoopNIn
import Derived.LoopIn
import Derived.Maps.AppendAt
import Derived.Test.YtlncdcdblmpmgaaTo3
namespace Go.Proofs.Ytlncdcdblmpmgaa
open Go.RowKit Go.Shelf
attribute [local go_sem] Oper.semAt_some

/-- A token that is one. -/
abbrev TkO := { t : Tk // okT t = true }
theorem grown_none {w w' : World} (h : Below w.heap.size w w') : w.grownBy w' none := ⟨h.os, h.tape, h.output, h.size, fun k hk _ => h.block k hk⟩
/-- What every round keeps: the box of the text. -/
def KeepB (b : Nat) (t : TypeId) (v : Value) (W W' : World) : Prop := Boxed W b t v → Boxed W' b t v
theorem Boxed.later {W W' : World} {B : Nat} {t : TypeId} {v : Value} (h : Boxed W B t v) (hb : Below W.heap.size W W') : Boxed W' B t v := h.kept (grown_none hb) (by simp)
theorem tok_cases (L : List UInt8) (p : Nat) : (∃ x : Int, tokV (tokP L p) = .iface 60 (.int .u8 x) ∧ sizP L p = 1) ∨ (∃ y z : Int, tokV (tokP L p) = .iface 62 (.agg #[.int .i64 y, .int .i64 z]) ∧ (sizP L p : Int) = y) := by
  have hok := tokP_ok L p
  unfold sizP
  by_cases hc : (bestF L p (min p 250)).1 < 3
  · left
    have e : tokP L p = (((L.getD p 0).toNat : Int), 0, 0) := by unfold tokP; rw [if_pos hc]
    rw [e, if_pos hc]
    refine ⟨_, tokV_B ?_, rfl⟩
    have := UInt8.toNat_lt (L.getD p 0)
    generalize L.getD p 0 = c at *
    simp only [isB, inB]
    simp
    omega
  · right
    have e : tokP L p = (0, ((bestF L p (min p 250)).1 : Int), ((bestF L p (min p 250)).2 : Int)) := by unfold tokP; rw [if_neg hc]
    rw [e, if_neg hc]
    rw [e] at hok
    refine ⟨_, _, tokV_K ?_, rfl⟩
    simp only [okT, isB, isK, inB] at hok ⊢
    simp at hok ⊢
    omega

set_option maxHeartbeats 3200000 in
theorem lzTold_any (t : Tk) (w : World) (h : okT t = true) :
    Calls Try.prog 38 #[tokV t] w fun e w' => e = .returned (.agg #[.int .i64 t.1, .int .i64 t.2.1, .int .i64 t.2.2]) ∧ Below w.heap.size w w' := by
  cases hB : isB t
  · have hK : isK t = true := by simpa [okT, hB] using h
    rw [tokV_K hK]
    have t1 := asByte_no
    have t2 := asBack_yes
    obtain ⟨x, y, z⟩ := t
    simp only [isK, Bool.and_eq_true, decide_eq_true_eq] at hK
    obtain ⟨⟨x0, hy⟩, hz⟩ := hK
    simp only at x0 ⊢
    subst x0
    clear hB hy hz h
    go_enter Try.func38, Try.ntmps38
    go_wp2
    refine bodyPost_ret (v := .agg #[.int .i64 0, .int .i64 y, .int .i64 z]) (by simp [results, Try.results38, go_sem]) rfl ⟨rfl, ((Below.refl _ w).alloc (Nat.le_refl _) _).alloc (by simp) _⟩
  · rw [tokV_B hB]
    have t1 := asByte_yes
    obtain ⟨x, y, z⟩ := t
    simp only [isB, Bool.and_eq_true, decide_eq_true_eq] at hB
    obtain ⟨y0, hx, z0⟩ := hB
    obtain ⟨x1, x2⟩ := inB_true.1 hx
    simp only at y0 z0 x1 x2 ⊢
    subst y0 z0
    clear hx h
    go_enter Try.func38, Try.ntmps38
    go_wp2
    refine bodyPost_ret (v := .agg #[.int .i64 x, .int .i64 0, .int .i64 0]) (by simp [results, Try.results38, go_sem]) rfl ⟨rfl, (Below.refl _ w).alloc (Nat.le_refl _) _⟩

theorem lzTokens_any (s : ByteArray) (w : World) :
    Calls Try.prog 37 #[.string s] w fun e w' => e = .returned (.func (.func 44) #[] #[.pointer (some ⟨w.heap.size, 0, none⟩)]) ∧ w' = w.alloc (.cells #[.string s] 9) := by
  go_enter Try.func37, Try.ntmps37
  go_wp2
  go_ret
  exact ⟨rfl, rfl⟩

set_option maxRecDepth 100000 in
set_option maxHeartbeats 6400000 in
theorem toks_in (n : Nat) (hn : 1 ≤ n) (l Bn : Nat) (s : ByteArray) (hs : s.size ≤ 100000) (J Jx : List TkO → World → Prop) (W : World) (hJ : AbidesFrom W.heap.size J)
    (hY : ∀ pre x W1, J pre W1 → pre.length < s.size → YieldAt Fence.wide (n - 1) Try.prog l #[tokV x.1] W1 fun e W' =>
      (e = .returned (.bool true) ∧ J (pre ++ [x]) W' ∧ KeepB Bn 9 (.string s) W1 W') ∨ (e = .returned (.bool false) ∧ Jx (pre ++ [x]) W'))
    (hBn : Boxed W Bn 9 (.string s)) (h0 : J [] W) :
    CallsIn Fence.wide n Try.prog 44 #[.func (.yield l) #[] #[], .pointer (some ⟨Bn, 0, none⟩)] W fun e W' => (∃ v, e = .returned v) ∧
      ((∃ ys, ys.map Subtype.val = toksP s.data.toList 0 ∧ J ys W') ∨ (∃ pre, True ∧ Jx pre W')) := by
  have hsI : (s.size : Int) ≤ 100000 := by omega
  have HS := hide hs
  have hL := hide (str_len s)
  have m1 := methByte
  have m2 := methBack
  clear hs
  refine callsIn_of_wp Try.func44 rfl trivial ?_ rfl
  simp only [Try.ntmps44, List.size_toArray, List.length_cons, List.length_nil, Nat.reduceAdd, Nat.reduceSub, Array.replicate_succ, Array.replicate_zero, List.push_toArray, List.append_toArray, List.nil_append, List.cons_append]
  gi_wp2
  gi_loopw [3, 4] (fun i _ wr => ∃ (p : Nat) (pre : List TkO), p ≤ s.size ∧ i = .int .i64 p ∧ pre.map Subtype.val ++ toksP s.data.toList p = toksP s.data.toList 0 ∧ pre.length ≤ p ∧ J pre wr ∧ Boxed wr Bn 9 (.string s)) (fun i _ _ => s.size - (intOf i).toNat)
  case atStart => exact ⟨0, [], Nat.zero_le _, rfl, rfl, Nat.le_refl _, h0, hBn⟩
  case round =>
    obtain ⟨p, pre, hp, rfl, hpre, hpl, hJs, hbx⟩ := hrel
    have hc := hbx.cell
    by_cases hlt : p < s.size
    · have hltI : (p : Int) < (s.size : Int) := by omega
      have hst := hide (toksP_step (L := s.data.toList) (p := p) (by rw [unhide hL]; exact hlt))
      have hsi := hide (sizP_in (L := s.data.toList) (p := p) (by rw [unhide hL]; exact hlt))
      have hsp := hide (sizP_pos s.data.toList p)
      have HB := hide (fun W1 => lzBest_any s p W1 (unhide HS) hlt)
      have hok := hide (tokP_ok s.data.toList p)
      have HP := hide (And.intro hpre (And.intro hpl hp))
      have HJ := hide hJs
      have HX := hide hbx
      clear hpre hpl hp hJs hbx
      rcases tok_cases s.data.toList p with ⟨x, ex, hz⟩ | ⟨y, z, ex, hz⟩
      · have EX := hide (And.intro ex hz)
        rw [ex] at HB
        clear ex hz
        gi_wp2_with (refine ⟨trivial, ?_⟩; gi_at_call 45; refine (callsIn_wide.2 (unhide HB _)).mono ?_; rintro e x1 ⟨rfl, hb1⟩; have hc1 := (Boxed.later (unhide HX) hb1).cell; obtain ⟨fn, tmps, assign, body, hy, hR⟩ := hY pre ⟨tokP s.data.toList p, unhide hok⟩ x1 (hJ _ _ _ none (unhide HJ) (grown_none hb1) (fun r e => by cases e)) (by have := (unhide HP).2.1; omega); simp only [(unhide EX).1] at hy)
        refine hR.mono ?_
        rintro e W3 (⟨rfl, hJ3, hk3⟩ | ⟨rfl, hJx3⟩)
        · have HX3 : Boxed W3 Bn 9 (.string s) := hk3 (Boxed.later (unhide HX) hb1)
          gi_wp2_with (refine ⟨trivial, ?_⟩; gi_at_call 68; refine (callsIn_wide.2 (byteSize_any x _)).mono ?_; rintro e y1 ⟨rfl, hy1⟩; rw [hy1]; clear hy1 y1)
          go_roundw
          case rel =>
            have h1 := unhide hsi
            have h2 := (unhide EX).2
            obtain ⟨h3, h4, h5⟩ := unhide HP
            rw [h2, unhide hL] at h1
            refine ⟨p + 1, pre ++ [⟨tokP s.data.toList p, unhide hok⟩], h1, by go_num, ?_, by have := unhide hsp; rw [List.length_append, List.length_singleton]; omega, hJ3, HX3⟩
            rw [← h3, unhide hst, h2]
            simp
          case measure => have h6 := unhide hsp; have h7 := (unhide EX).2; simp [intOf]; omega
        · gi_wp2
          refine bodyPost_ret (results_none rfl _ _ _) rfl ?_
          exact ⟨⟨_, rfl⟩, .inr ⟨_, trivial, hJx3⟩⟩
      · obtain ⟨q, hq⟩ : ∃ q, sizP s.data.toList p = q := ⟨_, rfl⟩
        have hyq : y = (q : Int) := by rw [← hz, hq]
        subst hyq
        have hq6 : (q : Int) ≤ 60 := by have := (unhide hsp).2; omega
        have EX := hide (And.intro ex hq)
        rw [ex] at HB
        clear ex hz hq
        gi_wp2_with (refine ⟨trivial, ?_⟩; gi_at_call 45; refine (callsIn_wide.2 (unhide HB _)).mono ?_; rintro e x1 ⟨rfl, hb1⟩; have hc1 := (Boxed.later (unhide HX) hb1).cell; obtain ⟨fn, tmps, assign, body, hy, hR⟩ := hY pre ⟨tokP s.data.toList p, unhide hok⟩ x1 (hJ _ _ _ none (unhide HJ) (grown_none hb1) (fun r e => by cases e)) (by have := (unhide HP).2.1; omega); simp only [(unhide EX).1] at hy)
        refine hR.mono ?_
        rintro e W3 (⟨rfl, hJ3, hk3⟩ | ⟨rfl, hJx3⟩)
        · have HX3 : Boxed W3 Bn 9 (.string s) := hk3 (Boxed.later (unhide HX) hb1)
          gi_wp2_with (refine ⟨trivial, ?_⟩; gi_at_call 69; refine (callsIn_wide.2 (backSize_any _ z _)).mono ?_; rintro e y1 ⟨rfl, hy1⟩; rw [hy1]; clear hy1 y1)
          go_roundw
          case rel =>
            have h1 := unhide hsi
            have h2 := (unhide EX).2
            obtain ⟨h3, h4, h5⟩ := unhide HP
            rw [h2, unhide hL] at h1
            refine ⟨p + q, pre ++ [⟨tokP s.data.toList p, unhide hok⟩], h1, by go_num, ?_, by have := unhide hsp; rw [List.length_append, List.length_singleton]; omega, (hJ _ _ _ none hJ3 (grown_none ((Below.refl _ _).alloc (Nat.le_refl _) _)) (fun r e => by cases e)), (Boxed.alloc HX3 _)⟩
            rw [← h3, unhide hst, h2]
            simp
          case measure => have h6 := unhide hsp; have h7 := (unhide EX).2; simp [intOf]; omega
        · gi_wp2
          refine bodyPost_ret (results_none rfl _ _ _) rfl ?_
          exact ⟨⟨_, rfl⟩, .inr ⟨_, trivial, hJx3⟩⟩
    · have hltI : ¬ (p : Int) < (s.size : Int) := by omega
      have e0 : toksP s.data.toList p = [] := toksP_end (by rw [unhide hL]; exact hlt)
      rw [e0, List.append_nil] at hpre
      have HD := hide hpre
      clear hpre e0
      gi_wp2
      go_end0
      exact ⟨⟨_, rfl⟩, .inl ⟨pre, unhide HD, hJs⟩⟩

end Go.Proofs.Ytlncdcdblmpmgaa
