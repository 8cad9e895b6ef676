/- Of what the proof is made: 3 texts, one behind the other. -/
import Derived.RangeFuncNested
import Derived.RangeFuncBound
import Derived.RangeFuncCalls
import Derived.RangeFuncLeaves
import Derived.RangeFuncBox
import Derived.Shelf.Abstract
import Derived.Shelf.RegionOpen
import Derived.WalkKit
import Derived.OwnWalkIn
import Derived.TacticsInMore
import Derived.LoopNIn
import Derived.LoopIn
import Derived.Maps.AppendAt
import Derived.Test.YtgpghapnmalipaaGreatDoorTo3
namespace Go.Proofs.YtgpghapnmalipaaGreatDoor
open Go.RowKit Go.Shelf
attribute [local go_sem] Oper.semAt_some
theorem grown_none {w w' : World} (h : Below w.heap.size w w') : w.grownBy w' none := ⟨h.os, h.tape, h.output, h.size, fun k hk _ => h.block k hk⟩
def KeepB (b : Nat) (t : TypeId) (v : Value) (W W' : World) : Prop := Boxed W b t v → Boxed W' b t v
theorem Boxed.later {W W' : World} {B : Nat} {t : TypeId} {v : Value} (h : Boxed W B t v) (hb : Below W.heap.size W W') : Boxed W' B t v := h.kept (grown_none hb) (by simp)
theorem tok_cases (L : List UInt8) (p : Nat) : (∃ x : Int, tokV (tokP L p) = .iface 172 (.int .u8 x) ∧ sizP L p = 1) ∨ (∃ y z : Int, tokV (tokP L p) = .iface 174 (.agg #[.int .i64 y, .int .i64 z]) ∧ (sizP L p : Int) = y) := by
  have hok := tokP_ok L p
  unfold sizP
  by_cases hc : (bestF L p (min p 250)).1 < 3
  · left
    have e : tokP L p = (((L.getD p 0).toNat : Int), 0, 0) := by unfold tokP; rw [if_pos hc]
    rw [e, if_pos hc]
    refine ⟨_, tokV_B ?_, rfl⟩
    have := UInt8.toNat_lt (L.getD p 0)
    generalize L.getD p 0 = c at *
    simp only [isB, inB]
    simp
    omega
  · right
    have e : tokP L p = (0, ((bestF L p (min p 250)).1 : Int), ((bestF L p (min p 250)).2 : Int)) := by unfold tokP; rw [if_neg hc]
    rw [e, if_neg hc]
    rw [e] at hok
    refine ⟨_, _, tokV_K ?_, rfl⟩
    simp only [okT, isB, isK, inB] at hok ⊢
    simp at hok ⊢
    omega
theorem lzTokens_any (s : ByteArray) (w : World) :
    Calls Tryz.prog 99 #[.string s] w fun e w' => e = .returned (.func (.func 134) #[] #[.pointer (some ⟨w.heap.size, 0, none⟩)]) ∧ w' = w.alloc (.cells #[.string s] 9) := by
  go_enter Tryz.func99, Tryz.ntmps99
  go_wp2
  go_ret
  exact ⟨rfl, rfl⟩
end Go.Proofs.YtgpghapnmalipaaGreatDoor
namespace Go.Proofs.YtgpghapnmalipaaGreatDoor
open Go.RowKit Go.Shelf
attribute [local go_sem] Oper.semAt_some
theorem keepB_t {b : Nat} {t : TypeId} {v : Value} {A B C : World} (h : KeepB b t v A B) (k : KeepB b t v B C) : KeepB b t v A C := fun x => k (h x)
theorem keepB_b {b : Nat} {t : TypeId} {v : Value} (W : World) (l : Nat) (o o' : Obj) (hl : W.heap[l]? = some o) (ho : o.isCells = false) : KeepB b t v W (W.putObj l o') := by
  intro h
  refine h.kept (grownBy_putObj' W l o') ?_
  intro e
  cases e
  rw [show W.heap[b]? = _ from h] at hl
  cases hl
  cases ho
theorem row_later {W x1 : World} {n₀ : Nat} {e : TypeId} {size k : Nat} {v : Value} {xs : List Value} (hrow : W.ownsRow n₀ e size v k xs) (hW : Below W.heap.size W x1) : x1.ownsRow n₀ e size v k xs :=
  hrow.kept (grown_none hW) (by cases v.ownBlock with
    | none => exact .inl rfl
    | some _ => exact .inr (by simp))
theorem step_append_own_in {F : Fence} {n : Nat} {P : Program} {ops : Array Oper} {o : Oper} {a : Act} {w : World} {K : Act → World → Prop} {Q : Exit → Act → World → Prop} {E : Prop}
    (hg : o.guard = none) (s x : Operand) (t : TypeId) (hop : o.op = Op.call { callee := Callee.builtin Builtin.append, args := #[s, x], argTypes := #[t, t] })
    (base : Nat) (e : TypeId) (i : TypeInfo) (z : Value) (size bytes : Nat) (h1 : P.underlying t = some (.slice e)) (h2 : P.info? e = some i) (h3 : i.zero = some z) (h4 : i.size = size) (h5 : i.bytes = bytes) (h6 : z.cells.size = size) (h7 : 0 < size)
    (v : Value) (k : Nat) (xs : List Value) (hs : a.eval s = v) (hown : w.ownsRow base e size v k xs) (ad : Addr) (m c : Nat) (news : List Value) (hx : a.eval x = .slice (some ad) m c) (hn : news.length = m * size)
    (hc : ∀ j u, news[j]? = some u → w.cell? (ad.add j) = some u) (h1c : ∀ u ∈ news, u.oneCell' = true) (b1 : k + m ≤ maxLen) (b2 : (k + m) * bytes ≤ 140737488355328) (b3 : base ≤ w.heap.size)
    (hK : ∀ v' w', w'.ownsRow base e size v' (k + m) (xs ++ news) → w.grownBy w' v.ownBlock → (v' = .slice none 0 0 ↔ v = .slice none 0 0 ∧ m = 0) → K (a.put o.dst v') w') :
    if Region.wanted o (yielded ops a.tmps) = true then Oper.wpIn F n P o a w K Q else E := by
  have hw : Region.wanted o (yielded ops a.tmps) = true := by simp [Region.wanted, hg]
  rw [if_pos hw]
  obtain ⟨v', w', hrun, r1, r2, r3⟩ := run_append_own (P := P) w base t o.type e i z size bytes h1 h2 h3 h4 h5 h6 h7 v k xs hown ad m c news hn hc h1c b1 b2 b3
  unfold Oper.wpIn
  refine ⟨?_, ?_⟩
  · simp [Oper.about, hop, resolve, Target.leads, Sem.run_pure]
  · rw [Oper.semAt_plain F _ _ (by rw [hop]; intro c hc'; cases hc')]
    simp [execOp, hop, resolve, invoke, builtin, hs, hx, hrun, Result.andThen]
    exact hK v' w' r1 r2 r3
end Go.Proofs.YtgpghapnmalipaaGreatDoor
namespace Go.Proofs.YtgpghapnmalipaaGreatDoor
open Go.RowKit Go.Shelf
attribute [local go_sem] Oper.semAt_some
abbrev TkS (s : ByteArray) := { t : Tk // okT t = true ∧ t ∈ toksP s.data.toList 0 }
set_option maxRecDepth 100000 in
set_option maxHeartbeats 6400000 in
theorem toksS_in (n : Nat) (hn : 1 ≤ n) (l Bn : Nat) (s : ByteArray) (hs : s.size ≤ 100000) (J Jx : List (TkS s) → World → Prop) (W : World) (hJ : AbidesFrom W.heap.size J)
    (hY : ∀ pre x W1, J pre W1 → pre.length < s.size → YieldAt Fence.wide (n - 1) Tryz.prog l #[tokV x.1] W1 fun e W' =>
      (e = .returned (.bool true) ∧ J (pre ++ [x]) W' ∧ KeepB Bn 9 (.string s) W1 W') ∨ (e = .returned (.bool false) ∧ Jx (pre ++ [x]) W'))
    (hBn : Boxed W Bn 9 (.string s)) (h0 : J [] W) :
    CallsIn Fence.wide n Tryz.prog 134 #[.func (.yield l) #[] #[], .pointer (some ⟨Bn, 0, none⟩)] W fun e W' => (∃ v, e = .returned v) ∧
      ((∃ ys, ys.map Subtype.val = toksP s.data.toList 0 ∧ J ys W') ∨ (∃ pre, True ∧ Jx pre W')) := by
  have hsI : (s.size : Int) ≤ 100000 := by omega
  have HS := hide hs
  have hL := hide (str_len s)
  have m1 := methByte
  have m2 := methBack
  clear hs
  refine callsIn_of_wp Tryz.func134 rfl trivial ?_ rfl
  simp only [Tryz.ntmps134, List.size_toArray, List.length_cons, List.length_nil, Nat.reduceAdd, Nat.reduceSub, Array.replicate_succ, Array.replicate_zero, List.push_toArray, List.append_toArray, List.nil_append, List.cons_append]
  gi_wp2
  gi_loopw [3, 4] (fun i _ wr => ∃ (p : Nat) (pre : List (TkS s)), p ≤ s.size ∧ i = .int .i64 p ∧ pre.map Subtype.val ++ toksP s.data.toList p = toksP s.data.toList 0 ∧ pre.length ≤ p ∧ J pre wr ∧ Boxed wr Bn 9 (.string s)) (fun i _ _ => s.size - (intOf i).toNat)
  case atStart => exact ⟨0, [], Nat.zero_le _, rfl, rfl, Nat.le_refl _, h0, hBn⟩
  case round =>
    obtain ⟨p, pre, hp, rfl, hpre, hpl, hJs, hbx⟩ := hrel
    have hc := hbx.cell
    by_cases hlt : p < s.size
    · have hltI : (p : Int) < (s.size : Int) := by omega
      have hst := hide (toksP_step (L := s.data.toList) (p := p) (by rw [unhide hL]; exact hlt))
      have hsi := hide (sizP_in (L := s.data.toList) (p := p) (by rw [unhide hL]; exact hlt))
      have hsp := hide (sizP_pos s.data.toList p)
      have HB := hide (fun W1 => lzBest_any s p W1 (unhide HS) hlt)
      have hok := hide (tokP_ok s.data.toList p)
      have hmem : Hid (tokP s.data.toList p ∈ toksP s.data.toList 0) := by
        show _ ∈ _
        rw [← hpre, unhide hst]
        simp
      have HP := hide (And.intro hpre (And.intro hpl hp))
      have HJ := hide hJs
      have HX := hide hbx
      clear hpre hpl hp hJs hbx
      rcases tok_cases s.data.toList p with ⟨x, ex, hz⟩ | ⟨y, z, ex, hz⟩
      · have EX := hide (And.intro ex hz)
        rw [ex] at HB
        clear ex hz
        gi_wp2_with (refine ⟨trivial, ?_⟩; gi_at_call 135; refine (callsIn_wide.2 (unhide HB _)).mono ?_; rintro e x1 ⟨rfl, hb1⟩; have hc1 := (Boxed.later (unhide HX) hb1).cell; obtain ⟨fn, tmps, assign, body, hy, hR⟩ := hY pre ⟨tokP s.data.toList p, unhide hok, unhide hmem⟩ x1 (hJ _ _ _ none (unhide HJ) (grown_none hb1) (fun r e => by cases e)) (by have := (unhide HP).2.1; omega); simp only [(unhide EX).1] at hy)
        refine hR.mono ?_
        rintro e W3 (⟨rfl, hJ3, hk3⟩ | ⟨rfl, hJx3⟩)
        · have HX3 : Boxed W3 Bn 9 (.string s) := hk3 (Boxed.later (unhide HX) hb1)
          gi_wp2_with (refine ⟨trivial, ?_⟩; gi_at_call 222; refine (callsIn_wide.2 (byteSize_any x _)).mono ?_; rintro e y1 ⟨rfl, hy1⟩; rw [hy1]; clear hy1 y1)
          go_roundw
          case rel =>
            have h1 := unhide hsi
            have h2 := (unhide EX).2
            obtain ⟨h3, h4, h5⟩ := unhide HP
            rw [h2, unhide hL] at h1
            refine ⟨p + 1, pre ++ [⟨tokP s.data.toList p, unhide hok, unhide hmem⟩], h1, by go_num, ?_, by have := unhide hsp; rw [List.length_append, List.length_singleton]; omega, hJ3, HX3⟩
            have h8 := unhide hst
            rw [h2] at h8
            refine Eq.trans ?_ h3
            rw [h8, List.map_append, List.append_assoc]
            rfl
          case measure => have h6 := unhide hsp; have h7 := (unhide EX).2; simp [intOf]; omega
        · gi_wp2
          refine bodyPost_ret (results_none rfl _ _ _) rfl ?_
          exact ⟨⟨_, rfl⟩, .inr ⟨_, trivial, hJx3⟩⟩
      · obtain ⟨q, hq⟩ : ∃ q, sizP s.data.toList p = q := ⟨_, rfl⟩
        have hyq : y = (q : Int) := by rw [← hz, hq]
        subst hyq
        have hq6 : (q : Int) ≤ 60 := by have := (unhide hsp).2; omega
        have EX := hide (And.intro ex hq)
        rw [ex] at HB
        clear ex hz hq
        gi_wp2_with (refine ⟨trivial, ?_⟩; gi_at_call 135; refine (callsIn_wide.2 (unhide HB _)).mono ?_; rintro e x1 ⟨rfl, hb1⟩; have hc1 := (Boxed.later (unhide HX) hb1).cell; obtain ⟨fn, tmps, assign, body, hy, hR⟩ := hY pre ⟨tokP s.data.toList p, unhide hok, unhide hmem⟩ x1 (hJ _ _ _ none (unhide HJ) (grown_none hb1) (fun r e => by cases e)) (by have := (unhide HP).2.1; omega); simp only [(unhide EX).1] at hy)
        refine hR.mono ?_
        rintro e W3 (⟨rfl, hJ3, hk3⟩ | ⟨rfl, hJx3⟩)
        · have HX3 : Boxed W3 Bn 9 (.string s) := hk3 (Boxed.later (unhide HX) hb1)
          gi_wp2_with (refine ⟨trivial, ?_⟩; gi_at_call 223; refine (callsIn_wide.2 (backSize_any _ z _)).mono ?_; rintro e y1 ⟨rfl, hy1⟩; rw [hy1]; clear hy1 y1)
          go_roundw
          case rel =>
            have h1 := unhide hsi
            have h2 := (unhide EX).2
            obtain ⟨h3, h4, h5⟩ := unhide HP
            rw [h2, unhide hL] at h1
            refine ⟨p + q, pre ++ [⟨tokP s.data.toList p, unhide hok, unhide hmem⟩], h1, by go_num, ?_, by have := unhide hsp; rw [List.length_append, List.length_singleton]; omega, (hJ _ _ _ none hJ3 (grown_none ((Below.refl _ _).alloc (Nat.le_refl _) _)) (fun r e => by cases e)), (Boxed.alloc HX3 _)⟩
            have h8 := unhide hst
            rw [h2] at h8
            refine Eq.trans ?_ h3
            rw [h8, List.map_append, List.append_assoc]
            rfl
          case measure => have h6 := unhide hsp; have h7 := (unhide EX).2; simp [intOf]; omega
        · gi_wp2
          refine bodyPost_ret (results_none rfl _ _ _) rfl ?_
          exact ⟨⟨_, rfl⟩, .inr ⟨_, trivial, hJx3⟩⟩
    · have hltI : ¬ (p : Int) < (s.size : Int) := by omega
      have e0 : toksP s.data.toList p = [] := toksP_end (by rw [unhide hL]; exact hlt)
      rw [e0, List.append_nil] at hpre
      have HD := hide hpre
      clear hpre e0
      gi_wp2
      go_end0
      exact ⟨⟨_, rfl⟩, .inl ⟨pre, unhide HD, hJs⟩⟩
theorem toksS_stops (n : Nat) (hn : 1 ≤ n) (Bn : Nat) (s : ByteArray) (hs : s.size ≤ 100000) (w : World) (hBn : Boxed w Bn 9 (.string s)) :
    SeqStopsK Fence.wide n Tryz.prog 134 #[.pointer (some ⟨Bn, 0, none⟩)] (fun x : TkS s => #[tokV x.1]) (KeepB Bn 9 (.string s)) (fun ys => ys.map Subtype.val = toksP s.data.toList 0) (fun _ => True) s.size w := fun l J Jx W hW hJ _ hY h0 =>
  toksS_in n hn l Bn s hs J Jx W hJ hY (Boxed.later hBn hW) h0
end Go.Proofs.YtgpghapnmalipaaGreatDoor
