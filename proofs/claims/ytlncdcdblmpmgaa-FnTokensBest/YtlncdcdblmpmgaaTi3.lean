/- Contracts of the program's TokensText, TokensOk, TokensLong; the walks of their exact statements. -/
import Derived.Test.YtlncdcdblmpmgaaTi2
import Derived.Test.YtlncdcdblmpmgaaTt3
import Derived.Test.YtlncdcdblmpmgaaTk2
namespace Go.Proofs.Ytlncdcdblmpmgaa
open Go.RowKit

theorem tokV_form {t : Tk} (h : okT t = true) : ∃ i v, tokV t = .iface i v := by
  cases hB : isB t
  · have hK : isK t = true := by simpa [okT, hB] using h
    exact ⟨_, _, tokV_K hK⟩
  · exact ⟨_, _, tokV_B hB⟩
theorem textK_go {ts : List Tk} {k : Nat} {s x : List UInt8} {t : Tk} (h : textK ts k = some s) (ht : ts.getD k k0 = t) (ha : addL s t = some x) : textK ts (k + 1) = some x := by
  simp only [textK]
  rw [h, ht]
  exact ha

set_option maxHeartbeats 3200000 in
theorem implTokensText_any (a : Option Addr) (cap n : Nat) (ts : List Tk) (w : World) (hn : ts.length = n) (h : KRow w a ts) (hm : n ≤ 1048576) :
    Calls Try.prog 21 #[.slice a n cap] w fun e w' => e = .returned (.tuple #[.string ⟨(textS ts).toArray⟩, .bool (textB ts)]) ∧ Below w.heap.size w w' := by
  have hmI : (n : Int) ≤ 1048576 := by omega
  have HN := hide (And.intro hn hm)
  clear hn hm
  go_enter Try.func21, Try.ntmps21
  go_wp2_with fail
  go_loopw [4, 6, 7, 8, 11] (fun v _ _ _ i wr => ∃ (k : Nat) (s : List UInt8), k ≤ n ∧ i = .int .i64 k ∧ textK ts k = some s ∧ BOwn wr w.heap.size v s ∧ Below w.heap.size w wr) (fun _ _ _ _ i _ => n - (intOf i).toNat)
  case atStart => exact ⟨0, [], Nat.zero_le _, rfl, rfl, BOwn.nil _ _, Below.refl _ _⟩
  case round =>
    obtain ⟨k, s, hk, rfl, hs, hq, hbel⟩ := hrel
    have hsl := textK_len hs
    have HS := hide (And.intro hs hk)
    by_cases hlt : k < n
    · obtain ⟨g, o, rfl, hg, hc⟩ := (h.later hbel) (by rw [(unhide HN).1]; omega)
      obtain ⟨c0, c1, c2⟩ := hc k (by rw [(unhide HN).1]; exact hlt)
      obtain ⟨va, vc, rfl⟩ := hq.form
      generalize ht : ts.getD k k0 = t at *
      have HT := hide ht
      have HQ := hide (And.intro hq (And.intro hbel hsl))
      have hno : Hid (addL s t = none → textS ts = [] ∧ textB ts = false) := fun ha => textS_no (textK_fall (unhide HS).1 (unhide HT) (by rw [(unhide HN).1]; exact hlt) ha)
      have HO := hide (fun W => lzOf_any t W)
      cases hok : okT t
      · obtain ⟨e1, e2⟩ := unhide hno (addL_bad hok)
        rw [hok] at HO
        have hv : tokV t = Value.nilIface := by
          have hB : isB t = false := by cases h : isB t <;> simp [okT, h] at hok ⊢
          have hK : isK t = false := by simpa [okT, hB] using hok
          unfold tokV; rw [hB, hK]; rfl
        rw [hv] at HO
        have HE := hide (And.intro e1 e2)
        clear hc hs hk hq hbel ht hsl hno e1 e2 hok hv
        obtain ⟨x, y, z⟩ := t
        simp only at c0 c1 c2 HO
        go_wp2_with fail
        refine (unhide HO _).mono ?_
        rintro e x1 ⟨rfl, hb1⟩
        go_wp2
        go_ret2
        rw [(unhide HE).1, (unhide HE).2]
        exact ⟨rfl, bnext ((unhide HQ).2.1.alloc (unhide HQ).2.1.size _) hb1⟩
      · rw [hok] at HO
        obtain ⟨i, iv, hiv⟩ := tokV_form hok
        have HLay := hide (fun (W : World) (hW : Below wr.heap.size wr W) => lzLay_any w.heap.size s.length vc va s t W rfl (hq.later hW (Nat.le_refl _)) (by omega) (Nat.le_trans hbel.size hW.size) hok)
        rw [hiv] at HO HLay
        clear hc hs hk hq hbel ht hsl hok hiv
        obtain ⟨x, y, z⟩ := t
        simp only at c0 c1 c2 HO
        go_wp2_with fail
        refine (unhide HO _).mono ?_
        rintro e x1 ⟨rfl, hb1⟩
        have hb1' : Below wr.heap.size wr x1 := bnext ((Below.refl _ _).alloc (Nat.le_refl _) _) hb1
        go_wp2_with fail
        refine (unhide HLay x1 hb1').mono ?_
        rintro e x2 ⟨v, rfl, hq2, hb2⟩
        have hbel2 : Below w.heap.size w x2 := (bnext (unhide HQ).2.1 hb1').trans hb2
        obtain ⟨ra, rc, rfl⟩ := hq2.form
        cases ha : addL s (x, y, z) with
        | none =>
          obtain ⟨e1, e2⟩ := unhide hno ha
          have HE := hide (And.intro e1 e2)
          clear hno e1 e2 HLay
          go_wp2
          go_ret2
          rw [(unhide HE).1, (unhide HE).2]
          exact ⟨rfl, hbel2⟩
        | some r =>
          have hst : Hid (textK ts (k + 1) = some r) := textK_go (unhide HS).1 (unhide HT) ha
          rw [ha] at hq2
          clear hno HLay
          go_wp2
          go_roundw
          case rel => exact ⟨k + 1, r, by have := (unhide HS).2; omega, by go_num, unhide hst, hq2, hbel2⟩
          case measure => simp [intOf]; omega
    · have hy : Hid (textT ts = some s) := by
        show textT ts = some s
        unfold textT
        have := (unhide HN).1
        rw [show ts.length = k by omega]
        exact hs
      have hcv := hq.text
      obtain ⟨va, vc, rfl⟩ := hq.form
      clear h
      go_wp2
      go_ret2
      rw [(textS_yes (unhide hy)).1, (textS_yes (unhide hy)).2]
      exact ⟨rfl, hbel⟩

theorem implTokensOk_any (a : Option Addr) (cap n : Nat) (ts : List Tk) (w : World) (hn : ts.length = n) (h : KRow w a ts) (hm : n ≤ 1048576) :
    Calls Try.prog 18 #[.slice a n cap] w fun e w' => e = .returned (.bool (textB ts)) ∧ Below w.heap.size w w' := by
  have HL := hide (implTokensText_any a cap n ts w hn h hm)
  clear hn h hm
  go_enter Try.func18, Try.ntmps18
  go_wp2_with fail
  refine (unhide HL).mono ?_
  rintro e x1 ⟨rfl, hb⟩
  go_wp2
  go_ret
  exact ⟨rfl, hb⟩
theorem implTokensLong_any (a : Option Addr) (cap n : Nat) (ts : List Tk) (w : World) (hn : ts.length = n) (h : KRow w a ts) (hm : n ≤ 1048576) :
    Calls Try.prog 23 #[.slice a n cap] w fun e w' => e = .returned (.int .i64 (textN ts)) ∧ Below w.heap.size w w' := by
  have HL := hide (implTokensText_any a cap n ts w hn h hm)
  clear hn h hm
  cases hB : textB ts
  · have hN : Hid (textN ts = -1) := by show textN ts = -1; unfold textN; rw [hB]; rfl
    rw [hB] at HL
    go_enter Try.func23, Try.ntmps23
    go_wp2_with fail
    refine (unhide HL).mono ?_
    rintro e x1 ⟨rfl, hb⟩
    go_wp2
    go_ret
    exact ⟨ret_int (unhide hN).symm, hb⟩
  · have hN : Hid (textN ts = ((textS ts).length : Int)) := by show textN ts = _; unfold textN; rw [hB]; rfl
    rw [hB] at HL
    go_enter Try.func23, Try.ntmps23
    go_wp2_with fail
    refine (unhide HL).mono ?_
    rintro e x1 ⟨rfl, hb⟩
    go_wp2
    go_ret
    exact ⟨ret_int (by rw [unhide hN]), hb⟩

end Go.Proofs.Ytlncdcdblmpmgaa
