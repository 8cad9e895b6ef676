/- The walk of the statement: tokens of a text that is one byte many times are few. -/
import Derived.Test.YtlncdcdblmpmgaaTw1
import Derived.Test.YtlncdcdblmpmgaaBo1
namespace Go.Proofs.Ytlncdcdblmpmgaa
open Go.RowKit

theorem many_at (n i : Nat) (c : UInt8) (h : i < n) : (List.replicate n c).getD i 0 = c := by
  rw [List.getD_eq_getElem?_getD, List.getElem?_replicate, if_pos h]; rfl
theorem many_ag (n p : Nat) (c : UInt8) (hp : 1 ≤ p) : ∀ f k, p + k ≤ n → min (k + f) (n - p) ≤ agF (List.replicate n c) p 1 f k := by
  intro f
  induction f with
  | zero => intro k _; simp only [agF]; omega
  | succ f ih =>
    intro k h
    simp only [agF]
    by_cases hk : p + k < n
    · rw [if_pos ⟨by rw [List.length_replicate]; exact hk, by rw [many_at _ _ _ hk, many_at _ _ _ (by omega)]⟩]
      have := ih (k + 1) (by omega)
      omega
    · rw [if_neg (by rw [List.length_replicate]; omega)]
      omega
theorem many_siz (n p : Nat) (c : UInt8) (hp : 1 ≤ p) (h : p + 3 ≤ n) : min 60 (n - p) ≤ sizP (List.replicate n c) p := by
  have h1 := many_ag n p c hp 60 0 (by omega)
  have h2 := ((bestF_le (List.replicate n c) p (min p 250)).2.2.2 1 (Nat.le_refl _) (by omega)).1
  unfold agN at h2
  unfold sizP
  split <;> omega
theorem many_few (n : Nat) (c : UInt8) : ∀ f p, n - p ≤ f → 1 ≤ p → p ≤ n → (toksP (List.replicate n c) p).length ≤ (n - p) / 60 + 2 := by
  intro f
  induction f with
  | zero => intro p h h1 h2; rw [toksP_end (by rw [List.length_replicate]; omega)]; simp
  | succ f ih =>
    intro p h h1 h2
    by_cases h3 : p + 3 ≤ n
    · have hs := many_siz n p c h1 h3
      have hi := sizP_in (L := List.replicate n c) (p := p) (by rw [List.length_replicate]; omega)
      have h6 := (sizP_pos (List.replicate n c) p).2
      rw [List.length_replicate] at hi
      rw [toksP_step (by rw [List.length_replicate]; omega), List.length_cons]
      by_cases h60 : 60 ≤ n - p
      · have e : sizP (List.replicate n c) p = 60 := by omega
        rw [e] at hi ⊢
        have := ih (p + 60) (by omega) (by omega) hi
        omega
      · have e : p + sizP (List.replicate n c) p = n := by omega
        rw [e, toksP_end (by rw [List.length_replicate]; omega)]
        simp
    · have := toksP_len (List.replicate n c) n p (by rw [List.length_replicate]; omega)
      rw [List.length_replicate] at this
      omega
theorem few_toks (n : Nat) (c : UInt8) (h : n ≤ 300) : (toksOf (List.replicate n c)).length ≤ 4 + n / 60 := by
  unfold toksOf
  rw [List.length_replicate, if_pos h]
  cases n with
  | zero => simp [toksP, toksF]
  | succ k =>
    have e : sizP (List.replicate (k + 1) c) 0 = 1 := by unfold sizP; simp [bestF]
    rw [toksP_step (by simp), e, List.length_cons]
    have := many_few (k + 1) c (k + 1) (0 + 1) (by omega) (by omega) (by omega)
    omega

set_option maxHeartbeats 3200000 in
theorem fnTokensAll_walk (a : Option Addr) (len cap : Nat) (zs : List Int) (w : World) (w0 : IsRow .u8 w a len cap zs) :
    Calls Try.prog 13 #[.slice a len cap] w fun e w' => e = .returned (.bool true) ∧ Below w.heap.size w w' := by
  obtain ⟨⟨z, hsrc⟩, hc, hm⟩ := src_of w0
  obtain ⟨i0, hi, hz0, hz1, hz2⟩ := info_parts Try.infoU8
  unfold maxLen at hm
  clear w0 hsrc hc
  by_cases hl : (len : Int) ≤ 1048576
  · obtain ⟨n, hn⟩ : ∃ n : Nat, len % 301 = n := ⟨_, rfl⟩
    have hnI : (len : Int) % 301 = (n : Int) := by omega
    have hn3 : (n : Int) ≤ 300 := by omega
    obtain ⟨q, hq⟩ : ∃ q : Nat, n / 60 = q := ⟨_, rfl⟩
    have hqI : (n : Int) / 60 = (q : Int) := by omega
    have hq5 : (q : Int) ≤ 5 := by omega
    have hq0 : Hid (BOwn (w.alloc (.cells #[] 5)) w.heap.size (.slice (some ⟨w.heap.size, 0, none⟩) 0 0) []) := BOwn.lit _ _ (Nat.le_refl _)
    have hb0 : Hid (Below w.heap.size w (w.alloc (.cells #[] 5))) := (Below.refl _ _).alloc (Nat.le_refl _) _
    have hfew := few_toks n 122 (by omega)
    rw [hq] at hfew
    have HFew := hide hfew
    clear hn hq hfew hm
    go_enter Try.func13, Try.ntmps13
    go_wp2_with fail
    rw [hnI]
    go_loopw [4, 5] (fun v i wr => ∃ k : Nat, k ≤ n ∧ i = .int .i64 k ∧ BOwn wr w.heap.size v (List.replicate k 122) ∧ Below w.heap.size w wr) (fun _ i _ => n - (intOf i).toNat)
    case atStart => exact ⟨0, Nat.zero_le _, rfl, unhide hq0, unhide hb0⟩
    case round =>
      obtain ⟨k, hk, rfl, hq, hbel⟩ := hrel
      have hlen : Hid ((List.replicate k (122 : UInt8)).length = k) := List.length_replicate
      obtain ⟨va, vc, rfl⟩ := hq.formN (unhide hlen)
      by_cases hlt : k < n
      · have hltI : (k : Int) < (n : Int) := by omega
        have hst : Hid (List.replicate k (122 : UInt8) ++ [122] = List.replicate (k + 1) 122) := by show _ = _; rw [List.replicate_succ']
        have bd : Hid (k + 1 ≤ maxLen ∧ (k + 1) * 1 ≤ 140737488355328) := by show _ ∧ _; unfold maxLen; omega
        have hqo := hide (hq.own (unhide hlen))
        have hbs := hbel.size
        have HBel := hide hbel
        clear hq hbel
        go_wp2_with (at_builtin; refine wpList_append_own _ rfl _ _ 35 rfl w.heap.size 5 i0 (.int .u8 0) 1 1 Try.underlying35 hi hz0 hz1 hz2 rfl (by decide) _ _ _ rfl (World.ownsRow.alloc (unhide hqo) _) ⟨wr.heap.size, 0, none⟩ 1 1 [.int .u8 122] rfl rfl (one_new _ _ rfl _ _) (one_byte _) (unhide bd).1 (unhide bd).2 (size_alloc_le hbs _) ?_; intro v' x2 hown hgrow hnil; clear hnil)
        have hb2 := grown_step (v := .slice va k vc) hgrow (unhide hqo) (Nat.le_refl _) hbs (unhide HBel)
        have hq2 := bown_snoc (b := 122) (unhide hlen) hown
        rw [unhide hst] at hq2
        clear hown hgrow
        go_wp2
        go_roundw
        case rel => exact ⟨k + 1, by omega, by go_num, hq2, hb2⟩
        case measure => simp [intOf]; omega
      · obtain rfl : k = n := by omega
        have hcv := hq.text
        have hX : Hid ((⟨(List.replicate k (122 : UInt8)).toArray⟩ : ByteArray).data.toList = List.replicate k 122) := by show _ = _; simp
        generalize (⟨(List.replicate k (122 : UInt8)).toArray⟩ : ByteArray) = X at *
        have hXs : Hid (X.size = k) := by show _ = _; rw [← str_len, unhide hX, List.length_replicate]
        have hspec := hide (fun W => specTokensOf_any X W (by rw [unhide hXs]; omega))
        have himpl := hide (fun W => implTokensOf_any X W (by rw [unhide hXs]; omega))
        have htx : Hid (textT (toksOf X.data.toList) = some X.data.toList) := toksOf_text (by rw [str_len, unhide hXs]; omega)
        have hXl : Hid (X.data.toList.length = k) := by show _ = _; rw [str_len, unhide hXs]
        rw [← unhide hX] at HFew
        generalize toksOf X.data.toList = R at *
        obtain ⟨m, hRm⟩ : ∃ m, R.length = m := ⟨_, rfl⟩
        have HR := hide hRm
        have hmI : (m : Int) ≤ 4 + (q : Int) := by have := unhide HFew; omega
        have HM : Hid (m ≤ 100000) := by show m ≤ 100000; omega
        have HBel := hide hbel
        clear hRm hbel hk hlt
        go_wp2_with fail
        refine (unhide himpl _).mono ?_
        rintro e x1 ⟨v1, rfl, hg1, hb1⟩
        obtain ⟨ga, gc, rfl⟩ := hg1.formN (unhide HR)
        have hcv1 := (hq.later hb1 (Nat.le_refl _)).text
        rw [show (⟨(List.replicate k (122 : UInt8)).toArray⟩ : ByteArray) = X by rw [← unhide hX, str_back]] at hcv1
        go_wp2_with fail
        refine (unhide hspec _).mono ?_
        rintro e x2 ⟨v2, rfl, hw2, hb2⟩
        obtain ⟨wa, wc, rfl⟩ := hw2.formN (unhide HR)
        have hg2 := hg1.later hb2 (Nat.le_refl _)
        have h12 := bnext (unhide HBel) (bnext hb1 hb2)
        clear hb1 hb2 hg1
        go_wp2_with fail
        refine (cbTokens_same _ _ _ _ m R _ (unhide HR) (hg2.rowN (unhide HR)) (hw2.rowN (unhide HR)) (by have := unhide HM; omega)).mono ?_
        rintro e x3 ⟨rfl, hb3⟩
        have hg3 := hg2.later hb3 (Nat.le_refl _)
        have h13 := bnext h12 hb3
        clear hg2 hw2 hb3 h12
        go_wp2_with fail
        refine (implLong_yes _ _ m k R _ _ (unhide HR) (hg3.rowN (unhide HR)) (by have := unhide HM; omega) (unhide htx) (unhide hXl)).mono ?_
        rintro e x4 ⟨rfl, hb4⟩
        go_wp2
        go_ret
        exact ⟨rfl, bnext h13 hb4⟩
  · go_enter Try.func13, Try.ntmps13
    go_wp2
    go_ret
    exact ⟨rfl, Below.refl _ _⟩

end Go.Proofs.Ytlncdcdblmpmgaa
