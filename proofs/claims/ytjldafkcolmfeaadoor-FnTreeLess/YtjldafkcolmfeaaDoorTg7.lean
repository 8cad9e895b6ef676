/- Walk of the statement: files of a tree without one are a tree. -/
import Derived.Test.YtjldafkcolmfeaaDoorTg6
namespace Go.Proofs.YtjldafkcolmfeaaDoor
open Go.RowKit
set_option maxRecDepth 100000

set_option maxHeartbeats 3200000 in
theorem fnTreeLess_walk (a : Option Addr) (len cap : Nat) (zs : List Int) (m : Int) (w : World) (w0 : IsRow .u8 w a len cap zs) (hm : w.cell? ⟨0, 0, none⟩ = some (.int .i64 m)) :
    Calls Tryd.prog 3 #[.slice a len cap] w fun e w' => e = .returned (.bool true) ∧ Below w.heap.size w w' := by
  have hmix : Tryd.prog.follows .mixedOrders = true := by kernel_rfl
  obtain ⟨i0, hi, hz0, hz1, hz2⟩ := info_parts Tryd.infoFile
  obtain ⟨⟨z, hsrc⟩, hc, hml⟩ := src_of w0
  have HDr := hide (drawTreeOk_any a len cap z w hsrc hc hml)
  have hMl : 0 < w.heap.size := by
    rcases Nat.lt_or_ge 0 w.heap.size with h1 | h1
    · exact h1
    · simp [World.cell?, h1] at hm
  have HM : Hid (∀ W, Below w.heap.size w W → W.cell? ⟨0, 0, none⟩ = some (.int .i64 m)) := fun W hW => by rw [hW.cell (p := ⟨0, 0, none⟩) hMl]; exact hm
  have HBd : Hid (∀ x, x ≤ 40 → x ≤ maxLen ∧ x * 32 ≤ 140737488355328) := fun x hx => by unfold maxLen; omega
  unfold maxLen at hml
  clear w0 hsrc hc hm hMl
  by_cases hl : (len : Int) ≤ 1048576
  · go_enter Tryd.func3, Tryd.ntmps3
    go_wp2_with fail
    refine (unhide HDr).mono ?_
    rintro e w1 ⟨⟨v, l, rfl, h5, ho, hv, hT⟩, hb1⟩
    obtain ⟨n, hn⟩ : ∃ n, l.length = n := ⟨_, rfl⟩
    obtain ⟨g, tc, rfl, hcap⟩ := fown_some hn ho hv
    have hFB : FBlk w1 g l := by
      have := ho
      rw [← hn] at this
      exact own_fblk this
    have HN := hide (And.intro hn (And.intro h5 (And.intro hcap hT)))
    have HFB := hide hFB
    have HRow := hide (fown_row hn ho)
    have hnI : (n : Int) ≤ 5 := by omega
    have hcI : (n : Int) ≤ (tc : Int) := by omega
    have HB1 := hide hb1
    have CI := hide (fun W (hW : Below w1.heap.size w1 W) => implTreeOk_any (some ⟨g, 0, none⟩) tc l n hn m W ((unhide HRow).later hW) (by omega) (by omega) (tiny_small hT hn) (unhide HM W (bnext (unhide HB1) hW)))
    have CS := hide (fun W (hW : Below w1.heap.size w1 W) => specTreeOk_any (some ⟨g, 0, none⟩) tc l n hn W ((unhide HRow).later hW) (by omega) (tiny_small hT hn))
    clear ho hv hFB hb1 HDr hT h5 hn
    generalize htb : treeB l = tb at *
    go_wp2_with fail
    refine (unhide CI w1 (Below.refl _ _)).mono ?_
    rintro e w2 ⟨rfl, hb2⟩
    have HB2 := hide hb2
    clear hb2
    go_wp2_with fail
    refine (unhide CS w2 (unhide HB2)).mono ?_
    rintro e w3 ⟨rfl, hb3⟩
    have HB3 := hide (bnext (unhide HB2) hb3)
    clear hb3 HB2
    cases tb
    · go_wp2_with fail
      refine (unhide CS w3 (unhide HB3)).mono ?_
      rintro e w4 ⟨rfl, hb4⟩
      have HB4 := hide (bnext (unhide HB1) (bnext (unhide HB3) hb4))
      clear hb4
      go_wp2
      go_ret
      exact ⟨rfl, unhide HB4⟩
    · have HTb := hide htb
      clear htb
      go_wp2_with fail
      go_loopw [5] (fun i wr => ∃ k : Nat, k ≤ n ∧ i = .int .i64 k ∧ Below w1.heap.size w1 wr) (fun i _ => n - (intOf i).toNat)
      case atStart => exact ⟨0, Nat.zero_le _, rfl, unhide HB3⟩
      case round =>
        obtain ⟨k, hk, rfl, hbel⟩ := hrel
        have Hk := hide hk
        have HB := hide hbel
        have k4 : IntKind.i64.wrap ((k : Int) + 1) = (k : Int) + 1 := by simp only [IntKind.wrap, IntKind.bits, IntKind.signed]; simp; omega
        clear hbel
        by_cases hlt : k < n
        · have hltI : (k : Int) < (n : Int) := by omega
          obtain ⟨AD, hAD⟩ : ∃ AD, (if tc = k + 1 then some (⟨g, 0, none⟩ : Addr) else some ⟨g, (k + 1) * 2, none⟩) = some AD := by split <;> exact ⟨_, rfl⟩
          have HAD := hide hAD
          have hkl : k < l.length := by rw [(unhide HN).1]; exact hlt
          have HL1 : Hid (((l.take k).flatMap encF).length = k * 2) := by show _ = _; rw [flat_len encF_len, List.length_take]; omega
          have HL2 : Hid (((l.drop (k + 1)).flatMap encF).length = (n - (k + 1)) * 2) := by show _ = _; rw [flat_len encF_len, List.length_drop, (unhide HN).1]
          have HF : Hid (∀ W, Below wr.heap.size wr W → FBlk W g l) := fun W hW => ((unhide HFB).later (unhide HB)).later hW
          have HTl : Hid (∀ W, Below wr.heap.size wr W → ∀ i u, ((l.drop (k + 1)).flatMap encF)[i]? = some u → W.cell? (AD.add i) = some u) := fun W hW i u hu => by
            have hlt' : i < ((l.drop (k + 1)).flatMap encF).length := (List.getElem?_eq_some_iff.1 hu).1
            rw [unhide HL2] at hlt'
            have hcap := (unhide HN).2.2.1
            have e : AD = ⟨g, (k + 1) * 2, none⟩ := by
              have := unhide HAD
              rw [if_neg (by omega)] at this
              exact (Option.some.inj this).symm
            rw [e]
            exact row_news (unhide HF W hW).2 (k + 1) i u hu
          have HTk : Hid (∀ W, Below wr.heap.size wr W → ∀ i u, ((l.take k).flatMap encF)[i]? = some u → W.cell? ((⟨g, 0, none⟩ : Addr).add i) = some u) := fun W hW => take_news (unhide HF W hW) k
          clear hAD
          go_wp2_with fail
          refine wp_region_held_drew (S := fun _ => True) hmix trivial (fun hS => ?_)
          refine wpAnyH_take (i := 1) (v := .slice (some ⟨g, 0, none⟩) n tc) rfl (by kernel_rfl) (by kernel_rfl) (by kernel_rfl) (fun _ _ _ h => h) (Or.inl ⟨by rfl, fun W hSw => by go_simp⟩) hS ?_
          refine wpAnyH_take (i := 2) (v := .int .i64 (k : Nat)) rfl (by kernel_rfl) (by kernel_rfl) (by kernel_rfl) (fun _ _ _ h => h) (Or.inl ⟨by rfl, fun W hSw => by go_simp⟩) hS ?_
          refine wpAnyH_take (i := 3) (v := .slice (some ⟨g, 0, none⟩) k tc) rfl (by kernel_rfl) (by kernel_rfl) (by kernel_rfl) (fun _ _ _ h => h) (Or.inl ⟨by rfl, fun W hSw => by go_simp <;> (intro h; omega)⟩) hS ?_
          refine wpAnyH_take (i := 5) (v := .slice (some ⟨g, 0, none⟩) n tc) rfl (by kernel_rfl) (by kernel_rfl) (by kernel_rfl) (fun _ _ _ h => h) (Or.inl ⟨by rfl, fun W hSw => by go_simp⟩) hS ?_
          refine wpAnyH_take (i := 6) (v := .int .i64 (k : Nat)) rfl (by kernel_rfl) (by kernel_rfl) (by kernel_rfl) (fun _ _ _ h => h) (Or.inl ⟨by rfl, fun W hSw => by go_simp⟩) hS ?_
          refine wpAnyH_take (i := 7) (v := .int .i64 ((k : Int) + 1)) rfl (by kernel_rfl) (by kernel_rfl) (by kernel_rfl) (fun _ _ _ h => h) (Or.inl ⟨by rfl, fun W hSw => by go_simp⟩) hS ?_
          refine wpAnyH_take (i := 8) (v := .slice (some AD) (n - (k + 1)) (tc - (k + 1))) rfl (by kernel_rfl) (by kernel_rfl) (by kernel_rfl) (fun _ _ _ h => h) (Or.inl ⟨by rfl, fun W hSw => by go_simp; first | (rw [if_pos (by omega), unhide HAD]) | (rw [unhide HAD]) | skip⟩) hS ?_
          have HBd0 : Hid (Below wr.heap.size wr wr.drew ∧ wr.heap.size ≤ wr.drew.heap.size) := ⟨(Below.refl _ _).drew, Nat.le_refl _⟩
          generalize wr.drew = wd at *
          refine wpAnyH_ready (rs := [0]) (by kernel_rfl) (by simp) ?_
          refine AllReadyH.cons rfl (fun K hK => ?_) AllReadyH.nil
          go_simp
          have HB4 : Hid (Below wr.heap.size wr (wd.alloc (.cells #[] 31))) := (unhide HBd0).1.alloc (unhide HBd0).2 _
          have HO4 : Hid (World.ownsRow (wd.alloc (.cells #[] 31)) wr.heap.size 31 2 (.slice (some ⟨wd.heap.size, 0, none⟩) 0 0) 0 []) := World.ownsRow_lit wd #[] 0 (unhide HBd0).2 (by unfold maxLen; omega) rfl
          refine Shut.out hK _ _ trivial (fun _ => ?_)
          clear hK K
          obtain ⟨w4, hw4⟩ : ∃ x, wd.alloc (.cells #[] 31) = x := ⟨_, rfl⟩
          rw [hw4] at HB4 HO4
          rw [hw4]
          refine wpAnyH_ready (rs := [4]) (by kernel_rfl) (by simp) ?_
          refine AllReadyH.cons rfl (fun K hK => ?_) AllReadyH.nil
          refine step_append_own rfl (.tmp 31) (.tmp 34) 23 rfl wr.heap.size 31 i0 (.agg #[.string ⟨#[]⟩, .string ⟨#[]⟩]) 2 32 Tryd.underlying23 hi hz0 hz1 hz2 rfl (by decide) (.slice (some ⟨wd.heap.size, 0, none⟩) 0 0) 0 [] rfl (unhide HO4) ⟨g, 0, none⟩ k tc ((l.take k).flatMap encF) rfl (unhide HL1) (unhide HTk _ (unhide HB4)) (encs_one _) (unhide HBd _ (by omega)).1 (unhide HBd _ (by omega)).2 (unhide HB4).size ?_
          intro v5 w5 hown hgrow hnil
          have HB5 : Hid (Below wr.heap.size wr w5) := (unhide HB4).grown hgrow (unhide HB4).size (fun j e => (World.ownsRow.lt (unhide HO4) j e).1)
          have HO5 := hide hown
          clear hown hgrow hnil
          refine Shut.out hK _ _ trivial (fun _ => ?_)
          clear hK K
          refine wpAnyH_ready (rs := [9]) (by kernel_rfl) (by simp) ?_
          refine AllReadyH.cons rfl (fun K hK => ?_) AllReadyH.nil
          refine step_append_own rfl (.tmp 35) (.tmp 39) 23 rfl wr.heap.size 31 i0 (.agg #[.string ⟨#[]⟩, .string ⟨#[]⟩]) 2 32 Tryd.underlying23 hi hz0 hz1 hz2 rfl (by decide) v5 (0 + k) ([] ++ (l.take k).flatMap encF) rfl (unhide HO5) AD (n - (k + 1)) (tc - (k + 1)) ((l.drop (k + 1)).flatMap encF) rfl (unhide HL2) (unhide HTl _ (unhide HB5)) (encs_one _) (unhide HBd _ (by omega)).1 (unhide HBd _ (by omega)).2 (unhide HB5).size ?_
          intro v6 w6 hown hgrow hnil
          have HB6 : Hid (Below wr.heap.size wr w6) := (unhide HB5).grown hgrow (unhide HB5).size (fun j e => (World.ownsRow.lt (unhide HO5) j e).1)
          have hlen : (lessF l k).length = 0 + k + (n - (k + 1)) := by rw [lessF_len hkl, (unhide HN).1]; omega
          have hO6 : FOwn w6 wr.heap.size v6 (lessF l k) := by
            show World.ownsRow _ _ _ _ _ (lessF l k).length _
            rw [hlen]
            unfold lessF
            simpa using hown
          clear hown hgrow hnil
          refine Shut.out hK _ _ trivial (fun _ => ?_)
          clear hK K
          obtain ⟨n6, hn6⟩ : ∃ x, (lessF l k).length = x := ⟨_, rfl⟩
          obtain ⟨a6, c6, rfl, hc6, _⟩ := GOwn.formN hn6 hO6
          have hT6 : TinyF (lessF l k) := ((unhide HN).2.2.2.take k).app ((unhide HN).2.2.2.drop (k + 1))
          have CL := hide (implTreeOk_any a6 c6 (lessF l k) n6 hn6 m w6 (fown_row hn6 hO6) (by omega) (by omega) (tiny_small hT6 hn6) (unhide HM w6 (bnext (unhide HB1) (bnext (unhide HB) (unhide HB6)))))
          rw [tree_less hkl (unhide HTb)] at CL
          refine wpAnyH_ready (rs := [10]) (by kernel_rfl) (by simp) ?_
          refine AllReadyH.cons rfl (fun K hK => ?_) AllReadyH.nil
          go_simp
          go_at_call 5
          refine (unhide CL).mono ?_
          rintro e w7 ⟨rfl, hb7⟩
          refine Shut.out hK _ _ trivial (fun hS => ?_)
          clear hK K
          have HB7 := hide (bnext (unhide HB) (bnext (unhide HB6) hb7))
          refine wpAnyH_take (i := 11) (v := .bool false) rfl (by kernel_rfl) (by kernel_rfl) (by kernel_rfl) (fun _ _ _ h => h) (Or.inl ⟨by rfl, fun W hSw => by go_simp⟩) hS ?_
          refine wpAnyH_done (by kernel_rfl) ?_ _
          clear hb7 CL hO6 HO5 HO4 HB6 HB5 HB4 HTl HTk HF HL1 HL2
          go_wp2_with fail
          go_roundw
          case rel => exact ⟨k + 1, by omega, by go_num, unhide HB7⟩
          case measure => simp [intOf]; omega
        · have hltI : ¬ (k : Int) < (n : Int) := by omega
          have C0 := hide (implTreeOk_any none 0 [] 0 rfl m wr (fun h => absurd h (by simp)) (by omega) (by omega) (fun i hi => absurd hi (by omega)) (unhide HM wr (bnext (unhide HB1) (unhide HB))))
          rw [tree_none] at C0
          go_wp2_with fail
          refine (unhide C0).mono ?_
          rintro e w4 ⟨rfl, hb4⟩
          have HB4 := hide (bnext (unhide HB1) (bnext (unhide HB) hb4))
          clear hb4
          go_wp2
          go_ret
          exact ⟨rfl, unhide HB4⟩
  · go_enter Tryd.func3, Tryd.ntmps3
    go_wp2
    go_ret
    exact ⟨rfl, Below.refl _ _⟩

end Go.Proofs.YtjldafkcolmfeaaDoor
