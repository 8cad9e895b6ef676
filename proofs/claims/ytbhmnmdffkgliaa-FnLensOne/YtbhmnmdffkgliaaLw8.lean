/- The walk of a law: the code of one symbol. -/
import Derived.Test.YtbhmnmdffkgliaaLo2
import Derived.Test.YtbhmnmdffkgliaaCb1
import Derived.Test.YtbhmnmdffkgliaaRd2
namespace Go.Proofs.Ytbhmnmdffkgliaa
open Go.RowKit Corb

theorem specLensOf_n (a : Option Addr) (cap n q : Nat) (l R : List Int) (m : Int) (w : World) (hn : l.length = n) (h : IRow w a l) (hm : n ≤ 1048576) (hR : lensOfL l m = R) (hq : R.length = q) :
    Calls Try.prog 5 #[.slice a n cap, .int .i64 m] w fun e w' => ∃ va vc, e = .returned (.slice va q vc) ∧ IOwn w' w.heap.size (.slice va q vc) R ∧ Below w.heap.size w w' :=
  (specLensOf_any a cap n l m w hn h hm).mono fun e w' ⟨⟨v, he, ho⟩, hb⟩ => by
    rw [hR] at ho
    obtain ⟨va, vc, rfl⟩ := ho.formN hq
    exact ⟨va, vc, he, ho, hb⟩

set_option maxHeartbeats 3200000 in
theorem fnLensOne_walk (a : Option Addr) (len cap : Nat) (zs : List Int) (w : World) (w0 : IsRow .u8 w a len cap zs) :
    Calls Try.prog 4 #[.slice a len cap] w fun e w' => e = .returned (.bool true) ∧ Below w.heap.size w w' := by
  obtain ⟨i0, hi, hz0, hz1, hz2⟩ := info_parts Try.infoInt
  obtain ⟨_, _, hm⟩ := src_of w0
  unfold maxLen at hm
  clear w0
  by_cases hl : (len : Int) ≤ 1048576
  · obtain ⟨n, hn⟩ : ∃ n : Nat, 1 + (len : Int) % 20 = (n : Int) := ⟨1 + len % 20, by omega⟩
    have hn1 : 1 ≤ (n : Int) := by omega
    have hn20 : (n : Int) ≤ 20 := by omega
    obtain ⟨k, hk⟩ : ∃ k : Nat, (len : Int) * 7 % (n : Int) = (k : Int) := ⟨(len * 7) % n, by simp⟩
    have hkn : (k : Int) < (n : Int) := by rw [← hk]; exact Int.emod_lt_of_pos _ (by omega)
    obtain ⟨c, hc⟩ : ∃ c : Int, 1 + (len : Int) % 1000 = c := ⟨_, rfl⟩
    have hc1 : 1 ≤ c := by omega
    have hc2 : c ≤ 1000 := by omega
    have hnz : ¬ (n : Int) = 0 := by omega
    have hnz' : ¬ n = 0 := by omega
    have HN := hide (show n ≤ 20 by omega)
    have HK := hide (show k < n by omega)
    go_enter Try.func4, Try.ntmps4
    go_wp2_with (at_make; refine wpList_make_full _ rfl _ _ 22 rfl w.heap.size 3 i0 (.int .i64 0) 1 Try.underlying22 hi hz0 hz1 .i64 .i64 _ _ n rfl rfl rfl rfl (by rw [hz2]; have := unhide HN; omega) (by have := unhide HN; unfold maxLen; omega) (Nat.le_refl _) ?_; intro w1 hown hgrow; have ho1 := made_ints hown; obtain ⟨c0, f0, _, hlt1⟩ := ho1.at (j := k) (List.length_replicate ..) (unhide HK); have hb1 : Below w.heap.size w w1 := (Below.refl _ _).grown hgrow (Nat.le_refl _) (fun k h => (by cases h)); clear hown hgrow)
    have ho2 : IOwn (w1.setCell ⟨w.heap.size, k, none⟩ (.int .i64 c)) w.heap.size (.slice (some ⟨w.heap.size, 0, none⟩) n n) (oneL n k c) := IOwn.put (List.length_replicate ..) ho1 c
    have hb2 : Below w.heap.size w (w1.setCell ⟨w.heap.size, k, none⟩ (.int .i64 c)) := hb1.setCell (Nat.le_refl _) _
    rw [hk]
    clear c0 f0 hlt1 ho1 hb1
    generalize w1.setCell ⟨w.heap.size, k, none⟩ (.int .i64 c) = x1 at *
    have HR := hide (fun (W : World) (h : Below x1.heap.size x1 W) => (ho2.later h (Nat.le_refl _)).rowN (oneL_len n k c))
    have HB1 := hide hb2
    have HC := hide (show 0 < c by omega)
    have HC2 := hide (show c ≤ 100000 by omega)
    have HIM := hide (implLensOf_one (some ⟨w.heap.size, 0, none⟩) n n (oneL n k c) x1 (oneL_len n k c) (unhide HR _ (Below.refl _ _)) (by have := unhide HN; omega) (oneL_inC (unhide HK) (unhide HC) (unhide HC2)) (oneL_us (unhide HK) (unhide HC)))
    have HSP := hide (fun (W : World) (h : Below x1.heap.size x1 W) => specLensOf_n (some ⟨w.heap.size, 0, none⟩) n n n (oneL n k c) (oneL n k 1) 15 W (oneL_len n k c) (unhide HR _ h) (by have := unhide HN; omega) (oneL_lens (unhide HK) (by have := unhide HN; omega) (unhide HC) (unhide HC2)) (oneL_len n k 1))
    rw [oneL_map (unhide HC) (unhide HK)] at HIM
    clear ho2 hb2 hc hi hz0 hz1 hz2
    refine (unhide HIM).mono ?_
    rintro e x2 ⟨va, vc, rfl, ho2, hb2⟩
    have HO2 := hide (fun (W : World) (h : Below x2.heap.size x2 W) => (ho2.later h (Nat.le_refl _)).rowN (oneL_len n k 1))
    have HB2 := hide hb2
    clear ho2 hb2 HIM
    go_wp2_with fail
    refine (unhide HSP x2 (unhide HB2)).mono ?_
    rintro e x3 ⟨sa, sc, rfl, ho3, hb3⟩
    have HO3 := hide (ho3.rowN (oneL_len n k 1))
    have HB3 := hide hb3
    clear ho3 hb3 HSP
    go_wp2_with fail
    refine (cbInts_n va sa vc sc n (oneL n k 1) x3 (oneL_len n k 1) (unhide HO2 _ (unhide HB3)) (unhide HO3) (by rw [oneL_len]; have := unhide HN; omega)).mono ?_
    rintro e x4 ⟨rfl, hb4⟩
    have HB4 := hide (bnext (unhide HB3) hb4)
    clear hb4 HB3 HO3
    obtain ⟨g, o, hva, hg, hcc⟩ := unhide HO2 x4 (unhide HB4) (by rw [oneL_len]; have := unhide HK; omega)
    have c0 := hcc k (by rw [oneL_len]; exact unhide HK)
    rw [oneL_get (unhide HK), if_pos rfl] at c0
    have HUS := hide (cbUsed_any va vc n (oneL n k 1) x4 (oneL_len n k 1) (unhide HO2 _ (unhide HB4)) (by have := unhide HN; omega))
    rw [oneL_us (unhide HK) (by omega)] at HUS
    have HLO := hide (implLensOk_any va vc n (oneL n k 1) x4 (oneL_len n k 1) (unhide HO2 _ (unhide HB4)) (by have := unhide HN; omega))
    rw [oneL_ok (unhide HK) (by have := unhide HN; omega)] at HLO
    have HCO := hide (implCodes_n va vc n n (oneL n k 1) _ x4 (oneL_len n k 1) (unhide HO2 _ (unhide HB4)) (by have := unhide HN; omega) rfl (oneL_code (unhide HK) (by have := unhide HN; omega)).2)
    subst hva
    clear hcc
    go_wp2_with fail
    refine (unhide HUS).mono ?_
    rintro e y5 ⟨rfl, hy5⟩
    rw [hy5]
    clear hy5 y5 HUS
    go_wp2_with fail
    refine (unhide HLO).mono ?_
    rintro e y6 ⟨rfl, hy6⟩
    rw [hy6]
    clear hy6 y6 HLO
    go_wp2_with fail
    refine (unhide HCO).mono ?_
    rintro e x5 ⟨ca, cc, rfl, ho5, hb5⟩
    have hcl := (oneL_code (unhide HK) (by have := unhide HN; omega)).2
    obtain ⟨g5, hg5⟩ := ho5.somes (by rw [hcl]; have := unhide HK; omega)
    subst hg5
    obtain ⟨c5, _, _, _⟩ := ho5.at (j := k) hcl (unhide HK)
    rw [(oneL_code (unhide HK) (by have := unhide HN; omega)).1] at c5
    have HB5 := hide hb5
    clear ho5 hb5 HCO hcl
    go_wp2
    go_ret
    exact ⟨rfl, bnext (unhide HB1) (bnext (unhide HB2) (bnext (unhide HB4) (unhide HB5)))⟩
  · go_enter Try.func4, Try.ntmps4
    go_wp2
    go_ret
    exact ⟨rfl, Below.refl _ _⟩

end Go.Proofs.Ytbhmnmdffkgliaa
