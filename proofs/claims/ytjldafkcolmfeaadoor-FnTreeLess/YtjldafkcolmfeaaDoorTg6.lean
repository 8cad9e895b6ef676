/- Contracts of the draw of any tree. -/
import Derived.Test.YtjldafkcolmfeaaDoorTg5
import Derived.Test.YtjldafkcolmfeaaDoorTf2
import Derived.Test.YtjldafkcolmfeaaDoorTg1
namespace Go.Proofs.YtjldafkcolmfeaaDoor
open Go.RowKit
set_option maxRecDepth 100000

theorem fblk_news {W : World} {g : Nat} {l : List Fl} (h : FBlk W g l) : ∀ j u, (l.flatMap encF)[j]? = some u → W.cell? ((⟨g, 0, none⟩ : Addr).add j) = some u := by
  intro j u hj
  have hlt : j < (l.flatMap encF).length := (List.getElem?_eq_some_iff.1 hj).1
  rw [flat_len encF_len] at hlt
  have e : (⟨g, 0, none⟩ : Addr).add j = ⟨g, j, none⟩ := by unfold Addr.add; split <;> simp_all
  rw [e, h.2 _ hlt, hj]
theorem Rd.grownF {w w' : World} {B b m n : Nat} {v : Value} {xs : List Value} (h : Rd w B b m) (ho : w.ownsRow (b + 1) 31 2 v n xs) (hg : w.grownBy w' v.ownBlock) : Rd w' B b m := h.grown hg (fun k e => (World.ownsRow.lt ho k e).1)
set_option maxHeartbeats 1600000 in
theorem l11AnyTree_any (B b m : Nat) (w : World) (h : Rd w B b m) (hm : m ≤ 60000) :
    Calls Tryd.prog 7 #[.pointer (some ⟨b, 0, none⟩)] w fun e w' => (∃ v l, e = .returned v ∧ l.length ≤ 5 ∧ FOwn w' (b + 1) v l ∧ v ≠ .slice none 0 0 ∧ TinyF l) ∧ Below b w w' := by
  obtain ⟨i0, hi, hz0, hz1, hz2⟩ := info_parts Tryd.infoFile
  have hlt := h.lt
  have R0 : Hid (Rd (w.alloc (.cells #[] 31)) B b m) := h.alloc _
  have O0 : Hid (FOwn (w.alloc (.cells #[] 31)) (b + 1) (.slice (some ⟨w.heap.size, 0, none⟩) 0 0) []) := World.ownsRow_lit w #[] 0 hlt (by unfold maxLen; omega) rfl
  have K0 : Hid (Kn b w (w.alloc (.cells #[] 31))) := kn_alloc w _ hlt
  have HBd : Hid (∀ x, x ≤ 40 → x ≤ maxLen ∧ x * 32 ≤ 140737488355328) := fun x hx => by unfold maxLen; omega
  clear h
  go_enter Tryd.func7, Tryd.ntmps7
  go_wp2_with fail
  refine (l11Tree_any B b m _ (unhide R0) (by omega)).mono ?_
  rintro e w1 ⟨⟨v1, l, rfl, hl4, ho1, hv1, hT1⟩, hrd1, hkn1⟩
  obtain ⟨n, hn⟩ : ∃ n, l.length = n := ⟨_, rfl⟩
  obtain ⟨g, cap, rfl, hcap⟩ := fown_some hn ho1 hv1
  have O1 := hide (fown_kn (unhide O0) hkn1 (Nat.lt_succ_self _))
  have hFB : FBlk w1 g l := by
    have := ho1
    rw [← hn] at this
    exact own_fblk this
  have HF := hide (fblk_news hFB)
  have HL : Hid ((l.flatMap encF).length = n * 2) := by show _ = _; rw [flat_len encF_len, hn]
  have hlt1 := hrd1.lt
  have HX := hide (And.intro hrd1 (And.intro ((unhide K0).trans hkn1) (And.intro hT1 (And.intro hn hl4))))
  have hn4 : n ≤ 4 := by omega
  clear hrd1 hkn1 R0 O0 K0 ho1 hFB hT1 hn hl4 hv1
  go_wp2_with (at_builtin; refine wpList_append_own _ rfl _ _ 23 rfl (b + 1) 31 i0 (.agg #[.string ⟨#[]⟩, .string ⟨#[]⟩]) 2 32 Tryd.underlying23 hi hz0 hz1 hz2 rfl (by decide) _ 0 [] rfl (unhide O1) ⟨g, 0, none⟩ n cap (l.flatMap encF) rfl (unhide HL) (unhide HF) (encs_one _) (unhide HBd _ (by omega)).1 (unhide HBd _ (by omega)).2 hlt1 ?_; intro v2 w2 hown hgrow hnil)
  have hv2 : v2 ≠ .slice none 0 0 := fun e => by have := (hnil.1 e).1; cases this
  have O2 : Hid (FOwn w2 (b + 1) v2 l) := by
    show World.ownsRow _ _ _ _ _ l.length _
    rw [(unhide HX).2.2.2.1]
    simpa using hown
  have HR2 := hide ((unhide HX).1.grownF (unhide O1) hgrow)
  have HB2 : Hid (Below b w w2) := (unhide HX).2.1.1.grown hgrow (Nat.le_of_lt hlt1) (fun k e => by have := (World.ownsRow.lt (unhide O1) k e).1; omega)
  clear hown hgrow hnil O1 HF HL
  go_wp2_with fail
  refine (pick_any B b (m + 300) _ _ (unhide HR2) (by omega) (by omega) (by omega)).mono ?_
  rintro e w3 ⟨r, rfl, r0, r1, hrd3, hon3⟩
  have O3 := hide (fown_kn (unhide O2) hon3.kn (Nat.lt_succ_self _))
  have HX3 := hide (And.intro hrd3 ((unhide HB2).trans hon3.1))
  clear hrd3 hon3 O2 HR2 HB2
  by_cases hr : r = 0
  · subst hr
    go_wp2_with fail
    refine (l11AnyName_any B b _ _ (unhide HX3).1 (by omega)).mono ?_
    rintro e w4 ⟨nm, hnm, rfl, hrd4, hkn4⟩
    have hnt := no_tiny nm hnm
    have HX4 := hide (And.intro (fown_kn (unhide O3) hkn4 (Nat.lt_succ_self _)) (And.intro hrd4 ((unhide HX3).2.trans hkn4.1)))
    clear hrd4 hkn4 hnm
    go_wp2_with fail
    refine (l11AnyTextK_any B b _ _ (unhide HX4).2.1 (by omega)).mono ?_
    rintro e w5 ⟨⟨tx, rfl, htx⟩, hrd5, hkn5⟩
    have O5 := fown_kn (unhide HX4).1 hkn5 (Nat.lt_succ_self _)
    have hlt5 := hrd5.lt
    have HB5 := hide ((unhide HX4).2.2.trans hkn5.1)
    have O6 := hide (World.ownsRow.alloc (GOwn.own (unhide HX).2.2.2.1 O5) (.cells #[.string nm, .string tx] 31))
    have N6 := hide (OneB.new w5 (b + 1) hlt5 nm tx 31).news
    clear hrd5 hkn5 HX4 O5
    go_wp2_with (at_builtin; refine wpList_append_own _ rfl _ _ 23 rfl (b + 1) 31 i0 (.agg #[.string ⟨#[]⟩, .string ⟨#[]⟩]) 2 32 Tryd.underlying23 hi hz0 hz1 hz2 rfl (by decide) v2 n (l.flatMap encF) rfl (unhide O6) ⟨w5.heap.size, 0, none⟩ 1 1 (encF ⟨nm, tx⟩) rfl rfl (unhide N6) (encF_one _) (unhide HBd _ (by omega)).1 (unhide HBd _ (by omega)).2 (size_alloc_le hlt5 _) ?_; intro v7 w7 hown hgrow hnil)
    have hv7 : v7 ≠ .slice none 0 0 := fun e => hv2 (hnil.1 e).1
    have O7 : Hid (FOwn w7 (b + 1) v7 (l ++ [⟨nm, tx⟩])) := GOwn.snoc (unhide HX).2.2.2.1 hown
    have HB7 : Hid (Below b w w7) := ((unhide HB5).alloc (Nat.le_of_lt hlt5) _).grown hgrow (by simp; omega) (fun k e => by have := (World.ownsRow.lt (unhide O6) k e).1; omega)
    clear hown hgrow hnil O6 N6 HB5
    go_wp2
    go_ret
    refine ⟨⟨v7, l ++ [⟨nm, tx⟩], rfl, ?_, unhide O7, hv7, (unhide HX).2.2.1.app ?_⟩, unhide HB7⟩
    · rw [List.length_append, (unhide HX).2.2.2.1]; simp; omega
    · intro e he
      rcases List.mem_singleton.1 he with rfl
      exact ⟨hnt, by simp; omega⟩
  · have hrI : (r == 0) = false := by simpa using hr
    go_wp2
    go_ret
    refine ⟨⟨v2, l, rfl, ?_, unhide O3, hv2, (unhide HX).2.2.1⟩, (unhide HX3).2⟩
    have := unhide HX; omega
theorem drawTreeOk_any (a : Option Addr) (len cap : Nat) (z : Nat → Int) (w : World) (h : Src w a len z) (hc : len ≤ cap) (hm : len ≤ maxLen) :
    Calls Tryd.prog 4 #[.slice a len cap] w fun e w' => (∃ v l, e = .returned v ∧ l.length ≤ 5 ∧ FOwn w' w.heap.size v l ∧ v ≠ .slice none 0 0 ∧ TinyF l) ∧ Below w.heap.size w w' := by
  go_enter Tryd.func4, Tryd.ntmps4
  go_wp2_with fail
  refine (l1Open_any a len cap z _ h hc hm).mono ?_
  rintro e w1 ⟨rfl, hrd, hbel, hsz⟩
  go_wp2_with fail
  refine (l11AnyTree_any _ _ 0 _ hrd (by omega)).mono ?_
  rintro e w2 ⟨⟨v, l, rfl, h5, ho, hv, hT⟩, hbel2⟩
  go_wp2
  go_ret
  exact ⟨⟨v, l, rfl, h5, GOwn.mono ho (Nat.le_succ _), hv, hT⟩, hbel.trans hbel2⟩

end Go.Proofs.YtjldafkcolmfeaaDoor
