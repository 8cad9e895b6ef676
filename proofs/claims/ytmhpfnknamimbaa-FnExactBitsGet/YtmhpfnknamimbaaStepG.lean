/- 'append' to a row of the call's own, under a guard that holds. -/
import Derived.Test.YtmhpfnknamimbaaStepLaw
import Derived.Test.YtmhpfnknamimbaaLc1
namespace Go

theorem wpList_append_own_g {P : Program} (w : World) {ops : Array Oper} {rest : List Oper} {o : Oper} {a : Act} {Q : Exit → Act → World → Prop} (hw : Region.wanted o (yielded ops a.tmps) = true) (s x : Operand) (t : TypeId)
    (ho : o.op = .call { callee := .builtin .append, args := #[s, x], argTypes := #[t, t] })
    (base : Nat) (e : TypeId) (i : TypeInfo) (z : Value) (size bytes : Nat) (ht : P.underlying t = some (.slice e)) (hi : P.info? e = some i) (hz : i.zero = some z)
    (hsize : i.size = size) (hby : i.bytes = bytes) (hzs : z.cells.size = size) (hsz : 0 < size)
    (v : Value) (n : Nat) (xs : List Value) (hs : a.eval s = v) (hown : w.ownsRow base e size v n xs)
    (ad : Addr) (m c : Nat) (news : List Value) (hx : a.eval x = .slice (some ad) m c) (hl : news.length = m * size) (hnews : ∀ j u, news[j]? = some u → w.cell? (ad.add j) = some u) (h1 : ∀ u ∈ news, u.oneCell' = true)
    (h63 : n + m ≤ maxLen) (hbytes : (n + m) * bytes ≤ 140737488355328) (hbase : base ≤ w.heap.size)
    (h : ∀ v' w', w'.ownsRow base e size v' (n + m) (xs ++ news) → w.grownBy w' v.ownBlock → (v' = .slice none 0 0 ↔ v = .slice none 0 0 ∧ m = 0) → wpList P ops Q rest (a.put o.dst v') w') : wpList P ops Q (o :: rest) a w :=
  wpList_step fun K hK => by
    rw [if_pos hw]
    exact wp_append_own w s x t ho base e i z size bytes ht hi hz hsize hby hzs hsz v n xs hs hown ad m c news hx hl hnews h1 h63 hbytes hbase fun v' w' h2 h3 h4 => hK _ _ (h v' w' h2 h3 h4)

end Go
namespace Go.Proofs.Ytmhpfnknamimbaa
open Go.RowKit Corb

theorem Pcs.formN {w : World} {base n : Nat} {v : Value} {l : List (Int × Int)} (hn : l.length = n) (h : Pcs w base v l) : ∃ a cap, v = .slice a n cap := by
  subst hn
  exact h.form
theorem Pcs.own {w : World} {base n : Nat} {v : Value} {l : List (Int × Int)} (hn : l.length = n) (h : Pcs w base v l) : w.ownsRow base 29 2 v n (pcells l) := by
  subst hn
  exact h
theorem Pcs.rowN {w : World} {base n : Nat} {a : Option Addr} {cap : Nat} {l : List (Int × Int)} (hn : l.length = n) (h : Pcs w base (.slice a n cap) l) : PRow w a l := by
  subst hn
  exact h.row
theorem Pcs.newsN {w : World} {base g cap n : Nat} {l : List (Int × Int)} (hn : l.length = n) (h : Pcs w base (.slice (some ⟨g, 0, none⟩) n cap) l) : ∀ j u, (pcells l)[j]? = some u → w.cell? ((⟨g, 0, none⟩ : Addr).add j) = some u := by
  subst hn
  exact h.news
theorem Pcs.nonnilN {w : World} {base n : Nat} {v : Value} {l : List (Int × Int)} (hl : l.length = n) (h : Pcs w base v l) (hn : v ≠ .slice none 0 0) : ∃ g cap, v = .slice (some ⟨g, 0, none⟩) n cap := by
  subst hl
  exact h.nonnil hn
theorem pcs_cat {x : World} {base n : Nat} {v : Value} {l r : List (Int × Int)} (hn : l.length = n) (h : x.ownsRow base 29 2 v (n + r.length) (pcells l ++ pcells r)) : Pcs x base v (l ++ r) := by
  subst hn
  unfold Pcs
  rw [pcells_append, List.length_append]
  exact h
theorem pcs_copyN {x : World} {base n : Nat} {v : Value} {l : List (Int × Int)} (hn : l.length = n) (h : x.ownsRow base 29 2 v (0 + n) ([] ++ pcells l)) : Pcs x base v l := by
  subst hn
  exact pcs_copy h
theorem grown_below {x y y' : World} {v : Value} {e : TypeId} {size n : Nat} {xs : List Value} (hg : y.grownBy y' v.ownBlock) (ho : y.ownsRow x.heap.size e size v n xs) (hb : Below x.heap.size x y) : Below x.heap.size x y' :=
  hb.grown hg hb.size (fun k h => by have := World.ownsRow.lt ho k h; omega)

end Go.Proofs.Ytmhpfnknamimbaa
