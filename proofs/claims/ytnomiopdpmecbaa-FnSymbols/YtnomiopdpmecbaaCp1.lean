/- A row appended to a row, nil or not; pieces held against pieces. -/
import Derived.Test.YtnomiopdpmecbaaM5
import Derived.Laws.AppendOwnNone
namespace Go
open Go.RowKit

theorem World.grownBy.same (w : World) (row : Option Nat) : w.grownBy w row := ⟨rfl, rfl, rfl, Nat.le_refl _, fun _ _ _ => rfl⟩

theorem wpList_append_rows {P : Program} (w : World) {ops : Array Oper} {rest : List Oper} {o : Oper} {a : Act} {Q : Exit → Act → World → Prop} (hgd : o.guard = none) (s x : Operand) (t : TypeId)
    (ho : o.op = .call { callee := .builtin .append, args := #[s, x], argTypes := #[t, t] })
    (base : Nat) (e : TypeId) (i : TypeInfo) (z : Value) (size bytes : Nat) (ht : P.underlying t = some (.slice e)) (hi : P.info? e = some i) (hz : i.zero = some z)
    (hsize : i.size = size) (hby : i.bytes = bytes) (hzs : z.cells.size = size) (hsz : 0 < size)
    (v : Value) (n : Nat) (xs : List Value) (hs : a.eval s = v) (hown : w.ownsRow base e size v n xs)
    (vx : Value) (base' m : Nat) (news : List Value) (hx : a.eval x = vx) (hsrc : w.ownsRow base' e size vx m news) (h1 : ∀ u ∈ news, u.oneCell' = true)
    (h63 : n + m ≤ maxLen) (hbytes : (n + m) * bytes ≤ 140737488355328) (hbase : base ≤ w.heap.size)
    (h : ∀ v' w', w'.ownsRow base e size v' (n + m) (xs ++ news) → w.grownBy w' v.ownBlock → wpList P ops Q rest (a.put o.dst v') w') : wpList P ops Q (o :: rest) a w := by
  have hl := hsrc.1
  rcases hsrc.2 with ⟨e0, h0⟩ | ⟨g, cap, cur, e0, hr⟩
  · subst h0
    have hnil : news = [] := List.eq_nil_of_length_eq_zero (by rw [hl]; simp)
    subst hnil
    refine wpList_append_own_none hgd s x t ho base e i size ht hi v n xs hs hown (hx.trans e0) ?_
    refine h v w ?_ (World.grownBy.same _ _)
    rw [List.append_nil, Nat.add_zero]
    exact hown
  · subst e0
    have hnews := World.ownsRow.cells hsrc rfl
    exact wpList_append_own w hgd s x t ho base e i z size bytes ht hi hz hsize hby hzs hsz v n xs hs hown ⟨g, 0, none⟩ m cap news hx hl hnews h1 h63 hbytes hbase fun v' w' h2 h3 _ => h v' w' h2 h3

end Go
namespace Go.Proofs.Ytnomiopdpmecbaa
open Go.RowKit

theorem iown_copyN {x : World} {base n : Nat} {v : Value} {l : List Int} (hn : l.length = n) (h : x.ownsRow base 3 1 v (0 + n) ([] ++ l.map (Value.int .i64))) : IOwn x base v l := by
  subst hn
  unfold IOwn
  rw [Nat.zero_add, List.nil_append] at h
  exact h
theorem iown_catN {x : World} {base n m : Nat} {v : Value} {l r : List Int} (hn : l.length = n) (hm : r.length = m) (h : x.ownsRow base 3 1 v (n + m) (l.map (Value.int .i64) ++ r.map (Value.int .i64))) : IOwn x base v (l ++ r) := by
  subst hn hm
  unfold IOwn
  rw [List.map_append, List.length_append]
  exact h
theorem IOwn.ownN {w : World} {base n : Nat} {v : Value} {l : List Int} (hn : l.length = n) (h : IOwn w base v l) : w.ownsRow base 3 1 v n (l.map (Value.int .i64)) := by
  subst hn
  exact h
theorem ints_one (l : List Int) : ∀ u ∈ l.map (Value.int .i64), u.oneCell' = true := by
  intro u hu
  obtain ⟨_, _, rfl⟩ := List.mem_map.1 hu
  rfl
theorem pcs_catN {x : World} {base n m : Nat} {v : Value} {l r : List (Int × Int)} (hn : l.length = n) (hm : r.length = m) (h : x.ownsRow base 50 2 v (n + m) (pcells l ++ pcells r)) : Pcs x base v (l ++ r) := by
  subst hm
  exact pcs_cat hn h

set_option maxHeartbeats 800000 in
theorem cbPieces_n (a b : Option Addr) (c d n : Nat) (l : List (Int × Int)) (w : World) (hn : l.length = n) (ha : PRow w a l) (hb : PRow w b l) (hm : n ≤ 1048576) :
    Calls Try.prog 8 #[.slice a n c, .slice b n d] w fun e w' => e = .returned (.bool true) ∧ Below w.heap.size w w' := by
  have hm' : (n : Int) ≤ 1048576 := by omega
  have Hn := hide hn
  clear hm hn
  go_enter Try.func8, Try.ntmps8
  go_wp2_with fail
  go_loopw [5] (fun i wr => ∃ k : Nat, k ≤ n ∧ i = .int .i64 k ∧ Below w.heap.size w wr) (fun i _ => n - (intOf i).toNat)
  case atStart => exact ⟨0, Nat.zero_le _, rfl, Below.refl _ _⟩
  case round =>
    obtain ⟨k, hk, rfl, hbel⟩ := hrel
    by_cases hlt : k < n
    · obtain ⟨g, o, rfl, hg, hc⟩ := (ha.later hbel) (by rw [unhide Hn]; omega)
      obtain ⟨g', o', rfl, hg', hc'⟩ := (hb.later hbel) (by rw [unhide Hn]; omega)
      obtain ⟨c0, c1⟩ := hc k (by rw [unhide Hn]; exact hlt)
      obtain ⟨d0, d1⟩ := hc' k (by rw [unhide Hn]; exact hlt)
      have HK := hide hk
      clear hc hc' ha hb hk
      generalize (l.getD k (0, 0)).1 = x at *
      generalize (l.getD k (0, 0)).2 = y at *
      go_wp2
      go_quiet (fail)
      go_wp2
      go_roundw
      case rel => exact ⟨k + 1, by have := unhide HK; omega, by go_num, below_drewN hbel _⟩
      case measure => simp [intOf]; omega
    · clear ha hb
      go_wp2
      go_ret
      exact ⟨rfl, hbel⟩

end Go.Proofs.Ytnomiopdpmecbaa
