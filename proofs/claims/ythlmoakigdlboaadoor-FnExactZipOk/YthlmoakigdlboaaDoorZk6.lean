/- What is wrong with one more file: the program's zipRoom. -/
import Derived.Test.YthlmoakigdlboaaDoorZk5
namespace Go.Proofs.YthlmoakigdlboaaDoor
open Go.RowKit

theorem containsRoom_any (a : Option Addr) (cap : Nat) (l : List En) (n : Nat) (hn : l.length = n) (b : Nat) (x : ByteArray) (w : World) (h : ERow w a l) (hl : (n : Int) ≤ 1048576) (hb : w.cell? ⟨b, 0, none⟩ = some (.string x)) (hx : (x.size : Int) ≤ 1048576)
    (hs : ∀ i, i < n → ((l.getD i default).n.size : Int) ≤ 1048576) :
    Calls Tryd.prog 31 #[.slice a n cap, .func (.func 32) #[] #[.pointer (some ⟨b, 0, none⟩)]] w fun e w' => e = .returned (.bool (anyC l x)) ∧ Below w.heap.size w w' := by
  have HC := hide (indexRoom_any a cap l n hn b x w h hl hb hx hs)
  clear h hb hs hn
  go_enter Tryd.func31, Tryd.ntmps31
  go_wp2_with fail
  refine (unhide HC).mono ?_
  rintro e w1 ⟨⟨r, rfl, hr, _⟩, hb1⟩
  have HR := hide hr
  have HB := hide hb1
  clear hr hb1
  go_wp2
  go_ret
  exact ⟨ret_bool (unhide HR), unhide HB⟩

/-- What is wrong with one more file, as a code. -/
def roomC (l : List En) (e : En) : Int := if entE e then (if anyC l e.n then 3 else if 6 ≤ l.length then 4 else 0) else 1
/-- What is wrong, as the program has it. -/
def faultV (c : Int) : Value := if c = 0 then .nilIface else .iface 50 (.agg #[.int .i64 c])
set_option maxHeartbeats 1600000 in
theorem zipRoom_any (a : Option Addr) (cap : Nat) (l : List En) (n : Nat) (hn : l.length = n) (e : En) (m : Int) (w : World) (h : ERow w a l) (hl : (n : Int) ≤ 1048576)
    (hs : ∀ i, i < n → ((l.getD i default).n.size : Int) ≤ 1048576) (he : e.n.size ≤ 1048576) (ht : (e.t.size : Int) ≤ 9223372036854775807) (hm : w.cell? ⟨1, 0, none⟩ = some (.int .i64 m)) :
    Calls Tryd.prog 21 #[.slice a n cap, .agg #[.string e.n, .int .i64 e.y, .int .i64 e.mo, .int .i64 e.d, .int .i64 e.h, .int .i64 e.mi, .int .i64 e.s, .string e.t]] w fun f w' => f = .returned (faultV (roomC l e)) ∧ Below w.heap.size w w' := by
  have HM : Hid ((w.alloc (.cells #[.string e.n, .int .i64 e.y, .int .i64 e.mo, .int .i64 e.d, .int .i64 e.h, .int .i64 e.mi, .int .i64 e.s, .string e.t] 37)).cell? ⟨1, 0, none⟩ = some (.int .i64 m)) := by
    show _ = _
    rw [World.cell?_alloc_past _ _ _ (World.block_lt_of_cell? _ _ hm)]; exact hm
  have HEO := hide (implEntryOk_any e.n e.y e.mo e.d e.h e.mi e.s e.t m _ he ht (unhide HM))
  have HR := hide h
  have HS := hide hs
  have HN := hide hn
  have heI : (e.n.size : Int) ≤ 1048576 := by omega
  clear h hs hm hn
  cases hk : entE e
  · have hc : roomC l e = 1 := by simp [roomC, hk]
    rw [hc]
    go_enter Tryd.func21, Tryd.ntmps21
    go_wp2_with fail
    refine (unhide HEO).mono ?_
    rintro f w1 ⟨rfl, hb1⟩
    rw [show entB e.n e.y e.mo e.d e.h e.mi e.s e.t = false from hk]
    have HB1 := hide (ent_call hb1).2
    clear hb1
    go_wp2
    go_ret
    exact ⟨rfl, unhide HB1⟩
  · have HRC : Hid (roomC l e = if anyC l e.n then 3 else if 6 ≤ n then 4 else 0) := by show _ = _; rw [← unhide HN]; simp [roomC, hk]
    go_enter Tryd.func21, Tryd.ntmps21
    go_wp2_with fail
    refine (unhide HEO).mono ?_
    rintro f w1 ⟨rfl, hb1⟩
    rw [show entB e.n e.y e.mo e.d e.h e.mi e.s e.t = true from hk]
    have HB1 := hide (ent_call hb1).2
    have HX1 := hide (ent_call hb1).1
    clear hb1
    have HCC := hide (containsRoom_any a cap l n (unhide HN) w.heap.size e.n w1 ((unhide HR).later (unhide HB1)) hl (unhide HX1).1.1 heI (unhide HS))
    clear HX1 HEO
    generalize anyC l e.n = u at *
    go_wp2_with fail
    refine (unhide HCC).mono ?_
    rintro f w2 ⟨rfl, hb2⟩
    have HB2 := hide (bnext (unhide HB1) hb2)
    clear hb2 HCC
    cases u
    · by_cases h6 : 6 ≤ n
      · have h6I : (6 : Int) ≤ (n : Int) := by omega
        have HC : Hid (roomC l e = 4) := by show _ = _; rw [unhide HRC]; simp [h6]
        go_wp2
        go_ret
        exact ⟨by rw [unhide HC]; rfl, unhide HB2⟩
      · have h6I : ¬ (6 : Int) ≤ (n : Int) := by omega
        have HC : Hid (roomC l e = 0) := by show _ = _; rw [unhide HRC]; simp [h6]
        go_wp2
        go_ret
        exact ⟨by rw [unhide HC]; rfl, unhide HB2⟩
    · have HC : Hid (roomC l e = 3) := by show _ = _; rw [unhide HRC]; simp
      go_wp2
      go_ret
      exact ⟨by rw [unhide HC]; rfl, unhide HB2⟩

end Go.Proofs.YthlmoakigdlboaaDoor
