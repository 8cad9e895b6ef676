/- Of what the proof is made: 6 texts, one behind the other. -/
import Derived.Test.YtgpghapnmalipaaGreatDoorM22
import Derived.LaidEql
import Derived.Stop.Asserts
import Derived.RowKitTokens
import Derived.Test.YtgpghapnmalipaaGreatDoorEw1
import Derived.Test.YtgpghapnmalipaaGreatDoorM20
namespace Go.Proofs.YtgpghapnmalipaaGreatDoor
open Go.RowKit Go.Extern.Stop Go.Stop Go.Extern
theorem as_nil (t : Value) (w : World) :
    Calls Tryz.prog 42 #[.nilIface, t] w fun e w' => e = .returned (.bool false) ∧ w' = w := by
  go_enter Tryz.func42, Tryz.ntmps42
  go_wp2
  go_ret
  exact ⟨rfl, rfl⟩
theorem asValueP (t : Addr) (w : World) : (ReflectliteValue.unpack (.iface 81 (.pointer (some t)))).run Tryz.prog w
    = .ok (.agg #[.pointer (some ⟨5, 81, none⟩), .pointer (some ⟨w.heap.size, 0, none⟩), .int .u64 150]) (w.alloc (.cells #[.pointer (some t)] 81)) := by kernel_rfl
theorem asValueE (c : Int) (w : World) : (ReflectliteValue.unpack (.iface 79 (.agg #[.int .i64 c]))).run Tryz.prog w
    = .ok (.agg #[.pointer (some ⟨5, 79, none⟩), .pointer (some ⟨w.heap.size, 0, none⟩), .int .u64 153]) (w.alloc (.cells #[.int .i64 c] 79)) := by kernel_rfl
end Go.Proofs.YtgpghapnmalipaaGreatDoor
namespace Go.Proofs.YtgpghapnmalipaaGreatDoor
open Go.RowKit Go.Extern.Stop Go.Stop Go.Extern
theorem asTypeP (a : Addr) (w : World) : (ReflectliteValue.methodAny (ReflectliteValue.valueError "reflectlite.Value.Type" 0) (fun t _ _ _ => ReflectliteType.toType t) #[.agg #[.pointer (some ⟨5, 81, none⟩), .pointer (some a), .int .u64 150]]).run Tryz.prog w
    = .ok (.iface 145 (.agg #[.pointer (some ⟨5, 81, none⟩)])) w := by kernel_rfl
theorem asMethodKind (h : Value) (w : World) : (Go.method 397 145 (.agg #[h]) "Kind").run Tryz.prog w = .ok (199, h) w := by kernel_rfl
theorem asKindP (w : World) : ((ReflectliteType.abiMethod fun t => (fun a : Nat => Value.int IntKind.u8 (a : Int)) <$> Rtype.kind t) #[.pointer (some ⟨5, 81, none⟩)]).run Tryz.prog w = .ok (.int .u8 22) w := by kernel_rfl
theorem asKindE (w : World) : ((ReflectliteType.abiMethod fun t => (fun a : Nat => Value.int IntKind.u8 (a : Int)) <$> Rtype.kind t) #[.pointer (some ⟨5, 79, none⟩)]).run Tryz.prog w = .ok (.int .u8 25) w := by kernel_rfl
theorem asRl (z : Sem Value) (f : TypeId → Addr → Nat → Nat → Sem Value) (v : Value) :
    ReflectliteValue.method z f #[v] = (do match ← ReflectliteValue.parts v with | none => z | some (t, a, fl) => f t a fl (fl % 32)) := rfl
theorem asPartsP (a : Addr) (w : World) : (ReflectliteValue.parts (.agg #[.pointer (some ⟨5, 81, none⟩), .pointer (some a), .int .u64 150])).run Tryz.prog w = .ok (some (81, a, 150)) w := by kernel_rfl
theorem asIsNil (a p : Addr) (W : World) (ha : W.cell? a = some (.pointer (some p))) :
    (ReflectliteValue.method (ReflectliteValue.valueError "reflectlite.Value.IsNil" 0) ReflectliteValue.isNil #[.agg #[.pointer (some ⟨5, 81, none⟩), .pointer (some a), .int .u64 150]]).run Tryz.prog W = .ok (.bool false) W := by
  rw [asRl]
  simp only [Sem.run_bind, asPartsP, Result.andThen]
  simp [ReflectliteValue.isNil, loadVar, isAgg, underlying, Tryz.underlying81, ha, Result.andThen]
theorem asMethodElem (h : Value) (w : World) : (Go.method 397 145 (.agg #[h]) "Elem").run Tryz.prog w = .ok (213, .agg #[h]) w := by kernel_rfl
theorem asMethodImpl (h : Value) (w : World) : (Go.method 397 145 (.agg #[h]) "Implements").run Tryz.prog w = .ok (214, .agg #[h]) w := by kernel_rfl
theorem asMethodAss (h : Value) (w : World) : (Go.method 397 145 (.agg #[h]) "AssignableTo").run Tryz.prog w = .ok (211, .agg #[h]) w := by kernel_rfl
theorem asElemT (w : World) : (ReflectliteType.method ReflectliteType.elem #[.agg #[.pointer (some ⟨5, 81, none⟩)]]).run Tryz.prog w = .ok (.iface 145 (.agg #[.pointer (some ⟨5, 79, none⟩)])) w := by kernel_rfl
theorem asImplE (w : World) : (ReflectliteType.relation "Implements" ReflectliteType.implements_ #[.agg #[.pointer (some ⟨5, 79, none⟩)], .iface 145 (.agg #[.pointer (some ⟨5, 62, none⟩)])]).run Tryz.prog w = .ok (.bool true) w := by kernel_rfl
theorem asTypeOfE (v : Value) (w : World) : (ReflectliteType.typeOf #[.iface 79 v]).run Tryz.prog w = .ok (.iface 145 (.agg #[.pointer (some ⟨5, 79, none⟩)])) w := by kernel_rfl
theorem asAssE (w : World) : (ReflectliteType.relation "AssignableTo" ReflectliteType.assignableTo #[.agg #[.pointer (some ⟨5, 79, none⟩)], .iface 145 (.agg #[.pointer (some ⟨5, 79, none⟩)])]).run Tryz.prog w = .ok (.bool true) w := by kernel_rfl
theorem asElemOf (w : World) : (Rtype.elem? 81).run Tryz.prog w = .ok (some 79) w := by kernel_rfl
theorem asMkE (p : Addr) (w : World) : (ReflectliteValue.mk 79 p ReflectliteValue.flagAddr).run Tryz.prog w = .ok (.agg #[.pointer (some ⟨5, 79, none⟩), .pointer (some p), .int .u64 409]) w := by kernel_rfl
theorem asElemV (a p : Addr) (W : World) (ha : W.cell? a = some (.pointer (some p))) :
    (ReflectliteValue.method (ReflectliteValue.valueError "reflectlite.Value.Elem" 0) ReflectliteValue.elem #[.agg #[.pointer (some ⟨5, 81, none⟩), .pointer (some a), .int .u64 150]]).run Tryz.prog W
      = .ok (.agg #[.pointer (some ⟨5, 79, none⟩), .pointer (some p), .int .u64 409]) W := by
  rw [asRl]
  simp only [Sem.run_bind, asPartsP, Result.andThen]
  simp [ReflectliteValue.elem, loadVar, isAgg, underlying, Tryz.underlying81, ha, Result.andThen, asElemOf, asMkE]
theorem asPartsEa (a : Addr) (w : World) : (ReflectliteValue.parts (.agg #[.pointer (some ⟨5, 79, none⟩), .pointer (some a), .int .u64 409])).run Tryz.prog w = .ok (some (79, a, 409)) w := by kernel_rfl
theorem asPartsE (a : Addr) (w : World) : (ReflectliteValue.parts (.agg #[.pointer (some ⟨5, 79, none⟩), .pointer (some a), .int .u64 153])).run Tryz.prog w = .ok (some (79, a, 153)) w := by kernel_rfl
theorem asDirect (w : World) : (Rtype.directlyAssignable 79 79).run Tryz.prog w = .ok true w := by kernel_rfl
end Go.Proofs.YtgpghapnmalipaaGreatDoor
namespace Go.Proofs.YtgpghapnmalipaaGreatDoor
open Go.RowKit Go.Extern.Stop Go.Stop Go.Extern
theorem asSet (tb b : Nat) (c : Int) (old : Value) (W : World) (hb : W.cell? ⟨b, 0, none⟩ = some (.int .i64 c)) (ht : W.cell? ⟨tb, 0, none⟩ = some old) (hf : W.frozen? ⟨tb, 0, none⟩ = false) :
    (ReflectliteValue.set #[.agg #[.pointer (some ⟨5, 79, none⟩), .pointer (some ⟨tb, 0, none⟩), .int .u64 409], .agg #[.pointer (some ⟨5, 79, none⟩), .pointer (some ⟨b, 0, none⟩), .int .u64 153]]).run Tryz.prog W
      = .ok (.tuple #[]) (W.setCell ⟨tb, 0, none⟩ (.int .i64 c)) := by
  show (Bind.bind (ReflectliteValue.parts _) _ : Sem Value).run Tryz.prog W = _
  simp only [Array.getLit, List.getElem_toArray, List.getElem_cons_zero, List.getElem_cons_succ, Sem.run_bind, asPartsEa, asPartsE, Result.andThen]
  have hl : (loadCells ⟨b, 0, none⟩ 1).run Tryz.prog W = .ok #[.int .i64 c] W := by simp [loadCells, loadCellsFrom, go_sem, hb]
  simp [ReflectliteValue.flagAddr, loadVar, isAgg, underlying, Tryz.underlying79, Result.andThen, asDirect, storeVar, Value.cells, hl]
  simp [storeCells, Addr.add]
  rw [run_store Tryz.prog W ⟨tb, 0, none⟩ _ _ (by rfl)]
  simp [ht, hf]
end Go.Proofs.YtgpghapnmalipaaGreatDoor
namespace Go.Proofs.YtgpghapnmalipaaGreatDoor
open Go.RowKit Go.Extern.Stop Go.Stop Go.Extern
set_option maxHeartbeats 4000000 in
theorem as_hit (c : Int) (tb : Nat) (old : Value) (w : World) (hg : w.cell? ⟨0, 0, none⟩ = some (.iface 145 (.agg #[.pointer (some ⟨5, 62, none⟩)]))) (ht0 : w.cell? ⟨tb, 0, none⟩ = some old) (hf0 : w.frozen? ⟨tb, 0, none⟩ = false) :
    Calls Tryz.prog 42 #[.iface 79 (.agg #[.int .i64 c]), .iface 81 (.pointer (some ⟨tb, 0, none⟩))] w fun ev w' => ev = .returned (.bool true) ∧ w' = ((((w.alloc (.cells #[.pointer (some ⟨tb, 0, none⟩)] 81)).alloc (.cells #[.pointer (some ⟨5, 81, none⟩), .pointer (some ⟨w.heap.size, 0, none⟩), .int .u64 150] 96)).alloc (.cells #[.pointer (some ⟨5, 81, none⟩), .pointer (some ⟨w.heap.size, 0, none⟩), .int .u64 150] 96)).alloc (.cells #[.int .i64 c] 79)).setCell ⟨tb, 0, none⟩ (.int .i64 c) := by
  have h6 := @run_callFunc_extern Tryz.prog 59 _ (fun args => ReflectliteValue.unpack (args.getD 0 (.tuple #[]))) Tryz.func59 (by kernel_rfl) (by kernel_rfl) (by kernel_rfl) (by kernel_rfl)
  have h7 := @run_callFunc_extern Tryz.prog 60 _ (ReflectliteValue.methodAny (ReflectliteValue.valueError "reflectlite.Value.Type" 0) (fun t _ _ _ => ReflectliteType.toType t)) Tryz.func60 (by kernel_rfl) (by kernel_rfl) (by kernel_rfl) (by kernel_rfl)
  have h8 := @run_callFunc_extern Tryz.prog 61 _ (ReflectliteValue.method (ReflectliteValue.valueError "reflectlite.Value.IsNil" 0) ReflectliteValue.isNil) Tryz.func61 (by kernel_rfl) (by kernel_rfl) (by kernel_rfl) (by kernel_rfl)
  have h27 := @run_callFunc_extern Tryz.prog 199 _ (ReflectliteType.abiMethod fun t => do pure (.int .u8 (← Rtype.kind t))) Tryz.func199 (by kernel_rfl) (by kernel_rfl) (by kernel_rfl) (by kernel_rfl)
  have h37 := @run_callFunc_extern Tryz.prog 213 _ (ReflectliteType.method ReflectliteType.elem) Tryz.func213 (by kernel_rfl) (by kernel_rfl) (by kernel_rfl) (by kernel_rfl)
  have h38 := @run_callFunc_extern Tryz.prog 214 _ (ReflectliteType.relation "Implements" ReflectliteType.implements_) Tryz.func214 (by kernel_rfl) (by kernel_rfl) (by kernel_rfl) (by kernel_rfl)
  have h10 := @run_callFunc_extern Tryz.prog 89 _ ReflectliteType.typeOf Tryz.func89 (by kernel_rfl) (by kernel_rfl) (by kernel_rfl) (by kernel_rfl)
  have h35 := @run_callFunc_extern Tryz.prog 211 _ (ReflectliteType.relation "AssignableTo" ReflectliteType.assignableTo) Tryz.func211 (by kernel_rfl) (by kernel_rfl) (by kernel_rfl) (by kernel_rfl)
  have h11 := @run_callFunc_extern Tryz.prog 90 _ (ReflectliteValue.method (ReflectliteValue.valueError "reflectlite.Value.Elem" 0) ReflectliteValue.elem) Tryz.func90 (by kernel_rfl) (by kernel_rfl) (by kernel_rfl) (by kernel_rfl)
  have h12 := @run_callFunc_extern Tryz.prog 91 _ ReflectliteValue.set Tryz.func91 (by kernel_rfl) (by kernel_rfl) (by kernel_rfl) (by kernel_rfl)
  have tO := asTypeOfE
  have mA := asMethodAss
  have a25 := asAssE
  have v25 := asValueE
  have f6 := asValueP
  have f7 := asTypeP
  have mK := asMethodKind
  have mE := asMethodElem
  have mI := asMethodImpl
  have k27 := asKindP
  have k25 := asKindE
  have e27 := asElemT
  have i25 := asImplE
  generalize htd : (⟨tb, 0, none⟩ : Addr) = t at *
  have n8 := asIsNil ⟨w.heap.size, 0, none⟩ t ((w.alloc (.cells #[.pointer (some t)] 81)).alloc (.cells #[.pointer (some ⟨5, 81, none⟩), .pointer (some ⟨w.heap.size, 0, none⟩), .int .u64 150] 96)) (by simp)
  have hlt : 0 < w.heap.size := by
    rcases Nat.eq_zero_or_pos w.heap.size with h0 | h
    · simp [World.cell?, h0] at hg
    · exact h
  have hg2 : ((w.alloc (.cells #[.pointer (some t)] 81)).alloc (.cells #[.pointer (some ⟨5, 81, none⟩), .pointer (some ⟨w.heap.size, 0, none⟩), .int .u64 150] 96)).cell? ⟨0, 0, none⟩ = some (.iface 145 (.agg #[.pointer (some ⟨5, 62, none⟩)])) := by
    rw [World.cell?_alloc_lt _ _ ⟨0, 0, none⟩ (by simp), World.cell?_alloc_lt _ _ ⟨0, 0, none⟩ hlt]; exact hg
  have htl : t.block < w.heap.size := by
    rcases Nat.lt_or_ge t.block w.heap.size with h | h
    · exact h
    · simp [World.cell?, Array.getElem?_eq_none h] at ht0
  have el := asElemV ⟨w.heap.size, 0, none⟩ t (((w.alloc (.cells #[.pointer (some t)] 81)).alloc (.cells #[.pointer (some ⟨5, 81, none⟩), .pointer (some ⟨w.heap.size, 0, none⟩), .int .u64 150] 96)).alloc (.cells #[.pointer (some ⟨5, 81, none⟩), .pointer (some ⟨w.heap.size, 0, none⟩), .int .u64 150] 96)) (by rw [World.cell?_alloc_lt _ _ ⟨w.heap.size, 0, none⟩ (by simp; omega)]; simp)
  have st := asSet tb (w.heap.size + 1 + 1 + 1) c old ((((w.alloc (.cells #[.pointer (some t)] 81)).alloc (.cells #[.pointer (some ⟨5, 81, none⟩), .pointer (some ⟨w.heap.size, 0, none⟩), .int .u64 150] 96)).alloc (.cells #[.pointer (some ⟨5, 81, none⟩), .pointer (some ⟨w.heap.size, 0, none⟩), .int .u64 150] 96)).alloc (.cells #[.int .i64 c] 79))
    (by rw [World.cell?_alloc_at _ _ _ _ (by simp)]; rfl)
    (by rw [htd, World.cell?_alloc_lt _ _ t (by simp; omega), World.cell?_alloc_lt _ _ t (by simp; omega), World.cell?_alloc_lt _ _ t (by simp; omega), World.cell?_alloc_lt _ _ t htl]; exact ht0)
    (by rw [htd, World.frozen?_alloc_old _ _ t (by simp; omega), World.frozen?_alloc_old _ _ t (by simp; omega), World.frozen?_alloc_old _ _ t (by simp; omega), World.frozen?_alloc_old _ _ t (Nat.ne_of_lt htl)]; exact hf0)
  rw [htd] at st
  go_enter Tryz.func42, Tryz.ntmps42
  go_wp2
  refine wp_loop_rounds 1 ?_
  rw [rounds_succ]
  go_wp2
  go_ret
  exact ⟨rfl, rfl⟩
end Go.Proofs.YtgpghapnmalipaaGreatDoor
namespace Go.Proofs.YtgpghapnmalipaaGreatDoor
open Go.RowKit
def ErrT (w : World) : Prop := w.cell? ⟨0, 0, none⟩ = some (.iface 145 (.agg #[.pointer (some ⟨5, 62, none⟩)]))
set_option maxHeartbeats 1600000 in
theorem zipCode_any (c : Int) (w : World) (hg : ErrT w) :
    Calls Tryz.prog 29 #[faultV c] w fun e w' => e = .returned (.int .i64 c) ∧ Below w.heap.size w w' := by
  by_cases h : c = 0
  · subst h
    have hv : faultV 0 = .nilIface := rfl
    rw [hv]
    go_enter Tryz.func29, Tryz.ntmps29
    go_wp2_with fail
    refine (as_nil _ _).mono ?_
    rintro e w1 ⟨rfl, hw⟩
    rw [hw]
    clear hw
    go_wp2
    go_ret
    exact ⟨rfl, (Below.refl _ _).alloc (Nat.le_refl _) _⟩
  · have hv : faultV c = .iface 79 (.agg #[.int .i64 c]) := by unfold faultV; rw [if_neg h]
    rw [hv]
    have hlt : 0 < w.heap.size := World.block_lt_of_cell? _ _ hg
    have hgA : (w.alloc (.cells #[.int .i64 0] 79)).cell? ⟨0, 0, none⟩ = some (.iface 145 (.agg #[.pointer (some ⟨5, 62, none⟩)])) := by
      rw [World.cell?_alloc_past _ _ _ hlt]; exact hg
    have HA := hide (as_hit c w.heap.size (.int .i64 0) (w.alloc (.cells #[.int .i64 0] 79)) hgA (by simp) (by simp))
    clear hv hgA hg h
    go_enter Tryz.func29, Tryz.ntmps29
    go_wp2_with fail
    refine (unhide HA).mono ?_
    rintro e w1 ⟨rfl, hw⟩
    have hc : w1.cell? ⟨w.heap.size, 0, none⟩ = some (.int .i64 c) := by
      rw [hw]
      refine World.cell?_setCell_same _ _ _ (u := .int .i64 0) ?_
      rw [World.cell?_alloc_past _ _ _ (by first | (simp; done) | (simp; omega)), World.cell?_alloc_past _ _ _ (by first | (simp; done) | (simp; omega)), World.cell?_alloc_past _ _ _ (by first | (simp; done) | (simp; omega)), World.cell?_alloc_past _ _ _ (by first | (simp; done) | (simp; omega))]
      simp
    have HB : Hid (Below w.heap.size w w1) := by
      rw [hw]
      refine below_set ?_ (Nat.le_refl _) _
      exact (((((Below.refl _ _).alloc (Nat.le_refl _) _).alloc (by simp) _).alloc (by simp; omega) _).alloc (by simp; omega) _).alloc (by simp; omega) _
    clear hw HA
    go_wp2
    go_ret
    exact ⟨rfl, unhide HB⟩
set_option maxHeartbeats 800000 in
theorem implZipOk_any (a : Option Addr) (cap : Nat) (l : List En) (n : Nat) (hn : l.length = n) (m : Int) (w : World) (h : ERow w a l) (hl : (n : Int) ≤ 1048576) (hcap : (n : Int) ≤ (cap : Int))
    (hs : ∀ i, i < n → (l.getD i default).n.size ≤ 1048576 ∧ ((l.getD i default).t.size : Int) ≤ 9223372036854775807) (hm : w.cell? ⟨2, 0, none⟩ = some (.int .i64 m)) (hg : ErrT w) :
    Calls Tryz.prog 17 #[.slice a n cap] w fun e w' => e = .returned (.bool (zipB l)) ∧ Below w.heap.size w w' := by
  have HW := hide (zipWrong_any a cap l n hn m w h hl hcap hs hm)
  have HG := hide hg
  have HZ : Hid (∀ c : Int, (c = 0 ↔ ∀ i, i < n → codeC l i = 0) → zipB l = decide (c = 0)) := by
    intro c hc
    rw [← hn] at hc
    rw [← zip_codes] at hc
    cases hz : zipB l
    · rw [hz] at hc; simp at hc; simp [hc]
    · rw [hz] at hc; simp at hc; simp [hc]
  clear h hs hm hg hn
  go_enter Tryz.func17, Tryz.ntmps17
  go_wp2_with fail
  refine (unhide HW).mono ?_
  rintro e w1 ⟨⟨c, rfl, hc, hin⟩, hb1⟩
  have HC := hide (unhide HZ c hc)
  have HB1 := hide hb1
  have HG1 : Hid (ErrT w1) := (hb1.cell (p := ⟨0, 0, none⟩) (World.block_lt_of_cell? _ _ (unhide HG))).trans (unhide HG)
  have c0 : -1 ≤ c := by rcases hin with h | h | h | h <;> omega
  have c1 : c ≤ 5 := by rcases hin with h | h | h | h <;> omega
  clear hc hin hb1 HW HZ
  go_wp2_with fail
  refine (zipCode_any c _ (unhide HG1)).mono ?_
  rintro e w2 ⟨rfl, hb2⟩
  have HB2 := hide (bnext (unhide HB1) hb2)
  clear hb2
  go_wp2
  go_ret
  exact ⟨ret_bool (by rw [unhide HC]; rfl), unhide HB2⟩
end Go.Proofs.YtgpghapnmalipaaGreatDoor
namespace Go.Proofs.YtgpghapnmalipaaGreatDoor
open Go.RowKit
set_option maxRecDepth 100000 in
set_option maxHeartbeats 4000000 in
theorem toEntryS_any (a : Option Addr) (cap n : Nat) (l : List En) (w : World) (hn : l.length = n) (h : ERow w a l) (hm : n ≤ 1048576) :
    Calls Tryz.prog 7 #[.slice a n cap] w fun e w' => e = .returned (.slice (some ⟨w.heap.size, 0, none⟩) n n) ∧ EOwn w' w.heap.size (.slice (some ⟨w.heap.size, 0, none⟩) n n) l ∧ Below w.heap.size w w' := by
  have hm' : (n : Int) ≤ 1048576 := by omega
  obtain ⟨i0, hi, hz0, hz1, hz2⟩ := info_parts Tryz.infoEnt
  have Hn := hide hn
  have HH := hide h
  clear h
  go_enter Tryz.func7, Tryz.ntmps7
  go_wp2_with (at_make; refine wpList_make_full _ rfl _ _ 25 rfl w.heap.size 42 i0 (.agg #[.string ⟨#[]⟩, .int .i64 0, .int .i64 0, .int .i64 0, .int .i64 0, .int .i64 0, .int .i64 0, .string ⟨#[]⟩]) 8 Tryz.underlying25 hi hz0 hz1 .i64 .i64 _ _ n rfl rfl rfl rfl (by rw [hz2]; omega) (by unfold maxLen; omega) (Nat.le_refl _) ?_; intro w1 hown hgrow)
  have hp0 : EOwn w1 w.heap.size (.slice (some ⟨w.heap.size, 0, none⟩) n n) (l.take 0 ++ List.replicate (l.length - 0) default) := by
    have := made_own encE_len (by omega) (default : En) hown
    simpa [hn] using this
  have hb0 : Below w.heap.size w w1 := (Below.refl _ _).grown hgrow (Nat.le_refl _) (fun k h => by cases h)
  clear hown hgrow hi hz0 hz1 hz2 hm hn
  go_loopw [4] (fun i wr => ∃ k : Nat, k ≤ n ∧ i = .int .i64 k ∧ EOwn wr w.heap.size (.slice (some ⟨w.heap.size, 0, none⟩) n n) (l.take k ++ List.replicate (l.length - k) default) ∧ Below w.heap.size w wr) (fun i _ => n - (intOf i).toNat)
  case atStart => exact ⟨0, Nat.zero_le _, rfl, hp0, hb0⟩
  case round =>
    obtain ⟨k, hk, rfl, hp, hbel⟩ := hrel
    clear hp0 hb0
    have hlen : Hid ((l.take k ++ List.replicate (l.length - k) default).length = n) := by
      show _ = n
      have := unhide Hn
      simp; omega
    by_cases hlt : k < n
    · obtain ⟨g, o, rfl, hg, hc⟩ := ((unhide HH).later hbel) (by rw [unhide Hn]; omega)
      obtain ⟨c0, c1, c2, c3, c4, c5, c6, c7⟩ := hc k (by rw [unhide Hn]; exact hlt)
      have hst := hide (copyG_step l default k (by rw [unhide Hn]; exact hlt))
      have hpl := hp.below.2
      have HP := hide (And.intro hp (And.intro hbel hk))
      clear hc hp hbel hk
      generalize hx : l.getD k default = t at *
      clear hx
      obtain ⟨n0, y, mo, d, h, mi, s, t0⟩ := t
      simp only at c0 c1 c2 c3 c4 c5 c6 c7
      go_wp2_with fail
      refine (toEntry_any n0 y mo d h mi s t0 _).mono ?_
      rintro e x1 ⟨rfl, hb1⟩
      obtain ⟨hp, hbel, hk⟩ := unhide HP
      have hp1 := hp.later hb1 (Nat.le_refl _)
      have hbel1 := bnext hbel hb1
      obtain ⟨d0, d1, d2, d3, d4, d5, d6, d7⟩ := eown_at (unhide hlen) hp1 k hlt
      obtain ⟨f0, f1, f2, f3, f4, f5, f6, f7⟩ := eown_froz (unhide hlen) hp1 k hlt
      have hput := GOwn.put encE_len (unhide hlen) hp1 k hlt ⟨n0, y, mo, d, h, mi, s, t0⟩
      rw [unhide hst] at hput
      have hB := below_many hbel1 (Nat.le_refl _) (encE ⟨n0, y, mo, d, h, mi, s, t0⟩) (k * 8)
      have HPut := hide (And.intro hput hB)
      clear hput hB hp hbel hk hp1 hbel1 hb1
      generalize ((l.take k ++ List.replicate (l.length - k) default).getD k default) = y0 at *
      go_wp2
      go_roundw
      case rel => exact ⟨k + 1, by have := (unhide HP).2.2; omega, by go_num, (unhide HPut).1, (unhide HPut).2⟩
      case measure => simp [intOf]; omega
    · have hkl : k = n := by omega
      have e : l.take k ++ List.replicate (l.length - k) default = l := by
        have := unhide Hn
        rw [List.take_of_length_le (by omega), show l.length - k = 0 by omega]; simp
      rw [e] at hp
      clear e hlen
      go_wp2
      go_ret
      exact ⟨rfl, hp, hbel⟩
theorem szEntryL_any (n : ByteArray) (y mo d h mi s : Int) (t : ByteArray) (L : Int) (w : World) (hn : (n.size : Int) ≤ 9223372036854775807) (ht : (t.size : Int) ≤ 9223372036854775807) (h0 : 0 ≤ L) (h1 : L ≤ 1048576) :
    Calls Tryz.prog 13 #[.agg #[.string n, .int .i64 y, .int .i64 mo, .int .i64 d, .int .i64 h, .int .i64 mi, .int .i64 s, .string t], .int .i64 L] w fun e w' => (∃ k : Int, e = .returned (.int .i64 k) ∧ -1 ≤ k ∧ k ≤ L ∧ (0 ≤ k → (n.size : Int) ≤ 1048576)) ∧ Below w.heap.size w w' := by
  by_cases e1 : L - (n.size : Int) < 0
  · go_enter Tryz.func13, Tryz.ntmps13
    go_wp2
    go_ret
    exact ⟨⟨-1, rfl, by omega, by omega, fun h => absurd h (by omega)⟩, (Below.refl _ _).alloc (Nat.le_refl _) _⟩
  · by_cases e2 : L - (n.size : Int) - (t.size : Int) < 0
    · go_enter Tryz.func13, Tryz.ntmps13
      go_wp2
      go_ret
      exact ⟨⟨-1, rfl, by omega, by omega, fun h => absurd h (by omega)⟩, (Below.refl _ _).alloc (Nat.le_refl _) _⟩
    · go_enter Tryz.func13, Tryz.ntmps13
      go_wp2
      go_ret
      exact ⟨⟨_, rfl, by omega, by omega, fun _ => by omega⟩, (Below.refl _ _).alloc (Nat.le_refl _) _⟩
def ESmall (l : List En) (n : Nat) : Prop := ∀ i, i < n → ((l.getD i default).n.size : Int) ≤ 9223372036854775807 ∧ ((l.getD i default).t.size : Int) ≤ 9223372036854775807
set_option maxHeartbeats 1600000 in
theorem szEntryS_any (a : Option Addr) (cap n : Nat) (l : List En) (w : World) (hn : l.length = n) (h : ERow w a l) (hm : (n : Int) ≤ 9223372036854775807) (hs : ESmall l n) :
    Calls Tryz.prog 5 #[.slice a n cap, .int .i64 1048576] w fun e w' => (∃ k : Int, e = .returned (.int .i64 k) ∧ -1 ≤ k ∧ k ≤ 1048576 ∧ (0 ≤ k → (n : Int) ≤ 1048576 ∧ ∀ i, i < n → (l.getD i default).n.size ≤ 1048576)) ∧ Below w.heap.size w w' := by
  have Hn := hide hn
  have HH := hide h
  have HS := hide hs
  clear hn h hs
  by_cases e1 : (1048576 : Int) - (n : Int) < 0
  · go_enter Tryz.func5, Tryz.ntmps5
    go_wp2
    go_ret
    exact ⟨⟨-1, rfl, by omega, by omega, fun h => absurd h (by omega)⟩, Below.refl _ _⟩
  · go_enter Tryz.func5, Tryz.ntmps5
    go_wp2_with fail
    go_loopw [1, 5] (fun L i wr => ∃ (k : Nat) (r : Int), k ≤ n ∧ i = .int .i64 k ∧ L = .int .i64 r ∧ 0 ≤ r ∧ r ≤ 1048576 ∧ (∀ j, j < k → (l.getD j default).n.size ≤ 1048576) ∧ Below w.heap.size w wr) (fun _ i _ => n - (intOf i).toNat)
    case atStart => exact ⟨0, _, Nat.zero_le _, rfl, rfl, by omega, by omega, fun j hj => absurd hj (by omega), Below.refl _ _⟩
    case round =>
      obtain ⟨k, r, hk, rfl, rfl, r0, r1, hall, hbel⟩ := hrel
      have HK := hide hk
      have HA := hide hall
      have HB := hide hbel
      clear hall hk
      by_cases hlt : k < n
      · obtain ⟨g, o, rfl, hg, hc⟩ := ((unhide HH).later hbel) (by rw [unhide Hn]; omega)
        obtain ⟨c0, c1, c2, c3, c4, c5, c6, c7⟩ := hc k (by rw [unhide Hn]; exact hlt)
        obtain ⟨s0, s1⟩ := unhide HS k hlt
        have HNX : Hid ((l.getD k default).n.size ≤ 1048576 → ∀ j, j < k + 1 → (l.getD j default).n.size ≤ 1048576) := by
          intro e j hj
          by_cases hjk : j = k
          · rw [hjk]; exact e
          · exact unhide HA j (by omega)
        clear hc hbel
        generalize l.getD k default = t at *
        obtain ⟨n0, y, mo, d, h, mi, s, t0⟩ := t
        simp only at c0 c1 c2 c3 c4 c5 c6 c7 s0 s1
        go_wp2_with fail
        refine (szEntryL_any n0 y mo d h mi s t0 r _ s0 s1 r0 r1).mono ?_
        rintro e x1 ⟨⟨q, rfl, q0, q1, q2⟩, hb1⟩
        have HB1 := hide (bnext (unhide HB) hb1)
        have HQ := hide q2
        clear hb1 q2 c0 c1 c2 c3 c4 c5 c6 c7
        by_cases hq : q < 0
        · go_wp2
          go_ret
          exact ⟨⟨-1, rfl, by omega, by omega, fun h => absurd h (by omega)⟩, unhide HB1⟩
        · go_wp2
          go_roundw
          case rel => exact ⟨k + 1, q, by omega, by go_num, rfl, by omega, by omega, unhide HNX (by have := unhide HQ (by omega); show n0.size ≤ _; omega), unhide HB1⟩
          case measure => simp [intOf]; omega
      · obtain rfl : k = n := by have := unhide HK; omega
        go_wp2
        go_ret
        exact ⟨⟨r, rfl, by omega, by omega, fun _ => ⟨by omega, unhide HA⟩⟩, unhide HB⟩
theorem eqStamp_same (y mo d h mi s : Int) (w : World) :
    Calls Tryz.prog 36 #[.agg #[.int .i64 y, .int .i64 mo, .int .i64 d, .int .i64 h, .int .i64 mi, .int .i64 s], .agg #[.int .i64 y, .int .i64 mo, .int .i64 d, .int .i64 h, .int .i64 mi, .int .i64 s]] w fun e w' => e = .returned (.bool true) ∧ Below w.heap.size w w' := by
  go_enter Tryz.func36, Tryz.ntmps36
  go_wp2
  go_ret
  exact ⟨rfl, ((Below.refl _ _).alloc (Nat.le_refl _) _).alloc (by simp) _⟩
set_option maxHeartbeats 1600000 in
theorem eqEntry_same (n : ByteArray) (y mo d h mi s : Int) (t : ByteArray) (w : World) :
    Calls Tryz.prog 21 #[.agg #[.string n, .int .i64 y, .int .i64 mo, .int .i64 d, .int .i64 h, .int .i64 mi, .int .i64 s, .string t], .agg #[.string n, .int .i64 y, .int .i64 mo, .int .i64 d, .int .i64 h, .int .i64 mi, .int .i64 s, .string t]] w fun e w' => e = .returned (.bool true) ∧ Below w.heap.size w w' := by
  have X0 := ent_alloc w n y mo d h mi s t 42
  have X1 := ent_alloc (w.alloc (.cells #[.string n, .int .i64 y, .int .i64 mo, .int .i64 d, .int .i64 h, .int .i64 mi, .int .i64 s, .string t] 42)) n y mo d h mi s t 42
  have X0' := hide (X0.later ((Below.refl _ _).alloc (Nat.le_refl _) (.cells #[.string n, .int .i64 y, .int .i64 mo, .int .i64 d, .int .i64 h, .int .i64 mi, .int .i64 s, .string t] 42)) (by simp))
  have e1 : (w.alloc (.cells #[.string n, .int .i64 y, .int .i64 mo, .int .i64 d, .int .i64 h, .int .i64 mi, .int .i64 s, .string t] 42)).heap.size = w.heap.size + 1 := by simp
  rw [e1] at X1
  have HX1 := hide X1
  have B0 : Hid (Below w.heap.size w ((w.alloc (.cells #[.string n, .int .i64 y, .int .i64 mo, .int .i64 d, .int .i64 h, .int .i64 mi, .int .i64 s, .string t] 42)).alloc (.cells #[.string n, .int .i64 y, .int .i64 mo, .int .i64 d, .int .i64 h, .int .i64 mi, .int .i64 s, .string t] 42))) := ((Below.refl _ _).alloc (Nat.le_refl _) _).alloc (by simp) _
  clear X0 X1 e1
  go_enter Tryz.func21, Tryz.ntmps21
  go_wp2_with fail
  refine (eqStamp_same y mo d h mi s _).mono ?_
  rintro e x1 ⟨rfl, hb1⟩
  have Y0 := (unhide X0').later hb1 (unhide X0').2.2
  have Y1 := (unhide HX1).later hb1 (unhide HX1).2.2
  have HB := hide (bnext (unhide B0) hb1)
  clear hb1 X0' HX1 B0
  obtain ⟨⟨p0, p1, p2, p3, p4, p5, p6, p7⟩, _, _⟩ := Y0
  obtain ⟨⟨q0, q1, q2, q3, q4, q5, q6, q7⟩, _, _⟩ := Y1
  go_wp2
  go_ret
  exact ⟨rfl, unhide HB⟩
set_option maxHeartbeats 1600000 in
theorem eqEntryS_same (a b : Option Addr) (c d n : Nat) (l : List En) (w : World) (hn : l.length = n) (ha : ERow w a l) (hb : ERow w b l) (hl : n ≤ 2000000) :
    Calls Tryz.prog 9 #[.slice a n c, .slice b n d] w fun e w' => e = .returned (.bool true) ∧ Below w.heap.size w w' := by
  subst hn
  have hlI : (l.length : Int) ≤ 2000000 := by omega
  have HA := hide ha
  have HB := hide hb
  clear hl ha hb
  go_enter Tryz.func9, Tryz.ntmps9
  go_wp2_with fail
  go_loopw [5] (fun i wr => ∃ k : Nat, k ≤ l.length ∧ i = .int .i64 k ∧ Below w.heap.size w wr) (fun i _ => l.length - (intOf i).toNat)
  case atStart => exact ⟨0, Nat.zero_le _, rfl, Below.refl _ _⟩
  case round =>
    obtain ⟨k, hk, rfl, hbel⟩ := hrel
    have HK := hide hk
    by_cases hlt : k < l.length
    · obtain ⟨g, o, rfl, hg, hc⟩ := ((unhide HA).later hbel) (by omega)
      obtain ⟨g', o', rfl, hg', hc'⟩ := ((unhide HB).later hbel) (by omega)
      obtain ⟨c0, c1, c2, c3, c4, c5, c6, c7⟩ := hc k hlt
      obtain ⟨d0, d1, d2, d3, d4, d5, d6, d7⟩ := hc' k hlt
      have HBel := hide hbel
      clear hc hc' hk hbel
      generalize hx : l.getD k default = t at *
      clear hx
      obtain ⟨n0, y, mo, dd, h, mi, s, t0⟩ := t
      simp only at c0 c1 c2 c3 c4 c5 c6 c7 d0 d1 d2 d3 d4 d5 d6 d7
      go_wp2_with fail
      go_region_with (go_at_call 21; refine (eqEntry_same n0 y mo dd h mi s t0 _).mono ?_; rintro e x1 ⟨rfl, hb1⟩)
      all_goals
        go_wp2
        go_roundw
        case rel => exact ⟨k + 1, by omega, by go_num, (unhide HBel).drew.trans (hb1.mono (unhide HBel).size)⟩
        case measure => simp [intOf]; omega
    · go_wp2
      go_ret
      exact ⟨rfl, hbel⟩
end Go.Proofs.YtgpghapnmalipaaGreatDoor
