/- Of what the proof is made: 2 texts, one behind the other. -/
import Derived.Test.YtemjckkocljgnaaGreatDoorGq1
import Derived.Defers
import Derived.Recover
import Derived.Test.YtemjckkocljgnaaGreatDoorM9
import Derived.Test.YtemjckkocljgnaaGreatDoorM23
namespace Go.Proofs.YtemjckkocljgnaaGreatDoor
open Go.RowKit Corb
theorem catch_idle (w:World) :
  CallsD Tryz.prog 137 #[] .returning w fun e u' w'=>e = .returned (.tuple #[])∧u' = .returning∧w'=w:=by
 refine callsD_of_wpS Tryz.func137 rfl fun c₀ cs hu=>?_
 apply wpS_seq
 apply wpS_region
 simp [wpOpsS,go_sem,recoverD,hu,Tryz.ntmps137,Exit.thenS]
 refine wpS_of_wp ?_
 go_wp2_with fail
 cases c₀
 simp_all [bodyPostS,results,Tryz.results137]
set_option maxRecDepth 100000 in
theorem catch_fault (w:World) :
  CallsD Tryz.prog 137 #[] (.panicking [{ v:=.iface 204 (.agg #[]),recovered:=false }]) w fun e u' w'=>e = .returned (.tuple #[])∧u' = .panicking [{ v:=.iface 204 (.agg #[]),recovered:=true }]∧Below w.heap.size w w':=by
 refine callsD_of_wpS Tryz.func137 rfl fun c₀ cs hu=>?_
 apply wpS_seq
 apply wpS_region
 simp [wpOpsS,go_sem,recoverD,hu,Tryz.ntmps137,Exit.thenS]
 have hAs:(Instr.typeAssert (.iface 204 (.agg #[])) 20 204 true).run Tryz.prog w = .ok (.tuple #[.agg #[],.bool true]) w:=by kernel_rfl
 refine wpS_of_wp ?_
 go_wp2_with fail
 simp [bodyPostS,results,Tryz.results137]
 exact (Below.refl _ _).alloc (Nat.le_refl _) _
def UnP (w:World) (b:Nat) (s:ByteArray) (d:Option (List UInt8×Nat)) (e:Ending) (w':World):Prop:=
 KU b w w'∧match d with
  | none=>e = .returned (.bool false)
  | some (T,q)=>e = .returned (.bool true)∧Sou w' b s q T
set_option maxRecDepth 100000 in
theorem unpacked_any (b p:Nat) (s:ByteArray) (T:List UInt8) (w:World) (h:Sou w b s p T) (hT:T.length≤300) (hp:p≤8*s.size) (hs:s.size≤2000000) (hO:OrdC w) (hb:5<b) :
  Calls Tryz.prog 118 #[.pointer (some ⟨b,0,none⟩)] w (UnP w b s (wholeG (numB s) (8*s.size) p T)):=by
 have HP:=hide (parts_any b p s T w h hT hp hs hO hb)
 have hlt:=h.lt
 clear h hT hp hs hO hb
 generalize wholeG (numB s) (8*s.size) p T=d at *
 have hmf:∀ (fn:Fn) (first cap:Array Value) (w:World),(Instr.makeFunc fn first cap).run Tryz.prog w = .ok (.func fn first cap) w:=fun _ _ _ _=>rfl
 unfold LayP at HP
 unfold UnP
 rcases d with _ | ⟨T',q⟩
 ·
  go_enter_defers Tryz.func118,Tryz.ntmps118
  go_wp2_with fail
  refine (unhide HP).mono ?_
  rintro e x1 ⟨k1,rfl⟩
  have HY:=hide (And.intro k1 (show b<x1.heap.size from Nat.lt_of_lt_of_le hlt k1.1.size))
  clear k1 HP
  unfold faultE
  refine leaves_cons (f:=137) (args:=#[]) (by simp) (by simp [go_sem]) ?_
  refine (catch_fault x1).mono ?_
  rintro e u' w'' ⟨rfl,rfl,b2⟩
  have hk:=(unhide HY).1.later b2 (unhide HY).2
  simp [Leaves,settle,results,Tryz.results118,go_sem]
  exact hk
 ·
  go_enter_defers Tryz.func118,Tryz.ntmps118
  go_wp2_with fail
  refine (unhide HP).mono ?_
  rintro e x1 ⟨k1,rfl,s1⟩
  have HY:=hide (And.intro k1 s1)
  clear k1 s1 HP
  go_wp2_with fail
  refine leaves_cons (f:=137) (args:=#[]) (by simp) (by simp [go_sem]) ?_
  refine (catch_idle x1).mono ?_
  rintro e u' w'' ⟨rfl,rfl,rfl⟩
  simp [Leaves,settle,results,Tryz.results118,go_sem]
  exact unhide HY
end Go.Proofs.YtemjckkocljgnaaGreatDoor
namespace Go.Proofs.YtemjckkocljgnaaGreatDoor
open Go.RowKit
def encE (e:En):List Value:=[.string e.n,.int .i64 e.y,.int .i64 e.mo,.int .i64 e.d,.int .i64 e.h,.int .i64 e.mi,.int .i64 e.s,.string e.t]
theorem encE_len (e:En):(encE e).length=8:=rfl
theorem encE_one (e:En):∀ u∈encE e,u.oneCell'=true:=by
 intro u hu
 simp only [encE,List.mem_cons,List.not_mem_nil,or_false] at hu
 rcases hu with rfl | rfl | rfl | rfl | rfl | rfl | rfl | rfl <;> rfl
abbrev EOwn (w:World) (base:Nat) (v:Value) (l:List En):Prop:=GOwn 61 8 encE w base v l
theorem en_at {w:World} {g o:Nat} {e:En} (h:∀ j,j<8→w.cell? ⟨g,o+j,none⟩=(encE e)[j]?):EnAt w g o e:=
 ⟨h 0 (by omega),h 1 (by omega),h 2 (by omega),h 3 (by omega),h 4 (by omega),h 5 (by omega),h 6 (by omega),h 7 (by omega)⟩
theorem eown_at {w:World} {base g cap n:Nat} {l:List En} (hn:l.length=n) (h:EOwn w base (.slice (some ⟨g,0,none⟩) n cap) l) (i:Nat) (hi:i<n):EnAt w g (i*8) (l.getD i default):=
 en_at fun j hj=>(GOwn.at encE_len default hn h i j hi hj).1
theorem eown_row {w:World} {base cap n:Nat} {a:Option Addr} {l:List En} (hn:l.length=n) (h:EOwn w base (.slice a n cap) l):ERow w a l:=by
 intro h0
 obtain ⟨g,rfl⟩:=h.somes h0
 refine ⟨g,0,rfl,h.below.2,fun i hi=>?_⟩
 rw [Nat.zero_add]
 exact eown_at hn h i (by omega)
theorem Tryz.infoEnt:(Tryz.prog.info? 61).map (fun i=>(i.zero,i.size,i.bytes))=some (some (.agg #[.string ⟨#[]⟩,.int .i64 0,.int .i64 0,.int .i64 0,.int .i64 0,.int .i64 0,.int .i64 0,.string ⟨#[]⟩]),8,80):=by kernel_rfl
end Go.Proofs.YtemjckkocljgnaaGreatDoor
