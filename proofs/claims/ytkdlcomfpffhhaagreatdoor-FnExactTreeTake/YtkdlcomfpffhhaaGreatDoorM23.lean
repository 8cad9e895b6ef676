/- Of what the proof is made: 4 texts, one behind the other. -/
import Derived.Test.YtkdlcomfpffhhaaGreatDoorM8
import Derived.Test.YtkdlcomfpffhhaaGreatDoorM18
import Derived.RangeFuncNested
import Derived.RangeFuncBound
import Derived.RangeFuncCalls
import Derived.RangeFuncLeaves
import Derived.RangeFuncBox
import Derived.Shelf.Abstract
import Derived.Shelf.RegionOpen
import Derived.WalkKit
import Derived.OwnWalkIn
import Derived.TacticsInMore
import Derived.LoopNIn
import Derived.LoopIn
import Derived.Maps.AppendAt
import Derived.Test.YtkdlcomfpffhhaaGreatDoorM10
import Derived.Test.YtkdlcomfpffhhaaGreatDoorM5
import Derived.Test.YtkdlcomfpffhhaaGreatDoorM2
import Derived.Test.YtkdlcomfpffhhaaGreatDoorM6
import Derived.Test.YtkdlcomfpffhhaaGreatDoorTi1
namespace Go.Proofs.YtkdlcomfpffhhaaGreatDoor
open Go.RowKit
def encE (e:En):List Value:=[.string e.n,.int .i64 e.y,.int .i64 e.mo,.int .i64 e.d,.int .i64 e.h,.int .i64 e.mi,.int .i64 e.s,.string e.t]
theorem encE_len (e:En):(encE e).length=8:=rfl
theorem encE_one (e:En):∀ u∈encE e,u.oneCell'=true:=by
 intro u hu
 simp only [encE,List.mem_cons,List.not_mem_nil,or_false] at hu
 rcases hu with rfl | rfl | rfl | rfl | rfl | rfl | rfl | rfl <;> rfl
abbrev EOwn (w:World) (base:Nat) (v:Value) (l:List En):Prop:=GOwn 32 8 encE w base v l
theorem en_at {w:World} {g o:Nat} {e:En} (h:∀ j,j<8→w.cell? ⟨g,o+j,none⟩=(encE e)[j]?):EnAt w g o e:=
 ⟨h 0 (by omega),h 1 (by omega),h 2 (by omega),h 3 (by omega),h 4 (by omega),h 5 (by omega),h 6 (by omega),h 7 (by omega)⟩
theorem eown_at {w:World} {base g cap n:Nat} {l:List En} (hn:l.length=n) (h:EOwn w base (.slice (some ⟨g,0,none⟩) n cap) l) (i:Nat) (hi:i<n):EnAt w g (i*8) (l.getD i default):=
 en_at fun j hj=>(GOwn.at encE_len default hn h i j hi hj).1
theorem eown_row {w:World} {base cap n:Nat} {a:Option Addr} {l:List En} (hn:l.length=n) (h:EOwn w base (.slice a n cap) l):ERow w a l:=by
 intro h0
 obtain ⟨g,rfl⟩:=h.somes h0
 refine ⟨g,0,rfl,h.below.2,fun i hi=>?_⟩
 rw [Nat.zero_add]
 exact eown_at hn h i (by omega)
theorem Tryz.infoEnt:(Tryz.prog.info? 32).map (fun i=>(i.zero,i.size,i.bytes))=some (some (.agg #[.string ⟨#[]⟩,.int .i64 0,.int .i64 0,.int .i64 0,.int .i64 0,.int .i64 0,.int .i64 0,.string ⟨#[]⟩]),8,80):=by kernel_rfl
end Go.Proofs.YtkdlcomfpffhhaaGreatDoor
namespace Go.Proofs.YtkdlcomfpffhhaaGreatDoor
open Go.RowKit Go.Shelf
attribute [local go_sem] Oper.semAt_some
end Go.Proofs.YtkdlcomfpffhhaaGreatDoor
namespace Go.Proofs.YtkdlcomfpffhhaaGreatDoor
open Go.RowKit Go.Shelf
attribute [local go_sem] Oper.semAt_some
end Go.Proofs.YtkdlcomfpffhhaaGreatDoor
namespace Go.Proofs.YtkdlcomfpffhhaaGreatDoor
open Go.RowKit Go.Shelf
attribute [local go_sem] Oper.semAt_some
end Go.Proofs.YtkdlcomfpffhhaaGreatDoor
