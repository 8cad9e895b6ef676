/- Of what the proof is made: 4 texts, one behind the other. -/
import Derived.Test.YtemjckkocljgnaaGreatDoorM12
import Derived.Deep.RegionHeld3
import Derived.BigQuiet
import Derived.Test.YtemjckkocljgnaaGreatDoorM9
import Derived.Test.YtemjckkocljgnaaGreatDoorM6
namespace Go.Proofs.YtemjckkocljgnaaGreatDoor
open Go.RowKit
def lessG (x y:Grp):Bool:=decide (x.cnt<y.cnt) || (decide (x.cnt=y.cnt)&&decide (x.fst<y.fst))
def leastF (L:List Grp):Nat→Nat
 | 0=>0
 | k+1=>if lessG (L.getD (k+1) g0) (L.getD (leastF L k) g0) then k+1 else leastF L k
def least (L:List Grp):Nat:=leastF L (L.length-1)
def bare (g:Grp):Grp:=⟨g.cnt,g.fst,g.syms,.slice none 0 0⟩
def seed (l:List Int):Nat→List Grp
 | 0=>[]
 | k+1=>if 0<l.getD k 0 then seed l k++[⟨l.getD k 0,(k:Int),[(k:Int)],.slice none 0 0⟩] else seed l k
def joinG (a b:Grp):Grp:=⟨a.cnt+b.cnt,if b.fst<a.fst then b.fst else a.fst,a.syms++b.syms,.slice none 0 0⟩
def firstG (M:List Grp):Grp:=M.getD (least M) g0
def restU (M:List Grp):List Grp:=M.eraseIdx (least M)
def stepG (M:List Grp):List Grp:=restU (restU M)++[joinG (firstG M) (firstG (restU M))]
def symsG (M:List Grp):List Int:=(firstG M).syms++(firstG (restU M)).syms
def bump1 (o:List Int) (i:Int):List Int:=o.set i.toNat (o.getD i.toNat 0+1)
def bump (o s:List Int):List Int:=s.foldl bump1 o
def hufI (l:List Int):Nat→List Grp×List Int
 | 0=>(seed l l.length,List.replicate l.length 0)
 | k+1=>(stepG (hufI l k).1,bump (hufI l k).2 (symsG (hufI l k).1))
def hufL (l:List Int):List Int:=if (seed l l.length).length=1 then (List.replicate l.length 0).set ((seed l l.length).getD 0 g0).fst.toNat 1 else (hufI l ((seed l l.length).length-1)).2
/-! What is bare is as it was. -/
/-! Bounds. -/
/-! Lengths stay small. -/
/-! What is counted once more. -/
/-! All symbols, each once. -/
/-! Where all come as often. -/
def ones (l:List Int):Prop:=∀ i,i<l.length→l.getD i 0≤1
/-! Counts are halved. -/
def halfI (x:Int):Int:=(x+1)/2
def halfL (l:List Int):List Int:=l.map halfI
def sumP (l:List Int):Nat:=(l.map Int.toNat).sum
def mostL (o:List Int):Nat→Int
 | 0=>0
 | k+1=>if mostL o k<o.getD k 0 then o.getD k 0 else mostL o k
def fits (o:List Int) (m:Int):Bool:=decide (mostL o o.length≤m)
def fitF (m:Int):Nat→List Int→List Int
 | 0,l=>hufL l
 | f+1,l=>if fits (hufL l) m then hufL l else fitF m f (halfL l)
end Go.Proofs.YtemjckkocljgnaaGreatDoor
