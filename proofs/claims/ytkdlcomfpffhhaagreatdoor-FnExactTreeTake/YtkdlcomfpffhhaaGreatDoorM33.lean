/- Of what the proof is made: 6 texts, one behind the other. -/
import Derived.Test.YtkdlcomfpffhhaaGreatDoorM22
import Derived.Test.YtkdlcomfpffhhaaGreatDoorM32
import Derived.Test.YtkdlcomfpffhhaaGreatDoorM10
import Derived.Test.YtkdlcomfpffhhaaGreatDoorM5
import Derived.Test.YtkdlcomfpffhhaaGreatDoorM2
import Derived.Test.YtkdlcomfpffhhaaGreatDoorM6
import Derived.Deep.RegionHeld3
import Derived.Deep.DeepCutAuto
import Derived.Test.YtkdlcomfpffhhaaGreatDoorM17
import Derived.Test.YtkdlcomfpffhhaaGreatDoorM8
import Derived.BigRegion
import Derived.Test.YtkdlcomfpffhhaaGreatDoorM14
import Derived.Test.YtkdlcomfpffhhaaGreatDoorM12
import Derived.Test.YtkdlcomfpffhhaaGreatDoorM3
import Derived.Test.YtkdlcomfpffhhaaGreatDoorM23
import Derived.Test.YtkdlcomfpffhhaaGreatDoorM9
import Derived.Test.YtkdlcomfpffhhaaGreatDoorM21
import Derived.Test.YtkdlcomfpffhhaaGreatDoorM11
import Derived.Lib.AppendZerosOnto
namespace Go.Proofs.YtkdlcomfpffhhaaGreatDoor
open Go.RowKit Corb
def pcTM (L D:List Int) (t:Tk):List (Int×Int):=
 if isB t then [pcM L t.1.toNat]
 else [pcM L (257+fnd 3 4 t.2.1.toNat 27),((t.2.1.toNat:Int)-((stF 3 4 (fnd 3 4 t.2.1.toNat 27)).1:Int),((stF 3 4 (fnd 3 4 t.2.1.toNat 27)).2:Nat)),pcM D (fnd 1 2 t.2.2.toNat 29),((t.2.2.toNat:Int)-((stF 1 2 (fnd 1 2 t.2.2.toNat 29)).1:Int),((stF 1 2 (fnd 1 2 t.2.2.toNat 29)).2:Nat))]
def knowD:List Int:=List.replicate 32 5
def fixP (s:ByteArray):List (Int×Int):=[(1,1),(1,2)]++((toksP s.data.toList 0).flatMap (pcTM (fixL 288) knowD)++[pcM (fixL 288) 256])
def knownL (s:ByteArray):List UInt8:=textP (fixP s)
def fixedL (s:ByteArray):List UInt8:=if s.size≤300 then knownL s else []
def byS (s:ByteArray):ByteArray:=⟨(storeL s.data.toList).toArray⟩
def byF (s:ByteArray):ByteArray:=⟨(fixedL s).toArray⟩
def inc (o:List Int) (k:Nat):List Int:=o.set k (o.getD k 0+1)
def incs (o:List Int) (s:List Nat):List Int:=s.foldl inc o
def litS (t:Tk):Nat:=if isB t then t.1.toNat else 257+fnd 3 4 t.2.1.toNat 27
def distS (t:Tk):List Nat:=if isB t then [] else [fnd 1 2 t.2.2.toNat 29]
def litC (T:List Tk):List Int:=inc (incs (List.replicate 286 0) (T.map litS)) 256
def distB (T:List Tk):List Int:=incs (List.replicate 30 0) (T.flatMap distS)
def distC (T:List Tk):List Int:=if us (distB T)=0 then inc (distB T) 0 else distB T
def cutN (l:List Int) (least:Nat):Nat→Nat
 | 0=>0
 | n+1=>if least<n+1∧l.getD n 0=0 then cutN l least n else n+1
def cutL (l:List Int) (least:Nat):List Int:=l.take (cutN l least l.length)
def ownL (T:List Tk):List Int:=cutL (fitL 15 (litC T)) 257
def ownD (T:List Tk):List Int:=cutL (fitL 15 (distC T)) 1
def cnt7 (A:List Int):List Int:=incs (List.replicate 19 0) (A.map Int.toNat)
def lens7 (A:List Int):List Int:=fitL 7 (cnt7 A)
def toldP (L D:List Int):List (Int×Int):=
 [((L.length:Int)-257,5),((D.length:Int)-1,5),(15,4)]++(ordL.map (fun i=>((lens7 (L++D)).getD i 0,(3:Int)))++(L++D).map (fun x=>pcM (lens7 (L++D)) x.toNat))
def ownP (T:List Tk):List (Int×Int):=[(1,1),(2,2)]++(toldP (ownL T) (ownD T)++(T.flatMap (pcTM (ownL T) (ownD T))++[pcM (ownL T) 256]))
def ownT (s:ByteArray):List UInt8:=textP (ownP (toksP s.data.toList 0))
end Go.Proofs.YtkdlcomfpffhhaaGreatDoor
namespace Go.Proofs.YtkdlcomfpffhhaaGreatDoor
open Go.RowKit Go.Shelf Corb
attribute [local go_sem] Oper.semAt_some
end Go.Proofs.YtkdlcomfpffhhaaGreatDoor
namespace Go.Proofs.YtkdlcomfpffhhaaGreatDoor
open Go.RowKit Corb
def ownedL (s:ByteArray):List UInt8:=if s.size≤300 then ownT s else []
end Go.Proofs.YtkdlcomfpffhhaaGreatDoor
