/- Of what the proof is made: 4 texts, one behind the other. -/
import Derived.Test.YtkdlcomfpffhhaaGreatDoorM8
import Derived.Deep.DeepCutAuto
import Derived.Test.YtkdlcomfpffhhaaGreatDoorM6
import Derived.Deep.RegionWith
namespace Go.Proofs.YtkdlcomfpffhhaaGreatDoor
open Go.RowKit
theorem blk_cell {w:World} {b:Nat} {cs:Array Value} {t:TypeId} (h:w.heap[b]?=some (Obj.cells cs t)) (i:Nat):w.cell? ⟨b,i,none⟩=cs[i]?:=by simp [World.cell?,h]
abbrev Tk:=Int×Int×Int
def k0:Tk:=(0,0,0)
def rep (s:List UInt8) (back:Nat):Nat→List UInt8
 | 0=>s
 | n+1=>rep s back n++[(rep s back n).getD ((rep s back n).length-back) 0]
theorem rep_len (s:List UInt8) (back n:Nat):(rep s back n).length=s.length+n:=by
 induction n with
 | zero=>rfl
 | succ n ih=>simp only [rep,List.length_append,List.length_singleton,ih]; omega
def byteT (x:Int):UInt8:=UInt8.ofNat x.toNat
theorem byteT_nat {x:Int} (h0:0≤x) (h1:x≤255):((byteT x).toNat:Int)=x:=by
 unfold byteT
 rw [UInt8.toNat_ofNat']
 omega
def isB (t:Tk):Bool:=decide (t.2.1=0)&&(inB t.1 0 255&&decide (t.2.2=0))
def isK (t:Tk):Bool:=decide (t.1=0)&&inB t.2.1 3 60&&inB t.2.2 1 250
def addT (s:List UInt8) (t:Tk):Option (List UInt8):=
 if isB t then some (s++[byteT t.1]) else if isK t&&decide (t.2.2≤(s.length:Int)) then some (rep s t.2.2.toNat t.2.1.toNat) else none
def addL (s:List UInt8) (t:Tk):Option (List UInt8):=(addT s t).bind fun x=>if x.length≤300 then some x else none
theorem addL_len {s x:List UInt8} {t:Tk} (h:addL s t=some x):x.length≤300:=by
 unfold addL at h
 cases ha:addT s t with
 | none=>rw [ha] at h; cases h
 | some y=>
  rw [ha] at h
  simp only [Option.bind_some] at h
  split at h
  ·
   simp only [Option.some.injEq] at h; subst h; assumption
  ·
   cases h
theorem isB_K {t:Tk} (h:isB t=true):isK t=false:=by
 simp only [isB,Bool.and_eq_true,decide_eq_true_eq] at h
 have:inB t.2.1 3 60=false:=inB_false.2 (by omega)
 simp [isK,this]
def sizT (t:Tk):Nat:=if isB t then 1 else t.2.1.toNat
def okT (t:Tk):Bool:=isB t || isK t
theorem addL_yes {s:List UInt8} {t:Tk} (ho:okT t=true) (hb:isK t=true→t.2.2≤(s.length:Int)) (hl:s.length+sizT t≤300):addL s t=some (if isB t then s++[byteT t.1] else rep s t.2.2.toNat t.2.1.toNat):=by
 unfold addL addT
 unfold sizT at hl
 cases hB:isB t
 ·
  have hK:isK t=true:=by simpa [okT,hB] using ho
  rw [hB] at hl
  simp only [Bool.false_eq_true,if_false] at hl ⊢
  rw [hK,decide_eq_true (hb hK)]
  simp only [Bool.and_true,if_true,Option.bind_some]
  rw [if_pos (by rw [rep_len]; exact hl)]
 ·
  rw [hB] at hl
  simp only [if_true,Option.bind_some] at hl ⊢
  rw [if_pos (by simp; omega)]
theorem addL_bad {s:List UInt8} {t:Tk} (ho:okT t=false):addL s t=none:=by
 have hB:isB t=false:=by cases h:isB t <;> simp [okT,h] at ho ⊢
 have hK:isK t=false:=by simpa [okT,hB] using ho
 unfold addL addT
 rw [hB,hK]; rfl
theorem addL_far {s:List UInt8} {t:Tk} (hK:isK t=true) (hb:(s.length:Int)<t.2.2):addL s t=none:=by
 have hB:isB t=false:=by
  cases h:isB t
  ·
   rfl
  ·
   rw [isB_K h] at hK; cases hK
 unfold addL addT
 rw [hB,hK,decide_eq_false (by omega)]; rfl
theorem addL_long {s:List UInt8} {t:Tk} (hl:300<s.length+sizT t):addL s t=none:=by
 unfold addL addT
 unfold sizT at hl
 cases hB:isB t
 ·
  rw [hB] at hl
  simp only [Bool.false_eq_true,if_false] at hl ⊢
  split
  ·
   simp only [Option.bind_some]
   rw [if_neg (by rw [rep_len]; omega)]
  ·
   rfl
 ·
  rw [hB] at hl
  simp only [if_true,Option.bind_some] at hl ⊢
  rw [if_neg (by simp; omega)]
def agF (L:List UInt8) (p b:Nat):Nat→Nat→Nat
 | 0,n=>n
 | f+1,n=>if p+n<L.length∧L.getD (p+n) 0=L.getD (p+n-b) 0 then agF L p b f (n+1) else n
def agN (L:List UInt8) (p b:Nat):Nat:=agF L p b 60 0
def bestF (L:List UInt8) (p:Nat):Nat→Nat×Nat
 | 0=>(0,0)
 | k+1=>if (bestF L p k).1<agN L p (k+1) then (agN L p (k+1),k+1) else bestF L p k
def tokP (L:List UInt8) (p:Nat):Tk:=
 if (bestF L p (min p 250)).1<3 then (((L.getD p 0).toNat:Int),0,0) else (0,((bestF L p (min p 250)).1:Int),((bestF L p (min p 250)).2:Int))
def sizP (L:List UInt8) (p:Nat):Nat:=if (bestF L p (min p 250)).1<3 then 1 else (bestF L p (min p 250)).1
def toksF (L:List UInt8):Nat→Nat→List Tk
 | 0,_=>[]
 | f+1,p=>if p<L.length then tokP L p :: toksF L f (p+sizP L p) else []
def toksP (L:List UInt8) (p:Nat):List Tk:=toksF L (L.length-p) p
end Go.Proofs.YtkdlcomfpffhhaaGreatDoor
