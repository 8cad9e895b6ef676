/- Of what the proof is made: 2 texts, one behind the other. -/
import Derived.Test.YtkdlcomfpffhhaaGreatDoorM4
import Derived.Test.YtkdlcomfpffhhaaGreatDoorShelf
set_option linter.unusedSimpArgs false
set_option linter.unusedVariables false
set_option maxHeartbeats 800000
namespace Go.Proofs.YtkdlcomfpffhhaaGreatDoor
open Go.RowKit
def bD(a b:List UInt8):Bool:=a == b || (di b a || di a b)
theorem kj(a b:ByteArray)(w:World)(hb:(b.size:Int)<=1048576) :
  Calls Tryz.prog 56 #[.string a,.string b] w fun e w'=>e = .returned (.bool (di b.data.toList a.data.toList))/\w'=w:=by
 have HC:Hid (∀W,Calls Tryz.prog 77 #[.string a,.string (b++(⟨#[47]⟩:ByteArray))] W fun e w'=>e = .returned (.bool (di b.data.toList a.data.toList))/\w'=W):=by
  intro W;have h:=Tryz.strings_HasPrefix a (b++(⟨#[47]⟩:ByteArray)) W;have e:Lib.hasPrefix a.data.toList (b++(⟨#[47]⟩:ByteArray)).data.toList=di b.data.toList a.data.toList:=by
   unfold Lib.hasPrefix di
   congr 1
  rw[e]at h;exact h
 go_enter Tryz.func56,Tryz.ntmps56;go_wp2_with fail;refine(ae HC _).mono ?_;rintro e w1 ⟨rfl,hw⟩;rw[hw];clear hw;go_wp2;go_ret;exact⟨rfl,rfl⟩
theorem er{a b:ByteArray} : a.toList=b.toList<->a.data.toList=b.data.toList:=by rw[a06,a06]
theorem kk(a b:ByteArray)(w:World)(ha:(a.size:Int)<=1048576)(hb:(b.size:Int)<=1048576) :
  Calls Tryz.prog 26 #[.string a,.string b] w fun e w'=>e = .returned (.bool (bD a.data.toList b.data.toList))/\w'=w:=by
 have C1:=af (fun W=>kj a b W hb);have C2:=af (fun W=>kj b a W ha);by_cases h:a.toList=b.toList
 ·
  have HU:Hid (bD a.data.toList b.data.toList=true):=by show _=_;simp[bD,er.1 h]
  go_enter Tryz.func26,Tryz.ntmps26;go_wp2;go_ret;exact⟨ak (ae HU).symm,rfl⟩
 ·
  have h':(a.data.toList == b.data.toList)=false:=by simp only[a1b,ne_eq];exact fun e=>h (er.2 e)
  have hB:(a.toList == b.toList)=false:=by simp only[a1b,ne_eq];exact h
  have HU:Hid (bD a.data.toList b.data.toList=(di b.data.toList a.data.toList || di a.data.toList b.data.toList)):=by show _=_;simp[bD,h']
  clear h';generalize di b.data.toList a.data.toList=u1 at *
  generalize di a.data.toList b.data.toList=u2 at *
  cases u1
  · go_enter Tryz.func26,Tryz.ntmps26;go_wp2_with fail;refine(ae C1 _).mono ?_;rintro e w1 ⟨rfl,hw⟩;rw[hw];clear hw;go_wp2_with fail;refine(ae C2 _).mono ?_;rintro e w2 ⟨rfl,hw⟩;rw[hw];clear hw;go_wp2;go_ret;exact⟨ak (by rw[ae HU];rfl),rfl⟩
  · go_enter Tryz.func26,Tryz.ntmps26;go_wp2_with fail;refine(ae C1 _).mono ?_;rintro e w1 ⟨rfl,hw⟩;rw[hw];clear hw;go_wp2;go_ret;exact⟨ak (by rw[ae HU];rfl),rfl⟩
structure En where
 n:ByteArray
 y:Int
 mo:Int
 d:Int
 h:Int
 mi:Int
 s:Int
 t:ByteArray
instance:Inhabited En:=⟨⟨ByteArray.empty,0,0,0,0,0,0,ByteArray.empty⟩⟩
def Lh(w:World)(g o:Nat)(e:En):Prop:=
 w.cell? ⟨g,o,none⟩=some (.string e.n)/\w.cell? ⟨g,o+1,none⟩=some (.int .i64 e.y)/\w.cell? ⟨g,o+2,none⟩=some (.int .i64 e.mo)/\w.cell? ⟨g,o+3,none⟩=some (.int .i64 e.d) /\
 w.cell? ⟨g,o+4,none⟩=some (.int .i64 e.h)/\w.cell? ⟨g,o+5,none⟩=some (.int .i64 e.mi)/\w.cell? ⟨g,o+6,none⟩=some (.int .i64 e.s)/\w.cell? ⟨g,o+7,none⟩=some (.string e.t)
def lF(w:World)(a:Option Addr)(l:List En):Prop:=0<l.length->∃g o,a=some ⟨g,o,none⟩/\g<w.heap.size/\∀i,i<l.length->Lh w g (o+i*8) (l.getD i default)
theorem lF.later{w w':World}{a:Option Addr}{l:List En}(h:lF w a l)(hb:Below w.heap.size w w'):lF w' a l:=by
 intro h0;obtain⟨g,o,e,hg,hc⟩:=h h0;refine⟨g,o,e,a0k hg hb.size,fun i hi=>?_⟩;obtain⟨c0,c1,c2,c3,c4,c5,c6,c7⟩:=hc i hi;exact⟨(hb.cell (p:=⟨g,o+i*8,none⟩) hg).trans c0,(hb.cell (p:=⟨g,o+i*8+1,none⟩) hg).trans c1,(hb.cell (p:=⟨g,o+i*8+2,none⟩) hg).trans c2,(hb.cell (p:=⟨g,o+i*8+3,none⟩) hg).trans c3,
  (hb.cell (p:=⟨g,o+i*8+4,none⟩) hg).trans c4,(hb.cell (p:=⟨g,o+i*8+5,none⟩) hg).trans c5,(hb.cell (p:=⟨g,o+i*8+6,none⟩) hg).trans c6,(hb.cell (p:=⟨g,o+i*8+7,none⟩) hg).trans c7⟩
def atN(l:List En)(x:ByteArray):Int:=match l.findIdx? (fun e=>e.n.data.toList == x.data.toList)with
 | some i=>(i:Int)
 | none=>-1
theorem Ju{l:List En}{x:ByteArray}{k:Nat}(hk:k<l.length)(h:∀j,j<k->¬ (l.getD j default).n.toList=x.toList)(e:(l.getD k default).n.toList=x.toList):atN l x=(k:Int):=by
 have:l.findIdx? (fun e=>e.n.data.toList == x.data.toList)=some k:=by
  rw[List.findIdx?_eq_some_iff_getElem];refine⟨hk,?_,fun j hj=>?_⟩
  · have:=er.1 e;simp only[List.getD,List.getElem?_eq_getElem hk,a1K]at this;simpa using this
  ·
   have hj':j<l.length:=by omega
   have:=h j hj;simp only[List.getD,List.getElem?_eq_getElem hj',a1K]at this;simp only[a3o];exact fun e=>this (er.2 e)
 unfold atN;rw[this]
end Go.Proofs.YtkdlcomfpffhhaaGreatDoor
