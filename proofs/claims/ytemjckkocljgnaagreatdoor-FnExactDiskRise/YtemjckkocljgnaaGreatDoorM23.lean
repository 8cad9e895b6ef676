/- Of what the proof is made: 3 texts, one behind the other. -/
import Derived.Test.YtemjckkocljgnaaGreatDoorM19
import Derived.Test.YtemjckkocljgnaaGreatDoorM12
import Derived.Test.YtemjckkocljgnaaGreatDoorM13
import Derived.Test.YtemjckkocljgnaaGreatDoorM22
import Derived.Test.YtemjckkocljgnaaGreatDoorM4
import Derived.Test.YtemjckkocljgnaaGreatDoorShelf
namespace Go.Proofs.YtemjckkocljgnaaGreatDoor
open Go.RowKit Corb
def pcM (l:List Int) (k:Nat):Int×Int:=((rv (l.getD k 0).toNat ((outN l 15).2.getD k 0).toNat:Nat),l.getD k 0)
end Go.Proofs.YtemjckkocljgnaaGreatDoor
namespace Go.Proofs.YtemjckkocljgnaaGreatDoor
open Go.RowKit
def clashL (a b:List UInt8):Bool:=a == b || (undL b a || undL a b)
theorem nameWithin_any (a b:ByteArray) (w:World) (hb:(b.size:Int)≤1048576) :
  Calls Tryz.prog 99 #[.string a,.string b] w fun e w'=>e = .returned (.bool (undL b.data.toList a.data.toList))∧w'=w:=by
 have HC:Hid (∀ W,Calls Tryz.prog 47 #[.string a,.string (b++(⟨#[47]⟩:ByteArray))] W fun e w'=>e = .returned (.bool (undL b.data.toList a.data.toList))∧w'=W):=by
  intro W
  have h:=Tryz.strings_HasPrefix a (b++(⟨#[47]⟩:ByteArray)) W
  have e:Lib.hasPrefix a.data.toList (b++(⟨#[47]⟩:ByteArray)).data.toList=undL b.data.toList a.data.toList:=by
   unfold Lib.hasPrefix undL
   congr 1
  rw [e] at h
  exact h
 go_enter Tryz.func99,Tryz.ntmps99
 go_wp2_with fail
 refine (unhide HC _).mono ?_
 rintro e w1 ⟨rfl,hw⟩
 rw [hw]
 clear hw
 go_wp2
 go_ret
 exact ⟨rfl,rfl⟩
theorem list_of_ba {a b:ByteArray} : a.toList=b.toList↔a.data.toList=b.data.toList:=by rw [Lib.toList_data,Lib.toList_data]
set_option maxHeartbeats 800000 in
theorem namesClash_any (a b:ByteArray) (w:World) (ha:(a.size:Int)≤1048576) (hb:(b.size:Int)≤1048576) :
  Calls Tryz.prog 71 #[.string a,.string b] w fun e w'=>e = .returned (.bool (clashL a.data.toList b.data.toList))∧w'=w:=by
 have C1:=hide (fun W=>nameWithin_any a b W hb)
 have C2:=hide (fun W=>nameWithin_any b a W ha)
 by_cases h:a.toList=b.toList
 ·
  have HU:Hid (clashL a.data.toList b.data.toList=true):=by show _=_; simp [clashL,list_of_ba.1 h]
  go_enter Tryz.func71,Tryz.ntmps71
  go_wp2
  go_ret
  exact ⟨ret_bool (unhide HU).symm,rfl⟩
 ·
  have h':(a.data.toList == b.data.toList)=false:=by simp only [beq_eq_false_iff_ne,ne_eq]; exact fun e=>h (list_of_ba.2 e)
  have hB:(a.toList == b.toList)=false:=by simp only [beq_eq_false_iff_ne,ne_eq]; exact h
  have HU:Hid (clashL a.data.toList b.data.toList=(undL b.data.toList a.data.toList || undL a.data.toList b.data.toList)):=by show _=_; simp [clashL,h']
  clear h'
  generalize undL b.data.toList a.data.toList=u1 at *
  generalize undL a.data.toList b.data.toList=u2 at *
  cases u1
  ·
   go_enter Tryz.func71,Tryz.ntmps71
   go_wp2_with fail
   refine (unhide C1 _).mono ?_
   rintro e w1 ⟨rfl,hw⟩
   rw [hw]
   clear hw
   go_wp2_with fail
   refine (unhide C2 _).mono ?_
   rintro e w2 ⟨rfl,hw⟩
   rw [hw]
   clear hw
   go_wp2
   go_ret
   exact ⟨ret_bool (by rw [unhide HU]; rfl),rfl⟩
  ·
   go_enter Tryz.func71,Tryz.ntmps71
   go_wp2_with fail
   refine (unhide C1 _).mono ?_
   rintro e w1 ⟨rfl,hw⟩
   rw [hw]
   clear hw
   go_wp2
   go_ret
   exact ⟨ret_bool (by rw [unhide HU]; rfl),rfl⟩
structure En where
 n:ByteArray
 y:Int
 mo:Int
 d:Int
 h:Int
 mi:Int
 s:Int
 t:ByteArray
instance:Inhabited En:=⟨⟨ByteArray.empty,0,0,0,0,0,0,ByteArray.empty⟩⟩
def EnAt (w:World) (g o:Nat) (e:En):Prop:=
 w.cell? ⟨g,o,none⟩=some (.string e.n)∧w.cell? ⟨g,o+1,none⟩=some (.int .i64 e.y)∧w.cell? ⟨g,o+2,none⟩=some (.int .i64 e.mo)∧w.cell? ⟨g,o+3,none⟩=some (.int .i64 e.d) ∧
 w.cell? ⟨g,o+4,none⟩=some (.int .i64 e.h)∧w.cell? ⟨g,o+5,none⟩=some (.int .i64 e.mi)∧w.cell? ⟨g,o+6,none⟩=some (.int .i64 e.s)∧w.cell? ⟨g,o+7,none⟩=some (.string e.t)
def ERow (w:World) (a:Option Addr) (l:List En):Prop:=0<l.length→∃ g o,a=some ⟨g,o,none⟩∧g<w.heap.size∧∀ i,i<l.length→EnAt w g (o+i*8) (l.getD i default)
theorem ERow.later {w w':World} {a:Option Addr} {l:List En} (h:ERow w a l) (hb:Below w.heap.size w w'):ERow w' a l:=by
 intro h0
 obtain ⟨g,o,e,hg,hc⟩:=h h0
 refine ⟨g,o,e,Nat.lt_of_lt_of_le hg hb.size,fun i hi=>?_⟩
 obtain ⟨c0,c1,c2,c3,c4,c5,c6,c7⟩:=hc i hi
 exact ⟨(hb.cell (p:=⟨g,o+i*8,none⟩) hg).trans c0,(hb.cell (p:=⟨g,o+i*8+1,none⟩) hg).trans c1,(hb.cell (p:=⟨g,o+i*8+2,none⟩) hg).trans c2,(hb.cell (p:=⟨g,o+i*8+3,none⟩) hg).trans c3,
  (hb.cell (p:=⟨g,o+i*8+4,none⟩) hg).trans c4,(hb.cell (p:=⟨g,o+i*8+5,none⟩) hg).trans c5,(hb.cell (p:=⟨g,o+i*8+6,none⟩) hg).trans c6,(hb.cell (p:=⟨g,o+i*8+7,none⟩) hg).trans c7⟩
def atN (l:List En) (x:ByteArray):Int:=match l.findIdx? (fun e=>e.n.data.toList == x.data.toList) with
 | some i=>(i:Int)
 | none=>-1
theorem atN_hit {l:List En} {x:ByteArray} {k:Nat} (hk:k<l.length) (h:∀ j,j<k→¬ (l.getD j default).n.toList=x.toList) (e:(l.getD k default).n.toList=x.toList):atN l x=(k:Int):=by
 have:l.findIdx? (fun e=>e.n.data.toList == x.data.toList)=some k:=by
  rw [List.findIdx?_eq_some_iff_getElem]
  refine ⟨hk,?_,fun j hj=>?_⟩
  ·
   have:=list_of_ba.1 e
   simp only [List.getD,List.getElem?_eq_getElem hk,Option.getD_some] at this
   simpa using this
  ·
   have hj':j<l.length:=by omega
   have:=h j hj
   simp only [List.getD,List.getElem?_eq_getElem hj',Option.getD_some] at this
   simp only [beq_iff_eq]
   exact fun e=>this (list_of_ba.2 e)
 unfold atN; rw [this]
theorem atN_miss {l:List En} {x:ByteArray} (h:∀ j,j<l.length→¬ (l.getD j default).n.toList=x.toList):atN l x = -1:=by
 have:l.findIdx? (fun e=>e.n.data.toList == x.data.toList)=none:=by
  rw [List.findIdx?_eq_none_iff]
  intro e he
  obtain ⟨j,hj,rfl⟩:=List.getElem_of_mem he
  have:=h j hj
  simp only [List.getD,List.getElem?_eq_getElem hj,Option.getD_some] at this
  simp only [beq_eq_false_iff_ne,ne_eq]
  exact fun e=>this (list_of_ba.2 e)
 unfold atN; rw [this]
set_option maxHeartbeats 800000 in
theorem l7At_any (a:Option Addr) (cap:Nat) (l:List En) (n:Nat) (hn:l.length=n) (x:ByteArray) (w:World) (h:ERow w a l) (hl:(n:Int)≤1048576) :
  Calls Tryz.prog 41 #[.slice a n cap,.string x] w fun e w'=>e = .returned (.int .i64 (atN l x))∧w'=w:=by
 have HH:=hide (fun k (hk:k<l.length)=>@atN_hit l x k hk)
 have HM:=hide (@atN_miss l x)
 have HR:=hide h
 rw [hn] at HH HM
 have HN:=hide hn
 clear h hn
 go_enter Tryz.func41,Tryz.ntmps41
 go_wp2_with fail
 go_loop [5] (fun i=>∃ k:Nat,k≤n∧i = .int .i64 k∧∀ j,j<k→¬ (l.getD j default).n.toList=x.toList) (fun i=>n-(intOf i).toNat)
 case atStart=>exact ⟨0,Nat.zero_le _,rfl,fun j hj=>absurd hj (by omega)⟩
 case round=>
  obtain ⟨k,hk,rfl,hall⟩:=hrel
  have HALL:=hide hall
  clear hall
  by_cases hkn:k<n
  ·
   have hkI:(k:Int)<(n:Int):=by omega
   obtain ⟨g,o,rfl,hg,hc⟩:=unhide HR (by have:=unhide HN; omega)
   obtain ⟨c0,_,_,_,_,_,_,_⟩:=hc k (by have:=unhide HN; omega)
   have HHk:=hide (unhide HH k hkn (unhide HALL))
   have HNX:Hid (¬ (l.getD k default).n.toList=x.toList→∀ j,j<k+1→¬ (l.getD j default).n.toList=x.toList):=by
    intro e j hj
    by_cases hjk:j=k
    ·
     rw [hjk]; exact e
    ·
     exact unhide HALL j (by omega)
   have HKN:=hide hkn
   clear hc hk HALL HR
   generalize (l.getD k default).n=p at *
   by_cases e:p.toList=x.toList
   ·
    have HE:=hide (unhide HHk e)
    go_wp2
    go_ret
    exact ⟨ret_int (unhide HE).symm,rfl⟩
   ·
    have HE:=hide (unhide HNX e)
    have eB:(p.toList == x.toList)=false:=by simp only [beq_eq_false_iff_ne,ne_eq]; exact e
    go_wp2
    go_round
    case rel=>exact ⟨k+1,by have:=unhide HKN; omega,by go_num,unhide HE⟩
    case measure=>have:=unhide HKN; simp [intOf]; omega
  ·
   obtain rfl:k=n:=by omega
   have HE:=hide (unhide HM (unhide HALL))
   go_wp2
   go_ret
   exact ⟨ret_int (unhide HE).symm,rfl⟩
end Go.Proofs.YtemjckkocljgnaaGreatDoor
