/- Of what the proof is made: 2 texts, one behind the other. -/
import Derived.Test.YtfhdadkcophoaaaGreatDoorM4
import Derived.Test.YtfhdadkcophoaaaGreatDoorShelf
set_option linter.unusedSimpArgs false
set_option linter.unusedVariables false
set_option maxHeartbeats 800000
namespace Go.Proofs.YtfhdadkcophoaaaGreatDoor
open Go.RowKit
def bf(a b:List UInt8):Bool:=a == b || (dQ b a || dQ a b)
theorem kB(a b:ByteArray)(w:World)(hb:(b.size:Int)<=1048576) :
  Calls Tryz.prog 135 #[.string a,.string b] w fun e w'=>e = .returned (.bool (dQ b.data.toList a.data.toList))/\w'=w:=by
 have HC:Hid (∀W,Calls Tryz.prog 56 #[.string a,.string (b++(⟨#[47]⟩:ByteArray))] W fun e w'=>e = .returned (.bool (dQ b.data.toList a.data.toList))/\w'=W):=by
  intro W;have h:=Tryz.strings_HasPrefix a (b++(⟨#[47]⟩:ByteArray)) W;have e:Lib.hasPrefix a.data.toList (b++(⟨#[47]⟩:ByteArray)).data.toList=dQ b.data.toList a.data.toList:=by
   unfold Lib.hasPrefix dQ
   congr 1
  rw[e]at h;exact h
 go_enter Tryz.func135,Tryz.ntmps135;go_wp2_with fail;refine(ae HC _).mono ?_;rintro e w1 ⟨rfl,hw⟩;rw[hw];clear hw;go_wp2;go_ret;exact⟨rfl,rfl⟩
theorem eq{a b:ByteArray} : a.toList=b.toList<->a.data.toList=b.data.toList:=by rw[Lib.toList_data,Lib.toList_data]
theorem rk(a b:ByteArray)(w:World)(ha:(a.size:Int)<=1048576)(hb:(b.size:Int)<=1048576) :
  Calls Tryz.prog 97 #[.string a,.string b] w fun e w'=>e = .returned (.bool (bf a.data.toList b.data.toList))/\w'=w:=by
 have C1:=af (fun W=>kB a b W hb);have C2:=af (fun W=>kB b a W ha);by_cases h:a.toList=b.toList
 ·
  have HU:Hid (bf a.data.toList b.data.toList=true):=by show _=_;simp[bf,eq.1 h]
  go_enter Tryz.func97,Tryz.ntmps97;go_wp2;go_ret;exact⟨ak (ae HU).symm,rfl⟩
 ·
  have h':(a.data.toList == b.data.toList)=false:=by simp only[a0Z,ne_eq];exact fun e=>h (eq.2 e)
  have hB:(a.toList == b.toList)=false:=by simp only[a0Z,ne_eq];exact h
  have HU:Hid (bf a.data.toList b.data.toList=(dQ b.data.toList a.data.toList || dQ a.data.toList b.data.toList)):=by show _=_;simp[bf,h']
  clear h';generalize dQ b.data.toList a.data.toList=u1 at *
  generalize dQ a.data.toList b.data.toList=u2 at *
  cases u1
  · go_enter Tryz.func97,Tryz.ntmps97;go_wp2_with fail;refine(ae C1 _).mono ?_;rintro e w1 ⟨rfl,hw⟩;rw[hw];clear hw;go_wp2_with fail;refine(ae C2 _).mono ?_;rintro e w2 ⟨rfl,hw⟩;rw[hw];clear hw;go_wp2;go_ret;exact⟨ak (by rw[ae HU];rfl),rfl⟩
  · go_enter Tryz.func97,Tryz.ntmps97;go_wp2_with fail;refine(ae C1 _).mono ?_;rintro e w1 ⟨rfl,hw⟩;rw[hw];clear hw;go_wp2;go_ret;exact⟨ak (by rw[ae HU];rfl),rfl⟩
structure En where
 n:ByteArray
 y:Int
 mo:Int
 d:Int
 h:Int
 mi:Int
 s:Int
 t:ByteArray
instance:Inhabited En:=⟨⟨ByteArray.empty,0,0,0,0,0,0,ByteArray.empty⟩⟩
def Ld(w:World)(g o:Nat)(e:En):Prop:=
 w.cell? ⟨g,o,none⟩=some (.string e.n)/\w.cell? ⟨g,o+1,none⟩=some (.int .i64 e.y)/\w.cell? ⟨g,o+2,none⟩=some (.int .i64 e.mo)/\w.cell? ⟨g,o+3,none⟩=some (.int .i64 e.d) /\
 w.cell? ⟨g,o+4,none⟩=some (.int .i64 e.h)/\w.cell? ⟨g,o+5,none⟩=some (.int .i64 e.mi)/\w.cell? ⟨g,o+6,none⟩=some (.int .i64 e.s)/\w.cell? ⟨g,o+7,none⟩=some (.string e.t)
def gT(w:World)(a:Option Addr)(l:List En):Prop:=0<l.length->∃g o,a=some ⟨g,o,none⟩/\g<w.heap.size/\∀i,i<l.length->Ld w g (o+i*8) (l.getD i default)
theorem gT.later{w w':World}{a:Option Addr}{l:List En}(h:gT w a l)(hb:Below w.heap.size w w'):gT w' a l:=by
 intro h0;obtain⟨g,o,e,hg,hc⟩:=h h0;refine⟨g,o,e,a0g hg hb.size,fun i hi=>?_⟩;obtain⟨c0,c1,c2,c3,c4,c5,c6,c7⟩:=hc i hi;exact⟨(hb.cell (p:=⟨g,o+i*8,none⟩) hg).trans c0,(hb.cell (p:=⟨g,o+i*8+1,none⟩) hg).trans c1,(hb.cell (p:=⟨g,o+i*8+2,none⟩) hg).trans c2,(hb.cell (p:=⟨g,o+i*8+3,none⟩) hg).trans c3,
  (hb.cell (p:=⟨g,o+i*8+4,none⟩) hg).trans c4,(hb.cell (p:=⟨g,o+i*8+5,none⟩) hg).trans c5,(hb.cell (p:=⟨g,o+i*8+6,none⟩) hg).trans c6,(hb.cell (p:=⟨g,o+i*8+7,none⟩) hg).trans c7⟩
def atN(l:List En)(x:ByteArray):Int:=match l.findIdx? (fun e=>e.n.data.toList == x.data.toList)with
 | some i=>(i:Int)
 | none=>-1
theorem uc{l:List En}{x:ByteArray}{k:Nat}(hk:k<l.length)(h:∀j,j<k->¬ (l.getD j default).n.toList=x.toList)(e:(l.getD k default).n.toList=x.toList):atN l x=(k:Int):=by
 have:l.findIdx? (fun e=>e.n.data.toList == x.data.toList)=some k:=by
  rw[List.findIdx?_eq_some_iff_getElem];refine⟨hk,?_,fun j hj=>?_⟩
  · have:=eq.1 e;simp only[List.getD,List.getElem?_eq_getElem hk,a1x]at this;simpa using this
  ·
   have hj':j<l.length:=by omega
   have:=h j hj;simp only[List.getD,List.getElem?_eq_getElem hj',a1x]at this;simp only[a3u];exact fun e=>this (eq.2 e)
 unfold atN;rw[this]
theorem vw{l:List En}{x:ByteArray}(h:∀j,j<l.length->¬ (l.getD j default).n.toList=x.toList):atN l x = -1:=by
 have:l.findIdx? (fun e=>e.n.data.toList == x.data.toList)=none:=by
  rw[List.findIdx?_eq_none_iff];intro e he;obtain⟨j,hj,rfl⟩:=a1o he;have:=h j hj;simp only[List.getD,List.getElem?_eq_getElem hj,a1x]at this;simp only[a0Z,ne_eq];exact fun e=>this (eq.2 e)
 unfold atN;rw[this]
theorem Gn(a:Option Addr)(cap:Nat)(l:List En)(n:Nat)(hn:l.length=n)(x:ByteArray)(w:World)(h:gT w a l)(hl:(n:Int)<=1048576) :
  Calls Tryz.prog 39 #[.slice a n cap,.string x] w fun e w'=>e = .returned (.int .i64 (atN l x))/\w'=w:=by
 have HH:=af (fun k (hk:k<l.length)=>@uc l x k hk);have HM:=af (@vw l x);have HR:=af h;rw[hn]at HH HM;have HN:=af hn;clear h hn;go_enter Tryz.func39,Tryz.ntmps39;go_wp2_with fail
 go_loop [5] (fun i=>∃k:Nat,k<=n/\i = .int .i64 k/\∀j,j<k->¬ (l.getD j default).n.toList=x.toList) (fun i=>n-(intOf i).toNat)
 case atStart=>exact⟨0,a0h _,rfl,fun j hj=>absurd hj (by omega)⟩
 case round=>
  obtain⟨k,hk,rfl,hall⟩:=hrel;have HALL:=af hall;clear hall;by_cases hkn:k<n
  ·
   have hkI:(k:Int)<(n:Int):=by omega
   obtain⟨g,o,rfl,hg,hc⟩:=ae HR (by have:=ae HN;omega);obtain⟨c0,_,_,_,_,_,_,_⟩:=hc k (by have:=ae HN;omega);have HHk:=af (ae HH k hkn (ae HALL));have HNX:Hid (¬ (l.getD k default).n.toList=x.toList->∀j,j<k+1->¬ (l.getD j default).n.toList=x.toList):=by
    intro e j hj;by_cases hjk:j=k
    · rw[hjk];exact e
    · exact ae HALL j (by omega)
   have HKN:=af hkn;clear hc hk HALL HR;generalize (l.getD k default).n=p at *
   by_cases e:p.toList=x.toList
   · have HE:=af (ae HHk e);go_wp2;go_ret;exact⟨aI (ae HE).symm,rfl⟩
   ·
    have HE:=af (ae HNX e);have eB:(p.toList == x.toList)=false:=by simp only[a0Z,ne_eq];exact e
    go_wp2
    go_round
    case rel=>exact⟨k+1,by have:=ae HKN;omega,by go_num,ae HE⟩
    case measure=>have:=ae HKN;simp[intOf];omega
  ·
   obtain rfl:k=n:=by omega
   have HE:=af (ae HM (ae HALL));go_wp2;go_ret;exact⟨aI (ae HE).symm,rfl⟩
end Go.Proofs.YtfhdadkcophoaaaGreatDoor
