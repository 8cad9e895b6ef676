/- Of what the proof is made: 3 texts, one behind the other. -/
import Derived.Test.YtkdlcomfpffhhaaGreatDoorM16
import Derived.Test.YtkdlcomfpffhhaaGreatDoorM8
import Derived.Test.YtkdlcomfpffhhaaGreatDoorM10
import Derived.Test.YtkdlcomfpffhhaaGreatDoorM4
import Derived.Test.YtkdlcomfpffhhaaGreatDoorShelf
namespace Go.Proofs.YtkdlcomfpffhhaaGreatDoor
open Go.RowKit Corb
theorem decF_bd {l:List Int} {V sz p f n:Nat} {i:Int} {q:Nat} (hf:n+f=15) (hi:nx l n≤cd V p n) (h:decF l V sz p f n=some (i,q)):q≤sz∧p<q∧0≤i∧i<(l.length:Int):=by
 induction f generalizing n with
 | zero=>simp [decF] at h
 | succ f ih=>
  by_cases h1:sz<p+n+1
  ·
   rw [decF_short h1] at h; cases h
  ·
   by_cases h2:cd V p (n+1)<nx l (n+1)
   ·
    rw [decF_hit h1 h2] at h
    simp only [Option.some.injEq,Prod.mk.injEq] at h
    obtain ⟨rfl,rfl⟩:=h
    obtain ⟨k,hk,_,_,e⟩:=sym_there (l:=l) (n:=n) (c:=cd V p (n+1)) (by omega) (by simp only [cd]; omega) h2
    rw [e]
    omega
   ·
    rw [decF_next h1 h2] at h
    exact ih (by omega) (by omega) h
theorem dec_bd {l:List Int} {V sz p:Nat} {i:Int} {q:Nat} (h:dec l V sz p=some (i,q)):q≤sz∧p<q∧0≤i∧i<(l.length:Int):=decF_bd rfl (Nat.zero_le _) h
def rdN (V sz p k:Nat):Option (Nat×Nat):=if p+k≤sz then some (V/2 ^ p%2 ^ k,p+k) else none
theorem rdN_yes {V sz p k:Nat} (h:p+k≤sz):rdN V sz p k=some (V/2 ^ p%2 ^ k,p+k):=if_pos h
theorem rdN_no {V sz p k:Nat} (h:¬ p+k≤sz):rdN V sz p k=none:=if_neg h
theorem rdN_bd {V sz p k x q:Nat} (h:rdN V sz p k=some (x,q)):q≤sz∧q=p+k∧x=V/2 ^ p%2 ^ k∧x<2 ^ k:=by
 unfold rdN at h
 split at h
 ·
  simp only [Option.some.injEq,Prod.mk.injEq] at h
  obtain ⟨rfl,rfl⟩:=h
  exact ⟨by assumption,rfl,rfl,Nat.mod_lt _ (Nat.two_pow_pos k)⟩
 ·
  cases h
def scG (V sz least group many k q:Nat):Option (Nat×Nat):=if k<many then (rdN V sz q (stF least group k).2).bind fun x=>some ((stF least group k).1+x.1,x.2) else none
def backG (V sz:Nat) (D:List Int) (k q:Nat):Option (Tk×Nat):=
 (scG V sz 3 4 28 k q).bind fun a=>(dec D V sz a.2).bind fun j=>(scG V sz 1 2 30 j.1.toNat j.2).bind fun c=>some ((0,((a.1:Nat):Int),((c.1:Nat):Int)),c.2)
def oneG (V sz:Nat) (D:List Int) (k:Int) (q:Nat):Option (Tk×Nat):=if k<256 then some ((k,0,0),q) else backG V sz D (k.toNat-257) q
theorem scG_bd {V sz least group many k q x r:Nat} (h:scG V sz least group many k q=some (x,r)):r≤sz∧q≤r:=by
 unfold scG at h
 split at h
 ·
  rcases h1:rdN V sz q (stF least group k).2 with _ | ⟨y,t⟩
  ·
   rw [h1] at h; cases h
  ·
   rw [h1] at h
   simp only [Option.bind_some,Option.some.injEq,Prod.mk.injEq] at h
   have:=rdN_bd h1
   omega
 ·
  cases h
theorem backG_bd {V sz:Nat} {D:List Int} {k q r:Nat} {t:Tk} (h:backG V sz D k q=some (t,r)):r≤sz∧q≤r:=by
 unfold backG at h
 rcases h1:scG V sz 3 4 28 k q with _ | ⟨a,a2⟩
 ·
  rw [h1] at h; cases h
 rw [h1] at h
 simp only [Option.bind_some] at h
 rcases h2:dec D V sz a2 with _ | ⟨j,j2⟩
 ·
  rw [h2] at h; cases h
 rw [h2] at h
 simp only [Option.bind_some] at h
 rcases h3:scG V sz 1 2 30 j.toNat j2 with _ | ⟨c,c2⟩
 ·
  rw [h3] at h; cases h
 rw [h3] at h
 simp only [Option.bind_some,Option.some.injEq,Prod.mk.injEq] at h
 have b1:=scG_bd h1
 have b2:=dec_bd h2
 have b3:=scG_bd h3
 omega
theorem oneG_bd {V sz:Nat} {D:List Int} {k:Int} {q r:Nat} {t:Tk} (h:oneG V sz D k q=some (t,r)) (hq:q≤sz):r≤sz∧q≤r:=by
 unfold oneG at h
 split at h
 ·
  simp only [Option.some.injEq,Prod.mk.injEq] at h
  omega
 ·
  exact backG_bd h
def tokF (V sz:Nat) (L D:List Int):Nat→Nat→List UInt8→Option (List UInt8×Nat)
 | 0,_,_=>none
 | f+1,p,T=>(dec L V sz p).bind fun k=>if k.1=256 then some (T,k.2) else (oneG V sz D k.1 k.2).bind fun t=>(addL T t.1).bind fun T'=>tokF V sz L D f t.2 T'
def tokG (V sz:Nat) (L D:List Int) (p:Nat) (T:List UInt8):Option (List UInt8×Nat):=tokF V sz L D (sz+1-p) p T
theorem tokF_more {V sz:Nat} {L D:List Int} : ∀ (n f p:Nat) (T:List UInt8),sz+1-p≤n→sz+1-p≤f→tokF V sz L D f p T=tokF V sz L D (sz+1-p) p T:=by
 intro n
 induction n with
 | zero=>
  intro f p T h1 h2
  have e:sz+1-p=0:=by omega
  rw [e]
  cases f with
  | zero=>rfl
  | succ f=>
   have hd:dec L V sz p=none:=by
    rcases h:dec L V sz p with _ | ⟨i,q⟩
    ·
     rfl
    ·
     have:=dec_bd h; omega
   simp only [tokF,hd,Option.bind_none]
 | succ n ih=>
  intro f p T h1 h2
  rcases hd:dec L V sz p with _ | ⟨i,q⟩
  ·
   cases f with
   | zero=>rw [show sz+1-p=0 by omega]
   | succ f=>
    rcases hm:sz+1-p with _ | m
    ·
     simp only [tokF,hd,Option.bind_none]
    ·
     simp only [tokF,hd,Option.bind_none]
  ·
   have hb:=dec_bd hd
   obtain ⟨f',rfl⟩:∃ g,f=g+1:=⟨f-1,by omega⟩
   obtain ⟨m,hm⟩:∃ g,sz+1-p=g+1:=⟨sz-p,by omega⟩
   rw [hm]
   simp only [tokF,hd,Option.bind_some]
   split
   ·
    rfl
   ·
    rcases ho:oneG V sz D i q with _ | ⟨t,r⟩
    ·
     rfl
    ·
     simp only [Option.bind_some]
     have hr:=oneG_bd ho hb.1
     rcases addL T t with _ | T'
     ·
      rfl
     ·
      simp only [Option.bind_some]
      rw [ih f' r T' (by omega) (by omega),ih m r T' (by omega) (by omega)]
theorem tokG_none {V sz:Nat} {L D:List Int} {p:Nat} {T:List UInt8} (h:dec L V sz p=none):tokG V sz L D p T=none:=by
 unfold tokG
 rcases hm:sz+1-p with _ | m
 ·
  rfl
 ·
  simp only [tokF,h,Option.bind_none]
theorem tokG_end {V sz:Nat} {L D:List Int} {p q:Nat} {T:List UInt8} (h:dec L V sz p=some (256,q)):tokG V sz L D p T=some (T,q):=by
 have hb:=dec_bd h
 unfold tokG
 obtain ⟨m,hm⟩:∃ g,sz+1-p=g+1:=⟨sz-p,by omega⟩
 rw [hm]
 simp only [tokF,h,Option.bind_some,if_true]
theorem tokG_step {V sz:Nat} {L D:List Int} {p q:Nat} {i:Int} {T:List UInt8} (h:dec L V sz p=some (i,q)) (hi:i≠256):tokG V sz L D p T=(oneG V sz D i q).bind fun t=>(addL T t.1).bind fun T'=>tokG V sz L D t.2 T':=by
 have hb:=dec_bd h
 unfold tokG
 obtain ⟨m,hm⟩:∃ g,sz+1-p=g+1:=⟨sz-p,by omega⟩
 rw [hm]
 simp only [tokF,h,Option.bind_some,if_neg hi]
 rcases ho:oneG V sz D i q with _ | ⟨t,r⟩
 ·
  rfl
 ·
  simp only [Option.bind_some]
  have hr:=oneG_bd ho hb.1
  rcases addL T t with _ | T'
  ·
   rfl
  ·
   simp only [Option.bind_some]
   exact tokF_more m m r T' (by omega) (by omega)
theorem tokF_bd {V sz:Nat} {L D:List Int} : ∀ (f p:Nat) (T T':List UInt8) (q:Nat),tokF V sz L D f p T=some (T',q)→q≤sz∧p<q∧(T.length≤300→T'.length≤300):=by
 intro f
 induction f with
 | zero=>intro p T T' q h; simp [tokF] at h
 | succ f ih=>
  intro p T T' q h
  rcases hd:dec L V sz p with _ | ⟨i,r⟩
  ·
   simp [tokF,hd] at h
  ·
   have hb:=dec_bd hd
   simp only [tokF,hd,Option.bind_some] at h
   split at h
   ·
    simp only [Option.some.injEq,Prod.mk.injEq] at h
    obtain ⟨rfl,rfl⟩:=h
    exact ⟨hb.1,hb.2.1,id⟩
   ·
    rcases ho:oneG V sz D i r with _ | ⟨t,u⟩
    ·
     rw [ho] at h; simp at h
    ·
     rw [ho] at h
     simp only [Option.bind_some] at h
     have hr:=oneG_bd ho hb.1
     rcases ha:addL T t with _ | T2
     ·
      rw [ha] at h; simp at h
     ·
      rw [ha] at h
      simp only [Option.bind_some] at h
      obtain ⟨h1,h2,h3⟩:=ih u T2 T' q h
      exact ⟨h1,by omega,fun _=>h3 (addL_len ha)⟩
theorem tokG_bd {V sz:Nat} {L D:List Int} {p q:Nat} {T T':List UInt8} (h:tokG V sz L D p T=some (T',q)):q≤sz∧p<q∧(T.length≤300→T'.length≤300):=tokF_bd _ _ _ _ _ h
end Go.Proofs.YtkdlcomfpffhhaaGreatDoor
namespace Go.Proofs.YtkdlcomfpffhhaaGreatDoor
open Go.RowKit
def clashL (a b:List UInt8):Bool:=a == b || (undL b a || undL a b)
theorem nameWithin_any (a b:ByteArray) (w:World) (hb:(b.size:Int)≤1048576) :
  Calls Tryz.prog 56 #[.string a,.string b] w fun e w'=>e = .returned (.bool (undL b.data.toList a.data.toList))∧w'=w:=by
 have HC:Hid (∀ W,Calls Tryz.prog 77 #[.string a,.string (b++(⟨#[47]⟩:ByteArray))] W fun e w'=>e = .returned (.bool (undL b.data.toList a.data.toList))∧w'=W):=by
  intro W
  have h:=Tryz.strings_HasPrefix a (b++(⟨#[47]⟩:ByteArray)) W
  have e:Lib.hasPrefix a.data.toList (b++(⟨#[47]⟩:ByteArray)).data.toList=undL b.data.toList a.data.toList:=by
   unfold Lib.hasPrefix undL
   congr 1
  rw [e] at h
  exact h
 go_enter Tryz.func56,Tryz.ntmps56
 go_wp2_with fail
 refine (unhide HC _).mono ?_
 rintro e w1 ⟨rfl,hw⟩
 rw [hw]
 clear hw
 go_wp2
 go_ret
 exact ⟨rfl,rfl⟩
theorem list_of_ba {a b:ByteArray} : a.toList=b.toList↔a.data.toList=b.data.toList:=by rw [Lib.toList_data,Lib.toList_data]
set_option maxHeartbeats 800000 in
theorem namesClash_any (a b:ByteArray) (w:World) (ha:(a.size:Int)≤1048576) (hb:(b.size:Int)≤1048576) :
  Calls Tryz.prog 26 #[.string a,.string b] w fun e w'=>e = .returned (.bool (clashL a.data.toList b.data.toList))∧w'=w:=by
 have C1:=hide (fun W=>nameWithin_any a b W hb)
 have C2:=hide (fun W=>nameWithin_any b a W ha)
 by_cases h:a.toList=b.toList
 ·
  have HU:Hid (clashL a.data.toList b.data.toList=true):=by show _=_; simp [clashL,list_of_ba.1 h]
  go_enter Tryz.func26,Tryz.ntmps26
  go_wp2
  go_ret
  exact ⟨ret_bool (unhide HU).symm,rfl⟩
 ·
  have h':(a.data.toList == b.data.toList)=false:=by simp only [beq_eq_false_iff_ne,ne_eq]; exact fun e=>h (list_of_ba.2 e)
  have hB:(a.toList == b.toList)=false:=by simp only [beq_eq_false_iff_ne,ne_eq]; exact h
  have HU:Hid (clashL a.data.toList b.data.toList=(undL b.data.toList a.data.toList || undL a.data.toList b.data.toList)):=by show _=_; simp [clashL,h']
  clear h'
  generalize undL b.data.toList a.data.toList=u1 at *
  generalize undL a.data.toList b.data.toList=u2 at *
  cases u1
  ·
   go_enter Tryz.func26,Tryz.ntmps26
   go_wp2_with fail
   refine (unhide C1 _).mono ?_
   rintro e w1 ⟨rfl,hw⟩
   rw [hw]
   clear hw
   go_wp2_with fail
   refine (unhide C2 _).mono ?_
   rintro e w2 ⟨rfl,hw⟩
   rw [hw]
   clear hw
   go_wp2
   go_ret
   exact ⟨ret_bool (by rw [unhide HU]; rfl),rfl⟩
  ·
   go_enter Tryz.func26,Tryz.ntmps26
   go_wp2_with fail
   refine (unhide C1 _).mono ?_
   rintro e w1 ⟨rfl,hw⟩
   rw [hw]
   clear hw
   go_wp2
   go_ret
   exact ⟨ret_bool (by rw [unhide HU]; rfl),rfl⟩
structure En where
 n:ByteArray
 y:Int
 mo:Int
 d:Int
 h:Int
 mi:Int
 s:Int
 t:ByteArray
instance:Inhabited En:=⟨⟨ByteArray.empty,0,0,0,0,0,0,ByteArray.empty⟩⟩
def EnAt (w:World) (g o:Nat) (e:En):Prop:=
 w.cell? ⟨g,o,none⟩=some (.string e.n)∧w.cell? ⟨g,o+1,none⟩=some (.int .i64 e.y)∧w.cell? ⟨g,o+2,none⟩=some (.int .i64 e.mo)∧w.cell? ⟨g,o+3,none⟩=some (.int .i64 e.d) ∧
 w.cell? ⟨g,o+4,none⟩=some (.int .i64 e.h)∧w.cell? ⟨g,o+5,none⟩=some (.int .i64 e.mi)∧w.cell? ⟨g,o+6,none⟩=some (.int .i64 e.s)∧w.cell? ⟨g,o+7,none⟩=some (.string e.t)
def ERow (w:World) (a:Option Addr) (l:List En):Prop:=0<l.length→∃ g o,a=some ⟨g,o,none⟩∧g<w.heap.size∧∀ i,i<l.length→EnAt w g (o+i*8) (l.getD i default)
theorem ERow.later {w w':World} {a:Option Addr} {l:List En} (h:ERow w a l) (hb:Below w.heap.size w w'):ERow w' a l:=by
 intro h0
 obtain ⟨g,o,e,hg,hc⟩:=h h0
 refine ⟨g,o,e,Nat.lt_of_lt_of_le hg hb.size,fun i hi=>?_⟩
 obtain ⟨c0,c1,c2,c3,c4,c5,c6,c7⟩:=hc i hi
 exact ⟨(hb.cell (p:=⟨g,o+i*8,none⟩) hg).trans c0,(hb.cell (p:=⟨g,o+i*8+1,none⟩) hg).trans c1,(hb.cell (p:=⟨g,o+i*8+2,none⟩) hg).trans c2,(hb.cell (p:=⟨g,o+i*8+3,none⟩) hg).trans c3,
  (hb.cell (p:=⟨g,o+i*8+4,none⟩) hg).trans c4,(hb.cell (p:=⟨g,o+i*8+5,none⟩) hg).trans c5,(hb.cell (p:=⟨g,o+i*8+6,none⟩) hg).trans c6,(hb.cell (p:=⟨g,o+i*8+7,none⟩) hg).trans c7⟩
def atN (l:List En) (x:ByteArray):Int:=match l.findIdx? (fun e=>e.n.data.toList == x.data.toList) with
 | some i=>(i:Int)
 | none=>-1
theorem atN_hit {l:List En} {x:ByteArray} {k:Nat} (hk:k<l.length) (h:∀ j,j<k→¬ (l.getD j default).n.toList=x.toList) (e:(l.getD k default).n.toList=x.toList):atN l x=(k:Int):=by
 have:l.findIdx? (fun e=>e.n.data.toList == x.data.toList)=some k:=by
  rw [List.findIdx?_eq_some_iff_getElem]
  refine ⟨hk,?_,fun j hj=>?_⟩
  ·
   have:=list_of_ba.1 e
   simp only [List.getD,List.getElem?_eq_getElem hk,Option.getD_some] at this
   simpa using this
  ·
   have hj':j<l.length:=by omega
   have:=h j hj
   simp only [List.getD,List.getElem?_eq_getElem hj',Option.getD_some] at this
   simp only [beq_iff_eq]
   exact fun e=>this (list_of_ba.2 e)
 unfold atN; rw [this]
theorem atN_miss {l:List En} {x:ByteArray} (h:∀ j,j<l.length→¬ (l.getD j default).n.toList=x.toList):atN l x = -1:=by
 have:l.findIdx? (fun e=>e.n.data.toList == x.data.toList)=none:=by
  rw [List.findIdx?_eq_none_iff]
  intro e he
  obtain ⟨j,hj,rfl⟩:=List.getElem_of_mem he
  have:=h j hj
  simp only [List.getD,List.getElem?_eq_getElem hj,Option.getD_some] at this
  simp only [beq_eq_false_iff_ne,ne_eq]
  exact fun e=>this (list_of_ba.2 e)
 unfold atN; rw [this]
set_option maxHeartbeats 800000 in
theorem l7At_any (a:Option Addr) (cap:Nat) (l:List En) (n:Nat) (hn:l.length=n) (x:ByteArray) (w:World) (h:ERow w a l) (hl:(n:Int)≤1048576) :
  Calls Tryz.prog 102 #[.slice a n cap,.string x] w fun e w'=>e = .returned (.int .i64 (atN l x))∧w'=w:=by
 have HH:=hide (fun k (hk:k<l.length)=>@atN_hit l x k hk)
 have HM:=hide (@atN_miss l x)
 have HR:=hide h
 rw [hn] at HH HM
 have HN:=hide hn
 clear h hn
 go_enter Tryz.func102,Tryz.ntmps102
 go_wp2_with fail
 go_loop [5] (fun i=>∃ k:Nat,k≤n∧i = .int .i64 k∧∀ j,j<k→¬ (l.getD j default).n.toList=x.toList) (fun i=>n-(intOf i).toNat)
 case atStart=>exact ⟨0,Nat.zero_le _,rfl,fun j hj=>absurd hj (by omega)⟩
 case round=>
  obtain ⟨k,hk,rfl,hall⟩:=hrel
  have HALL:=hide hall
  clear hall
  by_cases hkn:k<n
  ·
   have hkI:(k:Int)<(n:Int):=by omega
   obtain ⟨g,o,rfl,hg,hc⟩:=unhide HR (by have:=unhide HN; omega)
   obtain ⟨c0,_,_,_,_,_,_,_⟩:=hc k (by have:=unhide HN; omega)
   have HHk:=hide (unhide HH k hkn (unhide HALL))
   have HNX:Hid (¬ (l.getD k default).n.toList=x.toList→∀ j,j<k+1→¬ (l.getD j default).n.toList=x.toList):=by
    intro e j hj
    by_cases hjk:j=k
    ·
     rw [hjk]; exact e
    ·
     exact unhide HALL j (by omega)
   have HKN:=hide hkn
   clear hc hk HALL HR
   generalize (l.getD k default).n=p at *
   by_cases e:p.toList=x.toList
   ·
    have HE:=hide (unhide HHk e)
    go_wp2
    go_ret
    exact ⟨ret_int (unhide HE).symm,rfl⟩
   ·
    have HE:=hide (unhide HNX e)
    have eB:(p.toList == x.toList)=false:=by simp only [beq_eq_false_iff_ne,ne_eq]; exact e
    go_wp2
    go_round
    case rel=>exact ⟨k+1,by have:=unhide HKN; omega,by go_num,unhide HE⟩
    case measure=>have:=unhide HKN; simp [intOf]; omega
  ·
   obtain rfl:k=n:=by omega
   have HE:=hide (unhide HM (unhide HALL))
   go_wp2
   go_ret
   exact ⟨ret_int (unhide HE).symm,rfl⟩
end Go.Proofs.YtkdlcomfpffhhaaGreatDoor
