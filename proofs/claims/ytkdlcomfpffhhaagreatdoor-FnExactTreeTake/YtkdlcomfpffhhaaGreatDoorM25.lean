/- Of what the proof is made: 3 texts, one behind the other. -/
import Derived.Test.YtkdlcomfpffhhaaGreatDoorM18
import Derived.Test.YtkdlcomfpffhhaaGreatDoorM24
namespace Go.Proofs.YtkdlcomfpffhhaaGreatDoor
open Go.RowKit
def entE (e:En):Bool:=entB e.n e.y e.mo e.d e.h e.mi e.s e.t
def freeB (l:List En) (i:Nat):Bool:=(List.range l.length).all fun k=>!undL (l.getD i default).n.data.toList (l.getD k default).n.data.toList
def oneB (l:List En) (i:Nat):Bool:=entE (l.getD i default)&&(decide (atN l (l.getD i default).n=(i:Int))&&freeB l i)
def zipB (l:List En):Bool:=(List.range l.length).all (oneB l)&&decide (l.length≤6)
theorem zip_no {l:List En} {i:Nat} (hi:i<l.length) (h:oneB l i=false):zipB l=false:=by
 have:(List.range l.length).all (oneB l)=false:=by
  rw [List.all_eq_false]
  exact ⟨i,List.mem_range.2 hi,by simp [h]⟩
 simp [zipB,this]
theorem zip_yes {l:List En} (h:∀ i,i<l.length→oneB l i=true):zipB l=decide (l.length≤6):=by
 have:(List.range l.length).all (oneB l)=true:=by
  rw [List.all_eq_true]
  exact fun i hi=>h i (List.mem_range.1 hi)
 simp [zipB,this]
theorem free_no {l:List En} {i k:Nat} (hk:k<l.length) (h:undL (l.getD i default).n.data.toList (l.getD k default).n.data.toList=true):freeB l i=false:=by
 unfold freeB
 rw [List.all_eq_false]
 exact ⟨k,List.mem_range.2 hk,by rw [h]; decide⟩
theorem free_yes {l:List En} {i:Nat} (h:∀ k,k<l.length→undL (l.getD i default).n.data.toList (l.getD k default).n.data.toList=false):freeB l i=true:=by
 unfold freeB
 rw [List.all_eq_true]
 exact fun k hk=>by rw [h k (List.mem_range.1 hk)]; rfl
set_option maxHeartbeats 4000000 in
theorem specZipOk_any (a:Option Addr) (cap:Nat) (l:List En) (n:Nat) (hn:l.length=n) (w:World) (h:ERow w a l) (hl:(n:Int)≤1048576)
  (hs:∀ i,i<n→(l.getD i default).n.size≤1048576∧((l.getD i default).t.size:Int)≤9223372036854775807) :
  Calls Tryz.prog 70 #[.slice a n cap] w fun e w'=>e = .returned (.bool (zipB l))∧Below w.heap.size w w':=by
 have HS:=hide hs
 have HR:=hide h
 have HZN:=hide (fun i (hi:i<l.length)=>@zip_no l i hi)
 have HZY:=hide (@zip_yes l)
 have HFN:=hide (fun i k (hk:k<l.length)=>@free_no l i k hk)
 have HFY:=hide (fun i=>@free_yes l i)
 rw [hn] at HZN HZY HFN HFY
 have HN:=hide hn
 clear h hs hn
 go_enter Tryz.func70,Tryz.ntmps70
 go_wp2_with fail
 go_loopw [3,4] (fun i _ wr=>∃ k:Nat,k≤n∧i = .int .i64 k∧(∀ j,j<k→oneB l j=true)∧Below w.heap.size w wr) (fun i _ _=>n-(intOf i).toNat)
 case atStart=>exact ⟨0,Nat.zero_le _,rfl,fun j hj=>absurd hj (by omega),Below.refl _ _⟩
 case round=>
  obtain ⟨k,hk,rfl,hall,hbel⟩:=hrel
  have HALL:=hide hall
  have HBel:=hide hbel
  clear hall hbel
  by_cases hkn:k<n
  ·
   have hkI:(k:Int)<(n:Int):=by omega
   have RW:=hide ((unhide HR).later (unhide HBel))
   obtain ⟨g,o,rfl,hg,hc⟩:=unhide RW (by have:=unhide HN; omega)
   obtain ⟨c0,c1,c2,c3,c4,c5,c6,c7⟩:=hc k (by have:=unhide HN; omega)
   have HKN:=hide hkn
   have HSk:=hide (unhide HS k hkn)
   have HZk:=hide (unhide HZN k hkn)
   have HOne:Hid (oneB l k=(entE (l.getD k default)&&(decide (atN l (l.getD k default).n=(k:Int))&&freeB l k))):=rfl
   have HNX:Hid (oneB l k=true→∀ j,j<k+1→oneB l j=true):=by
    intro e j hj
    by_cases hjk:j=k
    ·
     rw [hjk]; exact e
    ·
     exact unhide HALL j (by omega)
   have HFNk:=hide (unhide HFN k)
   have HFYk:=hide (unhide HFY k)
   have hsz:((l.getD k default).n.size:Int)≤1048576:=by have:=(unhide HSk).1; omega
   have HEnt:=hide (fun W=>specEntryOk_any (l.getD k default).n (l.getD k default).y (l.getD k default).mo (l.getD k default).d (l.getD k default).h (l.getD k default).mi (l.getD k default).s (l.getD k default).t W (unhide HSk).1 (unhide HSk).2)
   have HAt:=hide (fun W hW=>l7At_any (some ⟨g,o,none⟩) cap l n (unhide HN) (l.getD k default).n W hW hl)
   have HUn:=hide (fun j (hj:j<n) W=>l7Under_any (l.getD k default).n (l.getD j default).n W hsz (by have:=(unhide HS j hj).1; omega))
   have HNm:Hid (∀ W,Below w.heap.size w W→∀ j,j<n→W.cell? ⟨g,o+j*8,none⟩=some (.string (l.getD j default).n)):=by
    intro W hW j hj
    obtain ⟨g',o',e',_,hc'⟩:=(unhide HR).later hW (by have:=unhide HN; omega)
    simp only [Option.some.injEq,Addr.mk.injEq,and_true] at e'
    obtain ⟨rfl,rfl⟩:=e'
    exact (hc' j (by have:=unhide HN; omega)).1
   have HE0:Hid (entE (l.getD k default)=entB (l.getD k default).n (l.getD k default).y (l.getD k default).mo (l.getD k default).d (l.getD k default).h (l.getD k default).mi (l.getD k default).s (l.getD k default).t):=rfl
   clear hc hk HALL hkn
   generalize entE (l.getD k default)=be at *
   go_wp2_with fail
   refine (unhide HEnt _).mono ?_
   rintro e z1 ⟨rfl,hz1⟩
   rw [←unhide HE0]
   have BZ1:=hide (bnext (unhide HBel) hz1)
   have hc0:=unhide HNm _ (unhide BZ1) k (unhide HKN)
   clear hz1 c0 c1 c2 c3 c4 c5 c6 c7 HE0 HEnt
   cases be
   ·
    have HP:=hide (unhide HZk (by rw [unhide HOne]; rfl))
    go_wp2
    go_ret
    exact ⟨ret_bool (unhide HP).symm,unhide BZ1⟩
   ·
    go_wp2_with fail
    refine (unhide HAt _ ((unhide HR).later (unhide BZ1))).mono ?_
    rintro e z2 ⟨rfl,hz2⟩
    rw [hz2]
    clear hz2
    generalize atN l (l.getD k default).n=A at *
    by_cases hA:A=(k:Int)
    ·
     subst hA
     go_wp2_with fail
     go_loopw [4] (fun q wr=>∃ m:Nat,m≤n∧q = .int .i64 m∧(∀ j,j<m→undL (l.getD k default).n.data.toList (l.getD j default).n.data.toList=false)∧Below w.heap.size w wr) (fun q _=>n-(intOf q).toNat)
     case atStart=>exact ⟨0,Nat.zero_le _,rfl,fun j hj=>absurd hj (by omega),unhide BZ1⟩
     case round=>
      obtain ⟨m,hm,rfl,hfr,hbel⟩:=hrel
      have HFR:=hide hfr
      have HB2:=hide hbel
      clear hfr hbel hc0
      by_cases hmn:m<n
      ·
       have hmI:(m:Int)<(n:Int):=by omega
       have d0:=unhide HNm _ (unhide HB2) k (unhide HKN)
       have d1:=unhide HNm _ (unhide HB2) m hmn
       have HU1:=hide (unhide HUn m hmn)
       have HFm:=hide (unhide HFNk m hmn)
       have HMN:=hide hmn
       have HFX:Hid (undL (l.getD k default).n.data.toList (l.getD m default).n.data.toList=false→∀ j,j<m+1→undL (l.getD k default).n.data.toList (l.getD j default).n.data.toList=false):=by
        intro e j hj
        by_cases hjm:j=m
        ·
         rw [hjm]; exact e
        ·
         exact unhide HFR j (by omega)
       clear hm HFR
       generalize undL (l.getD k default).n.data.toList (l.getD m default).n.data.toList=u at *
       cases u
       ·
        have HX:=hide (unhide HFX rfl)
        go_wp2_with fail
        go_quiet ((go_at_call 28; exact Calls.quiet_of_same (unhide HU1 _)))
        go_wp2
        go_roundw
        case rel=>exact ⟨m+1,by have:=unhide HMN; omega,by go_num,unhide HX,below_drewN (unhide HB2) _⟩
        case measure=>have:=unhide HMN; simp [intOf]; omega
       ·
        have HP:=hide (unhide HZk (by rw [unhide HOne,unhide HFm rfl]; simp))
        go_wp2_with fail
        go_quiet ((go_at_call 28; exact Calls.quiet_of_same (unhide HU1 _)))
        go_wp2
        go_ret
        exact ⟨ret_bool (unhide HP).symm,below_drewN (unhide HB2) _⟩
      ·
       obtain rfl:m=n:=by omega
       have HX:=hide (unhide HNX (by rw [unhide HOne,unhide HFYk (unhide HFR)]; simp))
       go_wp2
       go_roundw
       case rel=>exact ⟨k+1,by have:=unhide HKN; omega,by go_num,unhide HX,unhide HB2⟩
       case measure=>have:=unhide HKN; simp [intOf]; omega
    ·
     have HP:=hide (unhide HZk (by rw [unhide HOne]; simp [hA]))
     have hA':(A == (k:Int))=false:=by simp [hA]
     go_wp2
     go_ret
     exact ⟨ret_bool (unhide HP).symm,unhide BZ1⟩
  ·
   obtain rfl:k=n:=by omega
   have HY:=hide (unhide HZY (unhide HALL))
   by_cases h6:k≤6
   ·
    have h6I:(k:Int)≤6:=by omega
    go_wp2
    go_ret
    exact ⟨ret_bool (by rw [unhide HY]; simp [h6]),unhide HBel⟩
   ·
    have h6I:¬ (k:Int)≤6:=by omega
    go_wp2
    go_ret
    exact ⟨ret_bool (by rw [unhide HY]; simp [h6]),unhide HBel⟩
theorem roomOne_any (n:ByteArray) (y mo d h mi s:Int) (t:ByteArray) (b:Nat) (x:ByteArray) (w:World) (hb:w.cell? ⟨b,0,none⟩=some (.string x)) (hn:(n.size:Int)≤1048576) (hx:(x.size:Int)≤1048576) :
  Calls Tryz.prog 121 #[.agg #[.string n,.int .i64 y,.int .i64 mo,.int .i64 d,.int .i64 h,.int .i64 mi,.int .i64 s,.string t],.pointer (some ⟨b,0,none⟩)] w fun e w'=>e = .returned (.bool (clashL n.data.toList x.data.toList))∧Below w.heap.size w w':=by
 have hlt:b<w.heap.size:=World.block_lt_of_cell? _ _ hb
 have hcl:(w.alloc (.cells #[.string n,.int .i64 y,.int .i64 mo,.int .i64 d,.int .i64 h,.int .i64 mi,.int .i64 s,.string t] 32)).cell? ⟨b,0,none⟩=some (.string x):=by
  rw [World.cell?_alloc_past _ _ _ hlt]; exact hb
 have HC:=hide (fun W=>namesClash_any n x W hn hx)
 clear hb
 go_enter Tryz.func121,Tryz.ntmps121
 go_wp2_with fail
 refine (unhide HC _).mono ?_
 rintro e w1 ⟨rfl,hw⟩
 rw [hw]
 clear hw
 go_wp2
 go_ret
 exact ⟨rfl,(Below.refl _ _).alloc (Nat.le_refl _) _⟩
def anyC (l:List En) (x:ByteArray):Bool:=l.any fun e=>clashL e.n.data.toList x.data.toList
theorem anyC_hit {l:List En} {x:ByteArray} {k:Nat} (hk:k<l.length) (e:clashL (l.getD k default).n.data.toList x.data.toList=true):anyC l x=true:=by
 unfold anyC
 rw [List.any_eq_true]
 refine ⟨l.getD k default,?_,e⟩
 simp [List.getD,hk]
theorem anyC_miss {l:List En} {x:ByteArray} (h:∀ j,j<l.length→clashL (l.getD j default).n.data.toList x.data.toList=false):anyC l x=false:=by
 unfold anyC
 rw [List.any_eq_false]
 intro e he
 obtain ⟨j,hj,rfl⟩:=List.getElem_of_mem he
 have:=h j hj
 simp only [List.getD,List.getElem?_eq_getElem hj,Option.getD_some] at this
 simp [this]
set_option maxHeartbeats 1600000 in
theorem indexRoom_any (a:Option Addr) (cap:Nat) (l:List En) (n:Nat) (hn:l.length=n) (b:Nat) (x:ByteArray) (w:World) (h:ERow w a l) (hl:(n:Int)≤1048576) (hb:w.cell? ⟨b,0,none⟩=some (.string x)) (hx:(x.size:Int)≤1048576)
  (hs:∀ i,i<n→((l.getD i default).n.size:Int)≤1048576) :
  Calls Tryz.prog 163 #[.slice a n cap,.func (.func 121) #[] #[.pointer (some ⟨b,0,none⟩)]] w fun e w'=>(∃ r:Int,e = .returned (.int .i64 r)∧decide (0≤r)=anyC l x∧r<1048577)∧Below w.heap.size w w':=by
 have hlt:b<w.heap.size:=World.block_lt_of_cell? _ _ hb
 have HS:=hide hs
 have HR:=hide h
 have HBc:=hide hb
 have HLT:=hide hlt
 have HH:=hide (fun k (hk:k<l.length)=>@anyC_hit l x k hk)
 have HM:=hide (@anyC_miss l x)
 rw [hn] at HH HM
 have HN:=hide hn
 clear h hs hn hb hlt
 go_enter Tryz.func163,Tryz.ntmps163
 go_wp2_with fail
 go_loopw [5,8] (fun _ i wr=>∃ k:Nat,k≤n∧i = .int .i64 k∧(∀ j,j<k→clashL (l.getD j default).n.data.toList x.data.toList=false)∧Below w.heap.size w wr) (fun _ i _=>n-(intOf i).toNat)
 case atStart=>exact ⟨0,Nat.zero_le _,rfl,fun j hj=>absurd hj (by omega),Below.refl _ _⟩
 case round=>
  obtain ⟨k,hk,rfl,hall,hbel⟩:=hrel
  have HALL:=hide hall
  have HBel:=hide hbel
  clear hall hbel
  by_cases hkn:k<n
  ·
   have hkI:(k:Int)<(n:Int):=by omega
   obtain ⟨g,o,rfl,hg,hc⟩:=(unhide HR).later (unhide HBel) (by have:=unhide HN; omega)
   obtain ⟨c0,c1,c2,c3,c4,c5,c6,c7⟩:=hc k (by have:=unhide HN; omega)
   have HKN:=hide hkn
   have HHk:=hide (unhide HH k hkn)
   have HC:=hide (fun W (hW:Below w.heap.size w W)=>roomOne_any (l.getD k default).n (l.getD k default).y (l.getD k default).mo (l.getD k default).d (l.getD k default).h (l.getD k default).mi (l.getD k default).s (l.getD k default).t b x W ((hW.cell (p:=⟨b,0,none⟩) (unhide HLT)).trans (unhide HBc)) (unhide HS k hkn) hx)
   have HNX:Hid (clashL (l.getD k default).n.data.toList x.data.toList=false→∀ j,j<k+1→clashL (l.getD j default).n.data.toList x.data.toList=false):=by
    intro e j hj
    by_cases hjk:j=k
    ·
     rw [hjk]; exact e
    ·
     exact unhide HALL j (by omega)
   clear hc hk HALL hkn
   generalize clashL (l.getD k default).n.data.toList x.data.toList=u at *
   go_wp2_with fail
   refine (unhide HC _ (unhide HBel)).mono ?_
   rintro e z1 ⟨rfl,hz1⟩
   have BZ:=hide (bnext (unhide HBel) hz1)
   clear hz1 c0 c1 c2 c3 c4 c5 c6 c7
   cases u
   ·
    have HX:=hide (unhide HNX rfl)
    go_wp2
    go_roundw
    case rel=>exact ⟨k+1,by have:=unhide HKN; omega,by go_num,unhide HX,unhide BZ⟩
    case measure=>have:=unhide HKN; simp [intOf]; omega
   ·
    have HE:=hide (unhide HHk rfl)
    go_wp2
    go_ret
    exact ⟨⟨(k:Int),rfl,by rw [unhide HE]; simp,by omega⟩,unhide BZ⟩
  ·
   obtain rfl:k=n:=by omega
   have HE:=hide (unhide HM (unhide HALL))
   go_wp2
   go_ret
   exact ⟨⟨-1,rfl,by rw [unhide HE]; rfl,by omega⟩,unhide HBel⟩
theorem containsRoom_any (a:Option Addr) (cap:Nat) (l:List En) (n:Nat) (hn:l.length=n) (b:Nat) (x:ByteArray) (w:World) (h:ERow w a l) (hl:(n:Int)≤1048576) (hb:w.cell? ⟨b,0,none⟩=some (.string x)) (hx:(x.size:Int)≤1048576)
  (hs:∀ i,i<n→((l.getD i default).n.size:Int)≤1048576) :
  Calls Tryz.prog 120 #[.slice a n cap,.func (.func 121) #[] #[.pointer (some ⟨b,0,none⟩)]] w fun e w'=>e = .returned (.bool (anyC l x))∧Below w.heap.size w w':=by
 have HC:=hide (indexRoom_any a cap l n hn b x w h hl hb hx hs)
 clear h hb hs hn
 go_enter Tryz.func120,Tryz.ntmps120
 go_wp2_with fail
 refine (unhide HC).mono ?_
 rintro e w1 ⟨⟨r,rfl,hr,_⟩,hb1⟩
 have HR:=hide hr
 have HB:=hide hb1
 clear hr hb1
 go_wp2
 go_ret
 exact ⟨ret_bool (unhide HR),unhide HB⟩
def roomC (l:List En) (e:En):Int:=if entE e then (if anyC l e.n then 3 else if 6≤l.length then 4 else 0) else 1
def faultV (c:Int):Value:=if c=0 then .nilIface else .iface 121 (.agg #[.int .i64 c])
set_option maxHeartbeats 1600000 in
theorem zipRoom_any (a:Option Addr) (cap:Nat) (l:List En) (n:Nat) (hn:l.length=n) (e:En) (m:Int) (w:World) (h:ERow w a l) (hl:(n:Int)≤1048576)
  (hs:∀ i,i<n→((l.getD i default).n.size:Int)≤1048576) (he:e.n.size≤1048576) (ht:(e.t.size:Int)≤9223372036854775807) (hm:w.cell? ⟨2,0,none⟩=some (.int .i64 m)) :
  Calls Tryz.prog 80 #[.slice a n cap,.agg #[.string e.n,.int .i64 e.y,.int .i64 e.mo,.int .i64 e.d,.int .i64 e.h,.int .i64 e.mi,.int .i64 e.s,.string e.t]] w fun f w'=>f = .returned (faultV (roomC l e))∧Below w.heap.size w w':=by
 have HM:Hid ((w.alloc (.cells #[.string e.n,.int .i64 e.y,.int .i64 e.mo,.int .i64 e.d,.int .i64 e.h,.int .i64 e.mi,.int .i64 e.s,.string e.t] 32)).cell? ⟨2,0,none⟩=some (.int .i64 m)):=by
  show _=_
  rw [World.cell?_alloc_past _ _ _ (World.block_lt_of_cell? _ _ hm)]; exact hm
 have HEO:=hide (implEntryOk_any e.n e.y e.mo e.d e.h e.mi e.s e.t m _ he ht (unhide HM))
 have HR:=hide h
 have HS:=hide hs
 have HN:=hide hn
 have heI:(e.n.size:Int)≤1048576:=by omega
 clear h hs hm hn
 cases hk:entE e
 ·
  have hc:roomC l e=1:=by simp [roomC,hk]
  rw [hc]
  go_enter Tryz.func80,Tryz.ntmps80
  go_wp2_with fail
  refine (unhide HEO).mono ?_
  rintro f w1 ⟨rfl,hb1⟩
  rw [show entB e.n e.y e.mo e.d e.h e.mi e.s e.t=false from hk]
  have HB1:=hide (ent_call hb1).2
  clear hb1
  go_wp2
  go_ret
  exact ⟨rfl,unhide HB1⟩
 ·
  have HRC:Hid (roomC l e=if anyC l e.n then 3 else if 6≤n then 4 else 0):=by show _=_; rw [←unhide HN]; simp [roomC,hk]
  go_enter Tryz.func80,Tryz.ntmps80
  go_wp2_with fail
  refine (unhide HEO).mono ?_
  rintro f w1 ⟨rfl,hb1⟩
  rw [show entB e.n e.y e.mo e.d e.h e.mi e.s e.t=true from hk]
  have HB1:=hide (ent_call hb1).2
  have HX1:=hide (ent_call hb1).1
  clear hb1
  have HCC:=hide (containsRoom_any a cap l n (unhide HN) w.heap.size e.n w1 ((unhide HR).later (unhide HB1)) hl (unhide HX1).1.1 heI (unhide HS))
  clear HX1 HEO
  generalize anyC l e.n=u at *
  go_wp2_with fail
  refine (unhide HCC).mono ?_
  rintro f w2 ⟨rfl,hb2⟩
  have HB2:=hide (bnext (unhide HB1) hb2)
  clear hb2 HCC
  cases u
  ·
   by_cases h6:6≤n
   ·
    have h6I:(6:Int)≤(n:Int):=by omega
    have HC:Hid (roomC l e=4):=by show _=_; rw [unhide HRC]; simp [h6]
    go_wp2
    go_ret
    exact ⟨by rw [unhide HC]; rfl,unhide HB2⟩
   ·
    have HC:Hid (roomC l e=0):=by show _=_; rw [unhide HRC]; simp [h6]
    go_wp2
    go_ret
    exact ⟨by rw [unhide HC]; rfl,unhide HB2⟩
  ·
   have HC:Hid (roomC l e=3):=by show _=_; rw [unhide HRC]; simp
   go_wp2
   go_ret
   exact ⟨by rw [unhide HC]; rfl,unhide HB2⟩
end Go.Proofs.YtkdlcomfpffhhaaGreatDoor
