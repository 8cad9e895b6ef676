/- Of what the proof is made: 7 texts, one behind the other. -/
import Derived.Test.YtkdlcomfpffhhaaGreatDoorM36
import Derived.Test.YtkdlcomfpffhhaaGreatDoorM23
import Derived.Test.YtkdlcomfpffhhaaGreatDoorM24
import Derived.Test.YtkdlcomfpffhhaaGreatDoorM31
import Derived.Test.YtkdlcomfpffhhaaGreatDoorM3
import Derived.Lib.QuietBelow
namespace Go.Proofs.YtkdlcomfpffhhaaGreatDoor
open Go.RowKit Corb
set_option maxRecDepth 100000
def centB (how st crc pk lg:Nat) (nm:ByteArray) (pl:Nat):ByteArray:=(⟨#[80,75,1,2]⟩:ByteArray)++strL (leS 2 20)++toldB how st crc pk lg nm.size++(⟨#[0,0,0,0,0,0,0,0,0,0]⟩:ByteArray)++strL (leS 4 pl)++nm
theorem centB_size (how st crc pk lg:Nat) (nm:ByteArray) (pl:Nat):(centB how st crc pk lg nm pl).size=46+nm.size:=by
 simp only [centB,ByteArray.size_append,toldB_size,strL_size,leS_len]
 have h1:(⟨#[80,75,1,2]⟩:ByteArray).size=4:=rfl
 have h2:(⟨#[0,0,0,0,0,0,0,0,0,0]⟩:ByteArray).size=10:=rfl
 omega
def endB (many long pl:Nat):ByteArray:=(⟨#[80,75,5,6]⟩:ByteArray)++strL ([0,0,many,many].flatMap (leS 2))++strL (leS 4 long)++strL (leS 4 pl)++strL ([0].flatMap (leS 2))
theorem endB_size (many long pl:Nat):(endB many long pl).size=22:=by
 simp only [endB,ByteArray.size_append,strL_size,leS_len,List.flatMap_cons,List.flatMap_nil,List.length_append,List.length_nil]
 have h1:(⟨#[80,75,5,6]⟩:ByteArray).size=4:=rfl
 omega
def eN (e:En):Nat:=(stN e.y e.mo e.d e.h e.mi e.s).toNat
theorem zip_all {l:List En} (h:zipB l=true):(∀ i,i<l.length→entE (l.getD i default)=true)∧l.length≤6:=by
 simp only [zipB,Bool.and_eq_true,decide_eq_true_eq,List.all_eq_true] at h
 exact ⟨fun i hi=>((one_parts l i).mp (h.1 i (List.mem_range.mpr hi))).1,h.2⟩
theorem emark_is:strL (leS 4 101010256)=(⟨#[80,75,5,6]⟩:ByteArray):=by decide +kernel
def encHd (q:En×Nat):List Value:=[.int .i64 (howN q.1.t:Nat),.int .i64 (eN q.1:Nat),.int .i64 (crcMore 0 q.1.t.data.toList:Nat),.int .i64 ((bodyB q.1.t).size:Nat),.int .i64 (q.1.t.size:Nat),.string q.1.n,.int .i64 (q.2:Nat)]
theorem new_cells (w:World) (cs:Array Value) (t:TypeId):∀ (j:Nat) (u:Value),cs.toList[j]?=some u→(w.alloc (.cells cs t)).cell? ((⟨w.heap.size,0,none⟩:Addr).add j)=some u:=by
 intro j u h
 have:=(blk_alloc w cs t).cell j u h
 have e:((⟨w.heap.size,0,none⟩:Addr).add j)=⟨w.heap.size,j,none⟩:=by
  unfold Addr.add
  split
  ·
   rename_i h0
   rw [h0]
  ·
   simp
 rw [e]; exact this
theorem l7end_is (many long pl:Nat):strL (leS 4 101010256)++strL (leS 2 0)++strL (leS 2 0)++strL (leS 2 many)++strL (leS 2 many)++strL (leS 4 long)++strL (leS 4 pl)++strL (leS 2 0)=endB many long pl:=by
 unfold endB
 rw [emark_is]
 apply ba_of_list
 simp [strL,List.flatMap_cons]
set_option maxHeartbeats 3200000 in
theorem l7End_any (many long pl:Nat) (w:World) (h0:many<65536) (h1:long<4294967296) (h2:pl<4294967296) :
  Calls Tryz.prog 73 #[.int .i64 (many:Nat),.int .i64 (long:Nat),.int .i64 (pl:Nat)] w fun e w'=>e = .returned (.string (endB many long pl))∧Below w.heap.size w w':=by
 have CE:Hid (∀ W,Calls Tryz.prog 103 #[.int .i64 101010256,.int .i64 4] W fun e w'=>e = .returned (.string (strL (leS 4 101010256)))∧Below W.heap.size W w'):=fun W=>l6Bytes_any 101010256 4 W (by omega) (by omega)
 have C0:Hid (∀ W,Calls Tryz.prog 103 #[.int .i64 0,.int .i64 2] W fun e w'=>e = .returned (.string (strL (leS 2 0)))∧Below W.heap.size W w'):=fun W=>l6Bytes_any 0 2 W (by omega) (by omega)
 have CM:Hid (∀ W,Calls Tryz.prog 103 #[.int .i64 (many:Nat),.int .i64 2] W fun e w'=>e = .returned (.string (strL (leS 2 many)))∧Below W.heap.size W w'):=fun W=>l6Bytes_any many 2 W (by omega) (by omega)
 have CL:Hid (∀ W,Calls Tryz.prog 103 #[.int .i64 (long:Nat),.int .i64 4] W fun e w'=>e = .returned (.string (strL (leS 4 long)))∧Below W.heap.size W w'):=fun W=>l6Bytes_any long 4 W (by omega) (by omega)
 have CP:Hid (∀ W,Calls Tryz.prog 103 #[.int .i64 (pl:Nat),.int .i64 4] W fun e w'=>e = .returned (.string (strL (leS 4 pl)))∧Below W.heap.size W w'):=fun W=>l6Bytes_any pl 4 W (by omega) (by omega)
 have HE:=hide (l7end_is many long pl)
 have zz:∀ many V,many≤4→((strL (leS many V)).size:Int)≤4:=fun many V hm=>by rw [strL_size,leS_len]; omega
 have z1:=zz 4 101010256 (by omega)
 have z2:=zz 2 0 (by omega)
 have z3:=zz 2 many (by omega)
 have z4:=zz 4 long (by omega)
 have z5:=zz 4 pl (by omega)
 generalize strL (leS 4 101010256)=A1 at *
 generalize strL (leS 2 0)=A2 at *
 generalize strL (leS 2 many)=A3 at *
 generalize strL (leS 4 long)=A4 at *
 generalize strL (leS 4 pl)=A5 at *
 generalize endB many long pl=RES at *
 clear h0 h1 h2 zz
 go_enter Tryz.func73,Tryz.ntmps73
 go_wp2_with fail
 refine (unhide CE _).mono ?_
 rintro e x1 ⟨rfl,B1⟩
 go_wp2_with fail
 refine (unhide C0 _).mono ?_
 rintro e x2 ⟨rfl,b2⟩
 have B2:=bnext B1 b2
 clear B1 b2
 go_wp2_with fail
 refine (unhide C0 _).mono ?_
 rintro e x3 ⟨rfl,b3⟩
 have B3:=bnext B2 b3
 clear B2 b3
 go_wp2_with fail
 refine (unhide CM _).mono ?_
 rintro e x4 ⟨rfl,b4⟩
 have B4:=bnext B3 b4
 clear B3 b4
 go_wp2_with fail
 refine (unhide CM _).mono ?_
 rintro e x5 ⟨rfl,b5⟩
 have B5:=bnext B4 b5
 clear B4 b5
 go_wp2_with fail
 refine (unhide CL _).mono ?_
 rintro e x6 ⟨rfl,b6⟩
 have B6:=bnext B5 b6
 clear B5 b6
 go_wp2_with fail
 refine (unhide CP _).mono ?_
 rintro e x7 ⟨rfl,b7⟩
 have B7:=bnext B6 b7
 clear B6 b7
 go_wp2_with fail
 refine (unhide C0 _).mono ?_
 rintro e x8 ⟨rfl,b8⟩
 have B8:=bnext B7 b8
 clear B7 b8
 go_wp2
 go_ret
 exact ⟨by rw [←unhide HE]; rfl,B8⟩
def BlS (w:World) (vs:List Value) (W:World):Prop:=Below w.heap.size w W∧Blk W w.heap.size vs
theorem BlS.later {w W W':World} {vs:List Value} (k:BlS w vs W) (hb:Below W.heap.size W W'):BlS w vs W':=⟨bnext k.1 hb,k.2.later hb k.2.1⟩
theorem BlS.drew {w W:World} {vs:List Value} (k:BlS w vs W):BlS w vs W.drew:=⟨k.1.drew,k.2.drew⟩
theorem one_row (W:World) (x:Nat):IRow (W.alloc (.cells #[.int .i64 ((x:Nat):Int)] 3)) (some ⟨W.heap.size,0,none⟩) (wordI [x]):=by
 intro _
 refine ⟨W.heap.size,0,rfl,by simp,fun i hi=>?_⟩
 match i,hi with
 | 0,_=>simp [wordI]
theorem four_row (W:World) (x y z u:Nat):IRow (W.alloc (.cells #[.int .i64 ((x:Nat):Int),.int .i64 ((y:Nat):Int),.int .i64 ((z:Nat):Int),.int .i64 ((u:Nat):Int)] 3)) (some ⟨W.heap.size,0,none⟩) (wordI [x,y,z,u]):=by
 intro _
 refine ⟨W.heap.size,0,rfl,by simp,fun i hi=>?_⟩
 match i,hi with
 | 0,_=>simp [wordI]
 | 1,_=>simp [wordI]
 | 2,_=>simp [wordI]
 | 3,_=>simp [wordI]
set_option maxHeartbeats 6400000 in
theorem listPut_any (how st crc pk lg pl:Nat) (nm:ByteArray) (w:World) (h0:how<65536) (h1:st<4294967296) (h2:crc<4294967296) (h3:pk<4294967296) (h4:lg<4294967296) (h5:nm.size<65536) (h6:pl<4294967296) :
  Calls Tryz.prog 88 #[.agg #[.int .i64 (how:Nat),.int .i64 (st:Nat),.int .i64 (crc:Nat),.int .i64 (pk:Nat),.int .i64 (lg:Nat),.string nm,.int .i64 (pl:Nat)]] w fun e w'=>e = .returned (.string (centB how st crc pk lg nm pl))∧Below w.heap.size w w':=by
 have hmix:Tryz.prog.follows .mixedOrders=true:=by kernel_rfl
 have CW:Hid (∀ g W,IRow W (some ⟨g,0,none⟩) (wordI [20])→Calls Tryz.prog 89 #[.slice (some ⟨g,0,none⟩) 1 1] W fun e w'=>e = .returned (.string (strL (leS 2 20)))∧Below W.heap.size W w'):=fun g W h=>by
  have:=wordsPut_any (some ⟨g,0,none⟩) 1 1 [20] W rfl h (by decide) (by decide)
  rw [show ([20]:List Nat).flatMap (leS 2)=leS 2 20 by simp] at this
  exact this
 have CT:Hid (∀ W,Calls Tryz.prog 130 #[.agg #[.int .i64 (how:Nat),.int .i64 (st:Nat),.int .i64 (crc:Nat),.int .i64 (pk:Nat),.int .i64 (lg:Nat),.string nm]] W fun e w'=>e = .returned (.string (toldB how st crc pk lg nm.size))∧Below W.heap.size W w'):=fun W=>told_any how st crc pk lg nm W h0 h1 h2 h3 h4 h5
 have CL:Hid (∀ W,Calls Tryz.prog 90 #[.int .i64 (pl:Int)] W fun e w'=>e = .returned (.string (strL (leS 4 pl)))∧Below W.heap.size W w'):=fun W=>longPut_any pl W h6
 have z0:((strL (leS 2 20)).size:Int)≤100:=by rw [strL_size,leS_len]; omega
 have z1:((toldB how st crc pk lg nm.size).size:Int)≤100:=by rw [toldB_size]; omega
 have z2:((strL (leS 4 pl)).size:Int)≤100:=by rw [strL_size,leS_len]; omega
 have hnI:(nm.size:Int)<65536:=by omega
 unfold centB
 generalize strL (leS 2 20)=A0 at *
 generalize toldB how st crc pk lg nm.size=A1 at *
 generalize strL (leS 4 pl)=A2 at *
 have T0':Hid (BlS w [.int .i64 (how:Nat),.int .i64 (st:Nat),.int .i64 (crc:Nat),.int .i64 (pk:Nat),.int .i64 (lg:Nat),.string nm,.int .i64 (pl:Nat)] (w.alloc (.cells #[.int .i64 (how:Nat),.int .i64 (st:Nat),.int .i64 (crc:Nat),.int .i64 (pk:Nat),.int .i64 (lg:Nat),.string nm,.int .i64 (pl:Nat)] 95))):=⟨(Below.refl _ _).alloc (Nat.le_refl _) _,blk_alloc w _ _⟩
 clear h0 h1 h2 h3 h4 h5 h6
 go_enter Tryz.func88,Tryz.ntmps88
 go_wp2_with fail
 obtain ⟨W0,hW0⟩:∃ x,w.alloc (.cells #[.int .i64 (how:Nat),.int .i64 (st:Nat),.int .i64 (crc:Nat),.int .i64 (pk:Nat),.int .i64 (lg:Nat),.string nm,.int .i64 (pl:Nat)] 95)=x:=⟨_,rfl⟩
 rw [hW0] at T0'
 rw [hW0]
 have T0:=T0'
 clear T0' hW0
 refine wp_region_held_drew (S:=BlS w [.int .i64 (how:Nat),.int .i64 (st:Nat),.int .i64 (crc:Nat),.int .i64 (pk:Nat),.int .i64 (lg:Nat),.string nm,.int .i64 (pl:Nat)]) hmix (unhide T0).drew (fun hS=>?_)
 refine wpAnyH_take (i:=3) (v:=.pointer (some ⟨w.heap.size,0,none⟩)) rfl (by kernel_rfl) (by kernel_rfl) (by kernel_rfl) (fun _ _ _ h=>h) (Or.inl ⟨by rfl,fun W hSw=>by go_simp⟩) hS ?_
 refine wpAnyH_take (i:=4) (v:=.agg #[.int .i64 (how:Nat),.int .i64 (st:Nat),.int .i64 (crc:Nat),.int .i64 (pk:Nat),.int .i64 (lg:Nat),.string nm]) rfl (by kernel_rfl) (by kernel_rfl) (by kernel_rfl) (fun _ _ _ h=>h) (Or.inl ⟨by rfl,fun W hSw=>by have s0:=hSw.2.cell 0 _ rfl; have s1:=hSw.2.cell 1 _ rfl; have s2:=hSw.2.cell 2 _ rfl; have s3:=hSw.2.cell 3 _ rfl; have s4:=hSw.2.cell 4 _ rfl; have s5:=hSw.2.cell 5 _ rfl; go_simp⟩) hS ?_
 refine wpAnyH_take (i:=8) (v:=.pointer (some ⟨w.heap.size,6,none⟩)) rfl (by kernel_rfl) (by kernel_rfl) (by kernel_rfl) (fun _ _ _ h=>h) (Or.inl ⟨by rfl,fun W hSw=>by go_simp⟩) hS ?_
 refine wpAnyH_take (i:=9) (v:=.int .i64 (pl:Nat)) rfl (by kernel_rfl) (by kernel_rfl) (by kernel_rfl) (fun _ _ _ h=>h) (Or.inl ⟨by rfl,fun W hSw=>by have s6:=hSw.2.cell 6 _ rfl; go_simp⟩) hS ?_
 refine wpAnyH_take (i:=12) (v:=.pointer (some ⟨w.heap.size,0,none⟩)) rfl (by kernel_rfl) (by kernel_rfl) (by kernel_rfl) (fun _ _ _ h=>h) (Or.inl ⟨by rfl,fun W hSw=>by go_simp⟩) hS ?_
 refine wpAnyH_take (i:=13) (v:=.pointer (some ⟨w.heap.size,5,none⟩)) rfl (by kernel_rfl) (by kernel_rfl) (by kernel_rfl) (fun _ _ _ h=>h) (Or.inl ⟨by rfl,fun W hSw=>by go_simp⟩) hS ?_
 refine wpAnyH_take (i:=14) (v:=.string nm) rfl (by kernel_rfl) (by kernel_rfl) (by kernel_rfl) (fun _ _ _ h=>h) (Or.inl ⟨by rfl,fun W hSw=>by have s5:=hSw.2.cell 5 _ rfl; go_simp⟩) hS ?_
 have T1:=hide ((unhide T0).drew)
 generalize W0.drew=W1 at *
 refine wpAnyH_ready (rs:=[0]) (by kernel_rfl) (by simp) ?_
 refine AllReadyH.cons rfl (fun K hK=>?_) AllReadyH.nil
 go_simp
 have Bd:Below W1.heap.size W1 (W1.alloc (.cells #[.int .i64 20] 3)):=(Below.refl _ _).alloc (Nat.le_refl _) _
 have T2:=hide ((unhide T1).later Bd)
 have R2:Hid (IRow (W1.alloc (.cells #[.int .i64 20] 3)) (some ⟨W1.heap.size,0,none⟩) (wordI [20])):=one_row _ _
 refine Shut.out hK _ _ (unhide T2) (fun hS=>?_)
 clear hK K Bd T1
 obtain ⟨g,hg⟩:∃ x,W1.heap.size=x:=⟨_,rfl⟩
 obtain ⟨W2,hW2⟩:∃ x,W1.alloc (.cells #[.int .i64 20] 3)=x:=⟨_,rfl⟩
 rw [hW2] at T2 hS
 rw [hg,hW2] at R2
 rw [hg,hW2]
 refine wpAnyH_ready (rs:=[1]) (by kernel_rfl) (by simp) ?_
 refine AllReadyH.cons rfl (fun K hK=>?_) AllReadyH.nil
 go_simp
 go_at_call 89
 refine (unhide CW g W2 (unhide R2)).mono ?_
 rintro e W3 ⟨rfl,Bd⟩
 have T3:=hide ((unhide T2).later Bd)
 refine Shut.out hK _ _ (unhide T3) (fun hS=>?_)
 clear hK K Bd T2
 refine wpAnyH_take (i:=2) (v:=.string ((⟨#[80,75,1,2]⟩:ByteArray)++A0)) rfl (by kernel_rfl) (by kernel_rfl) (by kernel_rfl) (fun _ _ _ h=>h) (Or.inl ⟨by rfl,fun W hSw=>by go_simp <;> omega⟩) hS ?_
 refine wpAnyH_ready (rs:=[5]) (by kernel_rfl) (by simp) ?_
 refine AllReadyH.cons rfl (fun K hK=>?_) AllReadyH.nil
 go_simp
 go_at_call 130
 refine (unhide CT W3).mono ?_
 rintro e W4 ⟨rfl,Bd⟩
 have T4:=hide ((unhide T3).later Bd)
 refine Shut.out hK _ _ (unhide T4) (fun hS=>?_)
 clear hK K Bd T3
 refine wpAnyH_take (i:=6) (v:=.string ((⟨#[80,75,1,2]⟩:ByteArray)++A0++A1)) rfl (by kernel_rfl) (by kernel_rfl) (by kernel_rfl) (fun _ _ _ h=>h) (Or.inl ⟨by rfl,fun W hSw=>by go_simp <;> omega⟩) hS ?_
 refine wpAnyH_take (i:=7) (v:=.string ((⟨#[80,75,1,2]⟩:ByteArray)++A0++A1++(⟨#[0,0,0,0,0,0,0,0,0,0]⟩:ByteArray))) rfl (by kernel_rfl) (by kernel_rfl) (by kernel_rfl) (fun _ _ _ h=>h) (Or.inl ⟨by rfl,fun W hSw=>by go_simp <;> omega⟩) hS ?_
 refine wpAnyH_ready (rs:=[10]) (by kernel_rfl) (by simp) ?_
 refine AllReadyH.cons rfl (fun K hK=>?_) AllReadyH.nil
 go_simp
 go_at_call 90
 refine (unhide CL W4).mono ?_
 rintro e W5 ⟨rfl,Bd⟩
 have T5:=hide ((unhide T4).later Bd)
 refine Shut.out hK _ _ (unhide T5) (fun hS=>?_)
 clear hK K Bd T4
 refine wpAnyH_take (i:=11) (v:=.string ((⟨#[80,75,1,2]⟩:ByteArray)++A0++A1++(⟨#[0,0,0,0,0,0,0,0,0,0]⟩:ByteArray)++A2)) rfl (by kernel_rfl) (by kernel_rfl) (by kernel_rfl) (fun _ _ _ h=>h) (Or.inl ⟨by rfl,fun W hSw=>by go_simp <;> omega⟩) hS ?_
 refine wpAnyH_take (i:=15) (v:=.string ((⟨#[80,75,1,2]⟩:ByteArray)++A0++A1++(⟨#[0,0,0,0,0,0,0,0,0,0]⟩:ByteArray)++A2++nm)) rfl (by kernel_rfl) (by kernel_rfl) (by kernel_rfl) (fun _ _ _ h=>h) (Or.inl ⟨by rfl,fun W hSw=>by go_simp <;> omega⟩) hS ?_
 refine wpAnyH_ready (rs:=[16]) (by kernel_rfl) (by simp) ?_
 refine AllReadyH.cons rfl (fun K hK=>?_) AllReadyH.nil
 go_simp
 refine Shut.out hK _ _ (unhide T5) (fun hS=>?_)
 clear hK K
 refine wpAnyH_done (by kernel_rfl) ?_ _
 clear hS
 generalize hAA:(⟨#[80,75,1,2]⟩:ByteArray)++A0++A1++(⟨#[0,0,0,0,0,0,0,0,0,0]⟩:ByteArray)++A2++nm=AA
 go_wp2
 go_ret
 exact ⟨by rw [←hAA]; rfl,(unhide T5).1⟩
def Row7 (w:World) (a:Option Addr) (n:Nat) (f:Nat→List Value):Prop:=0<n→∃ g,a=some ⟨g,0,none⟩∧g<w.heap.size∧∀ i,i<n→∀ j u,(f i)[j]?=some u→w.cell? ⟨g,i*7+j,none⟩=some u
theorem Row7.later {w w':World} {a:Option Addr} {n:Nat} {f:Nat→List Value} (h:Row7 w a n f) (hb:Below w.heap.size w w'):Row7 w' a n f:=by
 intro h0
 obtain ⟨g,e,hg,hc⟩:=h h0
 exact ⟨g,e,Nat.lt_of_lt_of_le hg hb.size,fun i hi j u hu=>(hb.cell (p:=⟨g,i*7+j,none⟩) hg).trans (hc i hi j u hu)⟩
theorem own_row7 {α:Type} {T:TypeId} {f:α→List Value} (hf:∀ x,(f x).length=7) {w:World} {base cap n:Nat} {a:Option Addr} {l:List α} (d:α) (hn:l.length=n) (h:GOwn T 7 f w base (.slice a n cap) l):Row7 w a n fun i=>f (l.getD i d):=by
 intro h0
 obtain ⟨g,rfl⟩:=h.somes (by omega)
 refine ⟨g,rfl,h.below.2,fun i hi j u hu=>?_⟩
 have hj:j<7:=by
  rw [←hf (l.getD i d)]
  exact (List.getElem?_eq_some_iff.mp hu).1
 rw [(GOwn.at hf d hn h i j hi hj).1]; exact hu
theorem end_is (L:ByteArray) (many long pl:Nat):L++(⟨#[80,75,5,6]⟩:ByteArray)++strL ([0,0,many,many].flatMap (leS 2))++strL (leS 4 long)++strL (leS 4 pl)++strL ([0].flatMap (leS 2))=L++endB many long pl:=by
 unfold endB
 simp only [ByteArray.append_assoc]
structure Hq where
 how:Nat
 st:Nat
 crc:Nat
 pk:Nat
 lg:Nat
 nm:ByteArray
 pl:Nat
def encQ (q:Hq):List Value:=[.int .i64 (q.how:Nat),.int .i64 (q.st:Nat),.int .i64 (q.crc:Nat),.int .i64 (q.pk:Nat),.int .i64 (q.lg:Nat),.string q.nm,.int .i64 (q.pl:Nat)]
theorem encQ_len (e:Hq):(encQ e).length=7:=rfl
theorem encQ_one (e:Hq):∀ u∈encQ e,u.oneCell'=true:=by
 intro u hu
 simp only [encQ,List.mem_cons,List.not_mem_nil,or_false] at hu
 rcases hu with rfl | rfl | rfl | rfl | rfl | rfl | rfl <;> rfl
def cQ (q:Hq):ByteArray:=centB q.how q.st q.crc q.pk q.lg q.nm q.pl
def okQ (q:Hq):Prop:=q.how<65536∧q.st<4294967296∧q.crc<4294967296∧q.pk<4294967296∧q.lg<4294967296∧q.nm.size≤54∧q.pl<4294967296
def listQ (f:Nat→Hq):Nat→ByteArray
 | 0=>⟨#[]⟩
 | k+1=>listQ f k++cQ (f k)
theorem listQ_size (f:Nat→Hq):∀ k,(∀ i,i<k→okQ (f i))→(listQ f k).size≤100*k
 | 0,_=>Nat.zero_le _
 | k+1,h=>by
  have ih:=listQ_size f k (fun i hi=>h i (by omega))
  have h1:=(h k (by omega)).2.2.2.2.2.1
  have h2:(cQ (f k)).size=46+(f k).nm.size:=centB_size _ _ _ _ _ _ _
  rw [listQ,ByteArray.size_append]; omega
set_option maxHeartbeats 6400000 in
theorem zipEndQ_any (a:Option Addr) (cap n P:Nat) (f:Nat→Hq) (w:World) (h:Row7 w a n fun i=>encQ (f i)) (hm:n≤6) (hs:∀ i,i<n→okQ (f i)) (hP:P<4294967296) :
  Calls Tryz.prog 61 #[.slice a n cap,.int .i64 (P:Nat)] w fun e w'=>e = .returned (.string (listQ f n++endB n (listQ f n).size P))∧Below w.heap.size w w':=by
 have hmI:(n:Int)≤6:=by omega
 have HZ:=hide (fun k (hk:k≤n)=>listQ_size f k (fun i hi=>hs i (by omega)))
 have hz:=unhide HZ n (by omega)
 have hL:(listQ f n).size<4294967296:=by omega
 have hLI:((listQ f n).size:Int)≤600:=by omega
 have HS:=hide hs
 have HR:=hide h
 have CW4:Hid (∀ g W,IRow W (some ⟨g,0,none⟩) (wordI [0,0,n,n])→Calls Tryz.prog 89 #[.slice (some ⟨g,0,none⟩) 4 4] W fun e w'=>e = .returned (.string (strL ([0,0,n,n].flatMap (leS 2))))∧Below W.heap.size W w'):=fun g W h=>wordsPut_any (some ⟨g,0,none⟩) 4 4 [0,0,n,n] W rfl h (by decide) (by intro x hx; simp at hx; omega)
 have CW1:Hid (∀ g W,IRow W (some ⟨g,0,none⟩) (wordI [0])→Calls Tryz.prog 89 #[.slice (some ⟨g,0,none⟩) 1 1] W fun e w'=>e = .returned (.string (strL ([0].flatMap (leS 2))))∧Below W.heap.size W w'):=fun g W h=>wordsPut_any (some ⟨g,0,none⟩) 1 1 [0] W rfl h (by decide) (by decide)
 have CLL:Hid (∀ W,Calls Tryz.prog 90 #[.int .i64 ((listQ f n).size:Int)] W fun e w'=>e = .returned (.string (strL (leS 4 (listQ f n).size)))∧Below W.heap.size W w'):=fun W=>longPut_any _ W hL
 have CLP:Hid (∀ W,Calls Tryz.prog 90 #[.int .i64 (P:Int)] W fun e w'=>e = .returned (.string (strL (leS 4 P)))∧Below W.heap.size W w'):=fun W=>longPut_any _ W hP
 have z1:((strL ([0,0,n,n].flatMap (leS 2))).size:Int)≤100:=by rw [strL_size]; simp [leS_len]
 have z2:((strL ([0].flatMap (leS 2))).size:Int)≤100:=by rw [strL_size]; simp [leS_len]
 have z3:((strL (leS 4 (listQ f n).size)).size:Int)≤100:=by rw [strL_size,leS_len]; omega
 have z4:((strL (leS 4 P)).size:Int)≤100:=by rw [strL_size,leS_len]; omega
 have HE:=hide (end_is (listQ f n) n (listQ f n).size P)
 generalize (listQ f n)++endB n (listQ f n).size P=RES at *
 generalize strL ([0,0,n,n].flatMap (leS 2))=A1 at *
 generalize strL ([0].flatMap (leS 2))=A2 at *
 generalize strL (leS 4 (listQ f n).size)=A3 at *
 generalize strL (leS 4 P)=A4 at *
 obtain ⟨LI,hLI'⟩:∃ x,(listQ f n)=x:=⟨_,rfl⟩
 rw [hLI'] at CLL HE hLI hL
 have HLI:=hide hLI'
 clear h hs hz hP hL hLI'
 go_enter Tryz.func61,Tryz.ntmps61
 go_wp2_with fail
 go_loopw [5,7,10] (fun o _ i wr=>∃ k:Nat,k≤n∧i = .int .i64 k∧o = .string (listQ f k)∧Below w.heap.size w wr) (fun _ _ i _=>n-(intOf i).toNat)
 case atStart=>exact ⟨0,Nat.zero_le _,rfl,rfl,Below.refl _ _⟩
 case round=>
  obtain ⟨k,hk,rfl,rfl,hbel⟩:=hrel
  by_cases hlt:k<n
  ·
   obtain ⟨g,rfl,hg,hcc⟩:=(unhide HR).later hbel (by omega)
   have c0:=hcc k hlt 0 _ rfl
   have c1:=hcc k hlt 1 _ rfl
   have c2:=hcc k hlt 2 _ rfl
   have c3:=hcc k hlt 3 _ rfl
   have c4:=hcc k hlt 4 _ rfl
   have c5:=hcc k hlt 5 _ rfl
   have c6:=hcc k hlt 6 _ rfl
   rw [Nat.add_zero] at c0
   have hst:Hid (listQ f (k+1)=listQ f k++cQ (f k)):=rfl
   have hsz:=unhide HZ k (by omega)
   have hszI:((listQ f k).size:Int)≤600:=by omega
   obtain ⟨o0,o1,o2,o3,o4,o5,o6⟩:=unhide HS k hlt
   have hhe:(cQ (f k)).size=46+(f k).nm.size:=centB_size _ _ _ _ _ _ _
   have hheI:((cQ (f k)).size:Int)≤100:=by omega
   have HP:=hide (fun W=>listPut_any (f k).how (f k).st (f k).crc (f k).pk (f k).lg (f k).pl (f k).nm W o0 o1 o2 o3 o4 (by omega) o6)
   have HX:Hid (centB (f k).how (f k).st (f k).crc (f k).pk (f k).lg (f k).nm (f k).pl=cQ (f k)):=rfl
   rw [unhide HX] at HP
   have HB:=hide (And.intro hbel hk)
   clear hcc o0 o1 o2 o3 o4 o5 o6 hhe hsz hbel hk HX
   generalize cQ (f k)=HE1 at *
   generalize (f k).how=v0 at *
   generalize (f k).st=v1 at *
   generalize (f k).crc=v2 at *
   generalize (f k).pk=v3 at *
   generalize (f k).lg=v4 at *
   generalize (f k).nm=v5 at *
   generalize (f k).pl=P1 at *
   generalize listQ f k=L1 at *
   have hA:Hid (Below wr.heap.size wr (wr.alloc (.cells #[.int .i64 (v0:Nat),.int .i64 (v1:Nat),.int .i64 (v2:Nat),.int .i64 (v3:Nat),.int .i64 (v4:Nat),.string v5,.int .i64 (P1:Nat)] 95))):=(Below.refl _ _).alloc (Nat.le_refl _) _
   go_wp2_with fail
   refine (unhide HP _).mono ?_
   rintro e x1 ⟨rfl,hb1⟩
   have HB2:=hide (bnext (unhide HB).1 (bnext (unhide hA) hb1))
   clear hb1 hA
   go_wp2
   go_roundw
   case rel=>exact ⟨k+1,by have:=(unhide HB).2; omega,by go_num,by rw [unhide hst],unhide HB2⟩
   case measure=>simp [intOf]; omega
  ·
   have hkn:k=n:=by omega
   subst hkn
   rw [unhide HLI]
   have HB:=hide hbel
   clear hbel
   have hA:Hid (Below wr.heap.size wr (wr.alloc (.cells #[.int .i64 0,.int .i64 0,.int .i64 (k:Nat),.int .i64 (k:Nat)] 3))):=(Below.refl _ _).alloc (Nat.le_refl _) _
   go_wp2_with fail
   refine (unhide CW4 _ _ (four_row wr 0 0 k k)).mono ?_
   rintro e x1 ⟨rfl,hb1⟩
   have HB1:=hide (bnext (unhide HB) (bnext (unhide hA) hb1))
   clear hb1 hA HB
   go_wp2_with fail
   refine (unhide CLL _).mono ?_
   rintro e x2 ⟨rfl,hb2⟩
   have HB2:=hide (bnext (unhide HB1) hb2)
   clear hb2 HB1
   go_wp2_with fail
   refine (unhide CLP _).mono ?_
   rintro e x3 ⟨rfl,hb3⟩
   have HB3:=hide (bnext (unhide HB2) hb3)
   clear hb3 HB2
   have hA3:Hid (Below x3.heap.size x3 (x3.alloc (.cells #[.int .i64 0] 3))):=(Below.refl _ _).alloc (Nat.le_refl _) _
   go_wp2_with fail
   refine (unhide CW1 _ _ (one_row x3 0)).mono ?_
   rintro e x4 ⟨rfl,hb4⟩
   have HB4:=hide (bnext (unhide HB3) (bnext (unhide hA3) hb4))
   clear hb4 hA3 HB3
   go_wp2
   go_ret
   exact ⟨by rw [←unhide HE]; rfl,unhide HB4⟩
theorem Tryz.infoHd:(Tryz.prog.info? 95).map (fun i=>(i.zero,i.size,i.bytes))=some (some (.agg #[.int .i64 0,.int .i64 0,.int .i64 0,.int .i64 0,.int .i64 0,.string ⟨#[]⟩,.int .i64 0]),7,64):=by kernel_rfl
abbrev HOwn:=GOwn (α:=En×Nat) 95 7 encHd
theorem Blk.grown {w w':World} {b:Nat} {vs:List Value} {row:Option Nat} (h:Blk w b vs) (hg:w.grownBy w' row) (hr:some b≠row):Blk w' b vs:=
 ⟨Nat.lt_of_lt_of_le h.1 hg.size,fun i v e=>⟨(World.cell?_of_block (hg.block b h.1 hr)).trans (h.2 i v e).1,(World.frozen?_of_block (hg.block b h.1 hr)).trans (h.2 i v e).2⟩⟩
end Go.Proofs.YtkdlcomfpffhhaaGreatDoor
