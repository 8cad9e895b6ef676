/- Of what the proof is made: 21 texts, one behind the other. -/
import Derived.Test.YtkdlcomfpffhhaaGreatDoorM5
import Derived.Test.YtkdlcomfpffhhaaGreatDoorM3
import Derived.Deep.RegionHeld3
import Derived.Deep.DrawnRows
import Derived.Test.YtkdlcomfpffhhaaGreatDoorM6
import Derived.Lib.AppendZerosOnto
import Derived.Test.YtkdlcomfpffhhaaGreatDoorM7
import Derived.Laws.IdiomStrings
import Derived.Laws.OwnMore
import Derived.Deep.RegionWith
namespace Go.Proofs.YtkdlcomfpffhhaaGreatDoor
open Go.RowKit Corb
def Three (w:World) (b:Nat) (v0 v1 v2:Value):Prop:=
 w.cell? ⟨b,0,none⟩=some v0∧w.cell? ⟨b,1,none⟩=some v1∧w.cell? ⟨b,2,none⟩=some v2∧w.frozen? ⟨b,0,none⟩=false∧w.frozen? ⟨b,1,none⟩=false∧w.frozen? ⟨b,2,none⟩=false∧b<w.heap.size
theorem Three.set1 {w:World} {b:Nat} {v0 v1 v2:Value} (h:Three w b v0 v1 v2) (u:Value):Three (w.setCell ⟨b,1,none⟩ u) b v0 u v2:=by
 obtain ⟨c0,c1,c2,f0,f1,f2,hb⟩:=h
 refine ⟨?_,World.cell?_setCell_same _ _ _ c1,?_,by simpa using f0,by simpa using f1,by simpa using f2,by simpa using hb⟩
 ·
  rw [World.cell?_setCell_other _ _ _ _ (by simp)]; exact c0
 ·
  rw [World.cell?_setCell_other _ _ _ _ (by simp)]; exact c2
theorem Three.set2 {w:World} {b:Nat} {v0 v1 v2:Value} (h:Three w b v0 v1 v2) (u:Value):Three (w.setCell ⟨b,2,none⟩ u) b v0 v1 u:=by
 obtain ⟨c0,c1,c2,f0,f1,f2,hb⟩:=h
 refine ⟨?_,?_,World.cell?_setCell_same _ _ _ c2,by simpa using f0,by simpa using f1,by simpa using f2,by simpa using hb⟩
 ·
  rw [World.cell?_setCell_other _ _ _ _ (by simp)]; exact c0
 ·
  rw [World.cell?_setCell_other _ _ _ _ (by simp)]; exact c1
theorem Three.kept {w w':World} {b:Nat} {v0 v1 v2:Value} (h:Three w b v0 v1 v2) (hb:Below (b+1) w w'):Three w' b v0 v1 v2:=by
 obtain ⟨c0,c1,c2,f0,f1,f2,hlt⟩:=h
 have hs:=Nat.lt_succ_self b
 exact ⟨(hb.cell (p:=⟨b,0,none⟩) hs).trans c0,(hb.cell (p:=⟨b,1,none⟩) hs).trans c1,(hb.cell (p:=⟨b,2,none⟩) hs).trans c2,(hb.frozen (p:=⟨b,0,none⟩) hs).trans f0,(hb.frozen (p:=⟨b,1,none⟩) hs).trans f1,(hb.frozen (p:=⟨b,2,none⟩) hs).trans f2,Nat.lt_of_lt_of_le hlt hb.size⟩
theorem p2_le (k n:Nat) (h:k≤n):p2 k≤p2 n:=Nat.pow_le_pow_right (by omega) h
def numB (s:ByteArray):Nat:=valB s.data.toList
structure Keep1 (b:Nat) (w w':World):Prop where
 below:Below b w w'
 block:∀ k,k<w.heap.size→k≠b→w'.heap[k]?=w.heap[k]?
 cells:∀ j,3≤j→w'.cell? ⟨b,j,none⟩=w.cell? ⟨b,j,none⟩∧w'.frozen? ⟨b,j,none⟩=w.frozen? ⟨b,j,none⟩
theorem Keep1.refl (b:Nat) (w:World):Keep1 b w w:=⟨Below.refl _ _,fun _ _ _=>rfl,fun _ _=>⟨rfl,rfl⟩⟩
theorem Keep1.trans {b:Nat} {w w1 w2:World} (h:Keep1 b w w1) (k:Keep1 b w1 w2):Keep1 b w w2:=
 ⟨h.1.trans k.1,fun j hj hb=>(k.2 j (Nat.lt_of_lt_of_le hj h.1.size) hb).trans (h.2 j hj hb),fun j hj=>⟨(k.3 j hj).1.trans (h.3 j hj).1,(k.3 j hj).2.trans (h.3 j hj).2⟩⟩
theorem keep1_set (w:World) (b o n:Nat) (u:Value) (ho:o<3:=by omega):Keep1 b w ((w.drewN n).setCell ⟨b,o,none⟩ u):=
 ⟨below_set (below_drewN (Below.refl _ _) _) (Nat.le_refl _) _,fun k _ hk=>Below.heap_setCell (w.drewN n) ⟨b,o,none⟩ u k hk,fun j hj=>⟨by rw [World.cell?_setCell_other _ _ _ _ (by simp only [ne_eq,Addr.mk.injEq,and_true,true_and]; omega)]; rfl,by simp⟩⟩
theorem Keep1.own {b base:Nat} {w w':World} {e:TypeId} {size:Nat} {v:Value} {n:Nat} {xs:List Value} (h:Keep1 b w w') (ho:w.ownsRow base e size v n xs) (hb:b<base):w'.ownsRow base e size v n xs:=by
 refine ⟨ho.1,?_⟩
 rcases ho.2 with hn | ⟨g,cap,cur,rfl,hbg,hgg,rest⟩
 ·
  exact .inl hn
 ·
  refine .inr ⟨g,cap,cur,rfl,hbg,?_,rest⟩
  rw [h.2 g (Array.getElem?_eq_some_iff.1 hgg).1 (by omega)]
  exact hgg
def Rdr (w:World) (b:Nat) (s:ByteArray) (p:Nat):Prop:=
 Three w b (.string s) (.int .i64 (min p (8*s.size):Nat)) (.bool (decide (8*s.size<p)))
theorem numB_past (s:ByteArray) (p:Nat) (h:8*s.size≤p):numB s/2 ^ p%2=0:=
 bit_past _ _ (by simpa using h)
theorem numB_bit (s:ByteArray) (p:Nat) (h:p/8<s.size):(s[p/8]).toNat/2 ^ (p%8)%2=numB s/2 ^ p%2:=by
 rw [numB,←bit_at]
 congr 3
 rw [List.getD_eq_getElem?_getD]
 have h':p/8<s.data.toList.length:=by simpa using h
 rw [List.getElem?_eq_getElem h']
 simp
 rfl
theorem Rdr.before {w:World} {b p:Nat} {s:ByteArray} (h:Rdr w b s p) (hp:p<8*s.size):Three w b (.string s) (.int .i64 (p:Int)) (.bool false):=by
 unfold Rdr at h
 rwa [Nat.min_eq_left (by omega),decide_eq_false (by omega)] at h
theorem Rdr.next {w:World} {b p:Nat} {s:ByteArray} (h:Three w b (.string s) (.int .i64 ((p:Int)+1)) (.bool false)) (hp:p<8*s.size):Rdr w b s (p+1):=by
 unfold Rdr
 rwa [Nat.min_eq_left (by omega),decide_eq_false (by omega)]
theorem Rdr.past {w:World} {b p:Nat} {s:ByteArray} (h:Rdr w b s p) (hp:8*s.size≤p):Three w b (.string s) (.int .i64 (8*s.size:Nat)) (.bool (decide (8*s.size<p))):=by
 unfold Rdr at h
 rwa [Nat.min_eq_right (by omega)] at h
theorem Rdr.bad {w:World} {b p:Nat} {s:ByteArray} (h:Three w b (.string s) (.int .i64 (8*s.size:Nat)) (.bool true)) (hp:8*s.size≤p):Rdr w b s (p+1):=by
 unfold Rdr
 rwa [Nat.min_eq_right (by omega),decide_eq_true (by omega)]
theorem powR (R PW:Nat) (w:World) (hR:R≤60) (h:p2 R=PW) :
  Calls Tryz.prog 252 #[.int .i64 (R:Int)] w fun e w'=>e = .returned (.int .i64 (PW:Int))∧w'=w:=by
 have:=l1Pow_any (R:Int) w (by omega)
 rw [Int.toNat_natCast,h] at this
 exact this
theorem Rdr.at {w:World} {b p:Nat} {s:ByteArray} (h:Rdr w b s p) (hp:p≤8*s.size):Three w b (.string s) (.int .i64 (p:Int)) (.bool false):=by
 unfold Rdr at h
 rwa [Nat.min_eq_left (by omega),decide_eq_false (by omega)] at h
theorem Rdr.kept {w w':World} {b p:Nat} {s:ByteArray} (h:Rdr w b s p) (hb:Below (b+1) w w'):Rdr w' b s p:=Three.kept h hb
theorem Rdr.alloc {w:World} {b p:Nat} {s:ByteArray} (h:Rdr w b s p) (o:Obj):Rdr (w.alloc o) b s p:=
 h.kept ((Below.refl _ _).alloc (by have:b<w.heap.size:=h.2.2.2.2.2.2; omega) _)
theorem Rdr.lt {w:World} {b p:Nat} {s:ByteArray} (h:Rdr w b s p):b<w.heap.size:=h.2.2.2.2.2.2
theorem Keep1.alloc {b:Nat} {w w':World} (h:Keep1 b w w') (hb:b<w'.heap.size) (o:Obj):Keep1 b w (w'.alloc o):=
 ⟨h.1.alloc (Nat.le_of_lt hb) o,fun j hj hne=>(Below.heap_alloc w' o j (Nat.lt_of_lt_of_le hj h.1.size)).trans (h.2 j hj hne),fun j hj=>by
  have hB:Below w'.heap.size w' (w'.alloc o):=(Below.refl _ _).alloc (Nat.le_refl _) o
  exact ⟨(hB.cell (p:=⟨b,j,none⟩) hb).trans (h.3 j hj).1,(hB.frozen (p:=⟨b,j,none⟩) hb).trans (h.3 j hj).2⟩⟩
theorem rdr_new (w:World) (s:ByteArray) (t:TypeId):Rdr (w.alloc (.cells #[.string s,.int .i64 0,.bool false] t)) w.heap.size s 0:=by
 unfold Rdr
 simp only [Nat.zero_min,Nat.not_lt_zero,decide_false]
 exact ⟨by simp,by simp,by simp,by simp,by simp,by simp,by simp⟩
attribute [local go_sem ↓] Go.wp_at_zero Go.wp_at_succ
set_option maxHeartbeats 800000 in
theorem srcBit_any (b p:Nat) (s:ByteArray) (w:World) (h:Rdr w b s p) (hs:s.size≤2000000) :
  Calls Tryz.prog 231 #[.pointer (some ⟨b,0,none⟩)] w fun e w'=>e = .returned (.int .i64 (numB s/2 ^ p%2:Nat))∧Rdr w' b s (p+1)∧Keep1 b w w':=by
 have hs':(s.size:Int)≤2000000:=by omega
 by_cases hp:p<8*s.size
 ·
  have h3:=h.before hp
  have hq:p/8<s.size:=by omega
  have hb:=numB_bit s p hq
  generalize hN:numB s/2 ^ p%2=N at *
  have Hp:=hide hp
  have hpI:(p:Int)<8*(s.size:Int):=by omega
  have hp7:p2 (p%8)≤128:=p2_le (p%8) 7 (by omega)
  have hp1:=p2_pos (p%8)
  have h3':=hide h3
  obtain ⟨c0,c1,c2,f0,f1,f2,hb3⟩:=h3
  have hb':(s[p/8]).toNat/p2 (p%8)%2=N:=hb
  clear h hN hb
  obtain ⟨Q,hQ⟩:∃ Q,p/8=Q:=⟨_,rfl⟩
  obtain ⟨R,hR⟩:∃ R,p%8=R:=⟨_,rfl⟩
  simp only [hQ,hR] at hb' hp7 hp1 hq
  have hbd:=(s[Q]).toNat_lt
  generalize hPW:p2 R=PW at *
  have HPW:=hide (fun W=>powR R PW W (by omega) hPW)
  have e1:IntKind.i64.wrap (Q:Int)=(Q:Int):=wrap_id _ (by omega) (by omega)
  have e2:(p:Int)/8=(Q:Int):=by omega
  have e3:(p:Int)%8=(R:Int):=by omega
  have e4:Int.tmod (p:Int) 8=(R:Int):=by rw [Int.tmod_eq_emod_of_nonneg (by omega)]; exact e3
  have e5:(Q:Int)<(s.size:Int):=by omega
  have e6:(0:Int)≤(Q:Int):=by omega
  have hle:(s[Q]).toNat/PW≤(s[Q]).toNat:=Nat.div_le_self _ _
  have e7:((s[Q]).toNat:Int)/(PW:Int)=(((s[Q]).toNat/PW:Nat):Int):=by simp
  have e0:(0:Int)≤((s[Q]).toNat:Int)/(PW:Int)∧((s[Q]).toNat:Int)/(PW:Int)≤255:=by rw [e7]; exact ⟨Int.natCast_nonneg _,by omega⟩
  have e8:IntKind.i64.wrap (((s[Q]).toNat:Int)/(PW:Int))=((s[Q]).toNat:Int)/(PW:Int):=wrap_id _ (by omega) (by omega)
  have e10:((s[Q]).toNat:Int)/(PW:Int)%2=(N:Int):=by rw [e7]; exact_mod_cast hb'
  have e9:Int.tmod (((s[Q]).toNat:Int)/(PW:Int)) 2=(N:Int):=by rw [Int.tmod_eq_emod_of_nonneg e0.1]; exact e10
  have e14:IntKind.i64.wrap ((s[Q]).toNat:Int)=((s[Q]).toNat:Int):=wrap_id _ (by omega) (by omega)
  have e12:¬ PW=0:=by omega
  clear hs hp hQ hR hPW hb' hle hbd hp7 hp1 e7 e0
  go_enter Tryz.func231,Tryz.ntmps231
  go_wp2
  go_quiet (fail)
  go_wp2
  go_region_held3 (fun W=>W.cell? ⟨b,0,none⟩=some (.string s)∧W.cell? ⟨b,1,none⟩=some (.int .i64 (p:Int))) (first | exact ⟨c0,c1⟩ | assumption) (first | (go_at_call 252; refine (unhide HPW _).mono ?_; rintro e w' ⟨rfl,rfl⟩))
  all_goals
   go_wp2
   go_ret
   exact ⟨rfl,Rdr.next (by exact (unhide h3').set1 _) (unhide Hp),keep1_set _ _ _ _ _⟩
 ·
  have h3:=h.past (by omega)
  have h3':=hide h3
  have Hp:=hide hp
  have hN:=hide (numB_past s p (by omega))
  obtain ⟨c0,c1,c2,f0,f1,f2,hb3⟩:=h3
  rw [Int.natCast_mul] at c1
  clear h hp hs
  go_enter Tryz.func231,Tryz.ntmps231
  go_wp2
  go_quiet (fail)
  go_wp2
  go_ret
  exact ⟨ret_int (by rw [unhide hN]; rfl),Rdr.bad ((unhide h3').set2 _) (by have:=unhide Hp; omega),keep1_set _ _ _ _ _⟩
set_option maxHeartbeats 800000 in
theorem rdBit_any (b p:Nat) (s:ByteArray) (w:World) (h:Rdr w b s p) (hs:s.size≤2000000) :
  Calls Tryz.prog 198 #[.pointer (some ⟨b,0,none⟩)] w fun e w'=>e = .returned (.int .i64 (numB s/2 ^ p%2:Nat))∧Rdr w' b s (p+1)∧Keep1 b w w':=by
 have hs':(s.size:Int)≤2000000:=by omega
 by_cases hp:p<8*s.size
 ·
  have h3:=h.before hp
  have hq:p/8<s.size:=by omega
  have hb:=numB_bit s p hq
  generalize hN:numB s/2 ^ p%2=N at *
  have Hp:=hide hp
  have hpI:(p:Int)<8*(s.size:Int):=by omega
  have h3':=hide h3
  obtain ⟨c0,c1,c2,f0,f1,f2,hb3⟩:=h3
  clear h hN
  obtain ⟨Q,hQ⟩:∃ Q,p/8=Q:=⟨_,rfl⟩
  obtain ⟨R,hR⟩:∃ R,p%8=R:=⟨_,rfl⟩
  simp only [hQ,hR] at hb hq
  have hbd:=(s[Q]).toNat_lt
  have hR8:(R:Int)≤7:=by omega
  have e1:IntKind.i64.wrap (Q:Int)=(Q:Int):=wrap_id _ (by omega) (by omega)
  have e2:(p:Int)/8=(Q:Int):=by omega
  have e3:(p:Int)%8=(R:Int):=by omega
  have e4:Int.tmod (p:Int) 8=(R:Int):=by rw [Int.tmod_eq_emod_of_nonneg (by omega)]; exact e3
  have e5:(Q:Int)<(s.size:Int):=by omega
  have e6:(0:Int)≤(Q:Int):=by omega
  have e7:((s[Q]).toNat:Int)/2 ^ R=(((s[Q]).toNat/2 ^ R:Nat):Int):=by simp
  have hle:(s[Q]).toNat/2 ^ R≤(s[Q]).toNat:=Nat.div_le_self _ _
  have e0:(0:Int)≤((s[Q]).toNat:Int)/2 ^ R∧((s[Q]).toNat:Int)/2 ^ R≤255:=by rw [e7]; exact ⟨Int.natCast_nonneg _,by omega⟩
  have e8:IntKind.i64.wrap (((s[Q]).toNat:Int)/2 ^ R)=((s[Q]).toNat:Int)/2 ^ R:=wrap_id _ (by omega) (by omega)
  have e9:bits .and .i64 (((s[Q]).toNat:Int)/2 ^ R) 1=(N:Int):=by
   rw [i64_and_one _ e0.1 (by omega),e7]; exact_mod_cast hb
  have e14:IntKind.i64.wrap ((s[Q]).toNat:Int)=((s[Q]).toNat:Int):=wrap_id _ (by omega) (by omega)
  clear hs hp hQ hR hb hle hbd e7 e0
  go_enter Tryz.func198,Tryz.ntmps198
  go_wp2
  go_quiet (fail)
  go_wp2
  go_quiet (fail)
  go_wp2
  go_ret
  exact ⟨rfl,Rdr.next (by exact (unhide h3').set1 _) (unhide Hp),keep1_set _ _ _ _ _⟩
 ·
  have h3:=h.past (by omega)
  have h3':=hide h3
  have Hp:=hide hp
  have hN:=hide (numB_past s p (by omega))
  obtain ⟨c0,c1,c2,f0,f1,f2,hb3⟩:=h3
  rw [Int.natCast_mul] at c1
  have e1:((8:Nat):Int)*(s.size:Int)/8=(s.size:Int):=by omega
  have e2:(8:Int)*(s.size:Int)/8=(s.size:Int):=by omega
  have e3:IntKind.i64.wrap (s.size:Int)=(s.size:Int):=wrap_id _ (by omega) (by omega)
  clear h hp hs
  go_enter Tryz.func198,Tryz.ntmps198
  go_wp2
  go_quiet (fail)
  go_wp2
  go_ret
  exact ⟨ret_int (by rw [unhide hN]; rfl),Rdr.bad ((unhide h3').set2 _) (by have:=unhide Hp; omega),keep1_set _ _ _ _ _⟩
end Go.Proofs.YtkdlcomfpffhhaaGreatDoor
namespace Go.Proofs.YtkdlcomfpffhhaaGreatDoor
open Go.RowKit Go.Lib
theorem zero_cells (z:Value) (k:Nat):Builtin.zeroCells #[z] k=(List.replicate k z).toArray:=by
 unfold Builtin.zeroCells
 apply Array.ext'
 simp only [List.size_toArray,List.length_singleton,Nat.mod_one,Nat.mul_one]
 simp
 rw [List.map_const',List.length_range]
theorem run_append_room_zeros {P:Program} (w:World) (t tn ty e:TypeId) (i:TypeInfo) (z:Value) (kq kn:IntKind) (ht:P.underlying t=some (.slice e)) (htn:P.underlying tn=some (.int kn)) (hi:P.info? e=some i) (hz:i.zero=some z)
  (g sLen sCap:Nat) (cur:Array Value) (hg:w.heap[g]?=some (.cells cur e (0,0))) (k:Nat) (h0:0<k) (hs:i.size=1) (hzc:z.cells=#[z]) (h1:z.oneCell'=true)
  (hroom:sLen+k≤sCap) (hfit:sLen+k≤cur.size) (h63:(k:Int)≤9223372036854775807) (h48:k*i.bytes≤281474976710656) :
  (Builtin.append_ #[t,tn] ty #[.slice (some ⟨g,0,none⟩) sLen sCap,.int kq k]).run P w =
   .ok (.slice (some ⟨g,0,none⟩) (sLen+k) sCap) (w.setRow g (cur.toList.take sLen++List.replicate k z++cur.toList.drop (sLen+k)).toArray):=by
 have hk:k≠0:=by omega
 have hw:IntKind.i64.wrap (k:Int)=k:=by rw [IntKind.wrap_i64]; omega
 have h48i:¬ (281474976710656<(k:Int)*(i.bytes:Int)):=by
  rw [←Int.natCast_mul]
  omega
 have hneg:¬ ((k:Int)<0):=by omega
 have hst:=run_storeCells_at P g sLen e (List.replicate k z) 0 cur w hg (by simpa using hfit) (by intro u hu; rw [List.eq_of_mem_replicate hu]; exact h1)
 simp only [Nat.add_zero,List.length_replicate] at hst
 simp [Builtin.append_,run_underlying ht,run_underlying htn,sizeOf,typeInfo,zeroValue,hi,hz,asInt,asIntOf,hw,hneg,h48i,hs,hk,hroom,hzc,zero_cells,Addr.add_lit,hst]
theorem run_append_own_zeros {P:Program} (w:World) (base:Nat) (t tn ty e:TypeId) (i:TypeInfo) (z:Value) (bytes:Nat) (kq kn:IntKind) (ht:P.underlying t=some (.slice e)) (htn:P.underlying tn=some (.int kn)) (hi:P.info? e=some i) (hz:i.zero=some z)
  (hs:i.size=1) (hby:i.bytes=bytes) (hzc:z.cells=#[z]) (h1:z.oneCell'=true) (v:Value) (n:Nat) (xs:List Value) (hown:w.ownsRow base e 1 v n xs) (k:Nat) (h0:0<k)
  (h63:n+k≤maxLen) (hbytes:(n+k)*bytes≤140737488355328) (hbase:base≤w.heap.size) :
  ∃ v' w',(Builtin.append_ #[t,tn] ty #[v,.int kq k]).run P w = .ok v' w'∧w'.ownsRow base e 1 v' (n+k) (xs++List.replicate k z)∧w.grownBy w' v.ownBlock:=by
 subst hby
 have hsmall:n+k≤9223372036854775807:=by simp only [maxLen] at h63; omega
 have hlen:(xs++List.replicate k z).length=(n+k)*1:=by rw [List.length_append,hown.1,List.length_replicate]; omega
 have hkb:k*i.bytes≤281474976710656:=by
  have:k*i.bytes≤(n+k)*i.bytes:=Nat.mul_le_mul_right _ (by omega)
  omega
 have grown:∀ (old:Nat),old<n+k→∀ (row:Option Nat),
   (w.drew.alloc (.cells (xs.toArray++Builtin.zeroCells z.cells k++Builtin.zeroCells z.cells (grownCap w (n+k) old e-(n+k))) e)).ownsRow base e 1
    (.slice (some ⟨w.heap.size,0,none⟩) (n+k) (grownCap w (n+k) old e)) (n+k) (xs++List.replicate k z) ∧
   w.grownBy (w.drew.alloc (.cells (xs.toArray++Builtin.zeroCells z.cells k++Builtin.zeroCells z.cells (grownCap w (n+k) old e-(n+k))) e)) row:=by
  intro old ho row
  have hge:=grownCap_ge w (n+k) old e
  have hcm:grownCap w (n+k) old e≤maxLen:=grownCap_le_maxLen w (n+k) old e h63
  refine ⟨⟨hlen,.inr ⟨w.heap.size,_,_,rfl,hbase,heap_alloc_new w.drew _,hge,hcm,?_,?_⟩⟩,⟨rfl,rfl,rfl,by simp,fun j hj _=>Below.heap_alloc w.drew _ j hj⟩⟩
  ·
   have:=hown.1
   simp only [Array.size_append,List.size_toArray,hzc,zero_cells,List.length_replicate]
   omega
  ·
   rw [hzc,zero_cells,zero_cells]
   simp only [Array.toList_append,List.append_assoc]
   rw [←List.append_assoc,←hlen]
   exact List.take_left
 rcases hown.2 with ⟨rfl,rfl⟩ | ⟨g,cap,cur,rfl,hbg,hg,hnc,hcm,hcs,htake⟩
 ·
  have hx:xs=[]:=List.eq_nil_of_length_eq_zero (by simpa using hown.1)
  subst hx
  have hr:=run_append_grow_zeros (P:=P) w t tn ty e i z kq kn ht htn hi hz none 0 0 [] (run_firstCells_none w.drew i.size 0 0 0) k h0 (by omega) (by omega) (by omega) hkb (growslice_fits (by omega) (by simpa using hbytes))
  have hgr:=grown 0 (by omega) (Value.ownBlock (.slice none 0 0))
  exact ⟨_,_,hr,hgr.1,hgr.2⟩
 ·
  by_cases hroom:n+k≤cap
  ·
   have hr:=run_append_room_zeros (P:=P) w t tn ty e i z kq kn ht htn hi hz g n cap cur hg k h0 hs hzc h1 hroom (by omega) (by omega) hkb
   refine ⟨_,_,hr,⟨hlen,.inr ⟨g,cap,_,rfl,hbg,setRow_heap w g cur _ e _ hg,hroom,hcm,?_,?_⟩⟩,⟨rfl,rfl,rfl,by simp,fun k _ hk=>setRow_other w g k _ (fun e=>hk (by simp [Value.ownBlock,e]))⟩⟩
   ·
    simp only [List.size_toArray,List.length_append,List.length_take,List.length_drop,Array.length_toList,List.length_replicate]
    omega
   ·
    have ht2:cur.toList.take n=xs:=by simpa using htake
    rw [ht2,←hlen]
    exact List.take_left
  ·
   have holds:∀ j u,xs[j]?=some u→w.drew.cell? ((⟨g,0,none⟩:Addr).add j)=some u:=hown.cells (g:=g) rfl
   have hr:=run_append_grow_zeros (P:=P) w t tn ty e i z kq kn ht htn hi hz (some ⟨g,0,none⟩) n cap xs (run_firstCells_some (P:=P) w.drew i.size n ⟨g,0,none⟩ n cap xs (by rw [hs]; exact hown.1) holds) k h0 (by omega) (by omega) (by omega) hkb (growslice_fits (by omega) hbytes)
   have hgr:=grown cap (by omega) (Value.ownBlock (.slice (some ⟨g,0,none⟩) n cap))
   exact ⟨_,_,hr,hgr.1,hgr.2⟩
theorem wpList_append_zeros {P:Program} (w:World) {ops:Array Oper} {rest:List Oper} {o:Oper} {a:Act} {Q:Exit→Act→World→Prop} (hgd:o.guard=none) (s x:Operand) (t tn:TypeId)
  (ho:o.op = .call { callee:=.builtin .append,args:=#[s,x],argTypes:=#[t,tn] })
  (base:Nat) (e:TypeId) (i:TypeInfo) (z:Value) (bytes:Nat) (kq kn:IntKind) (ht:P.underlying t=some (.slice e)) (htn:P.underlying tn=some (.int kn)) (hi:P.info? e=some i) (hz:i.zero=some z)
  (hs1:i.size=1) (hby:i.bytes=bytes) (hzc:z.cells=#[z]) (h1:z.oneCell'=true) (v:Value) (n:Nat) (xs:List Value) (hs:a.eval s=v) (hown:w.ownsRow base e 1 v n xs) (k:Nat) (hx:a.eval x = .int kq (k:Int)) (h0:0<k)
  (h63:n+k≤maxLen) (hbytes:(n+k)*bytes≤140737488355328) (hbase:base≤w.heap.size)
  (h:∀ v' w',w'.ownsRow base e 1 v' (n+k) (xs++List.replicate k z)→w.grownBy w' v.ownBlock→wpList P ops Q rest (a.put o.dst v') w'):wpList P ops Q (o :: rest) a w:=by
 obtain ⟨v',w',hr,h2,h3⟩:=run_append_own_zeros (P:=P) w base t tn o.type e i z bytes kq kn ht htn hi hz hs1 hby hzc h1 v n xs hown k h0 h63 hbytes hbase
 refine wpList_plain hgd fun _ hK=>?_
 unfold Oper.wp execOp
 simp only [ho,resolve,invoke,builtin,Sem.run_bind,Sem.run_pure,Result.andThen_ok,List.map_toArray,List.map_cons,List.map_nil,hs,hx,hr]
 exact hK _ _ (h v' w' h2 h3)
end Go.Proofs.YtkdlcomfpffhhaaGreatDoor
namespace Go.Proofs.YtkdlcomfpffhhaaGreatDoor
open Go.RowKit
theorem Tryz.infoInt:(Tryz.prog.info? 3).map (fun i=>(i.zero,i.size,i.bytes))=some (some (.int .i64 0),1,8):=by kernel_rfl
theorem take_snocI (l:List Int) (k:Nat) (h:k<l.length):l.take (k+1)=l.take k++[l.getD k 0]:=by
 rw [List.take_succ_eq_append_getElem h]
 congr 1
 simp [List.getD,h]
def IRow (w:World) (a:Option Addr) (l:List Int):Prop:=
 0<l.length→∃ g o,a=some ⟨g,o,none⟩∧g<w.heap.size∧∀ i,i<l.length→w.cell? ⟨g,o+i,none⟩=some (.int .i64 (l.getD i 0))
theorem IRow.below {w w':World} {a:Option Addr} {l:List Int} {B:Nat} (h:IRow w a l) (hB:w.heap.size≤B) (hb:Below B w w'):IRow w' a l:=by
 intro h0
 obtain ⟨g,o,e,hg,hc⟩:=h h0
 exact ⟨g,o,e,Nat.lt_of_lt_of_le hg hb.size,fun i hi=>by rw [←hc i hi]; exact hb.cell (p:=⟨g,o+i,none⟩) (by show g<B; omega)⟩
theorem IRow.later {w w':World} {a:Option Addr} {l:List Int} (h:IRow w a l) (hb:Below w.heap.size w w'):IRow w' a l:=h.below (Nat.le_refl _) hb
def IOwn (w:World) (base:Nat) (v:Value) (l:List Int):Prop:=w.ownsRow base 3 1 v l.length (l.map (Value.int .i64))
theorem IOwn.form {w:World} {base:Nat} {v:Value} {l:List Int} (h:IOwn w base v l):∃ a cap,v = .slice a l.length cap:=by
 rcases h.2 with ⟨e,h0⟩ | ⟨g,cap,_,e,_⟩
 ·
  exact ⟨none,0,by rw [e,h0]⟩
 ·
  exact ⟨_,cap,e⟩
theorem IOwn.row {w:World} {base:Nat} {a:Option Addr} {cap:Nat} {l:List Int} (h:IOwn w base (.slice a l.length cap) l):IRow w a l:=by
 intro h0
 rcases h.2 with ⟨e,hn⟩ | ⟨g,cap',cur,e,hb,hg,_⟩
 ·
  omega
 ·
  simp only [Value.slice.injEq] at e
  obtain ⟨rfl,_,rfl⟩:=e
  refine ⟨g,0,rfl,(Array.getElem?_eq_some_iff.1 hg).1,fun i hi=>?_⟩
  have:=World.ownsRow.cells h (g:=g) rfl i (.int .i64 (l.getD i 0)) (by simp [List.getD,hi])
  have hadd:(⟨g,0,none⟩:Addr).add i=⟨g,i,none⟩:=by unfold Addr.add; split <;> simp_all
  rw [hadd] at this
  rw [Nat.zero_add]
  exact this
theorem IOwn.later {w w':World} {base B:Nat} {v:Value} {l:List Int} (h:IOwn w base v l) (hb:Below B w w') (hB:w.heap.size≤B):IOwn w' base v l:=by
 refine ⟨h.1,?_⟩
 rcases h.2 with hn | ⟨g,cap,cur,rfl,hbg,hgg,rest⟩
 ·
  exact .inl hn
 ·
  refine .inr ⟨g,cap,cur,rfl,hbg,?_,rest⟩
  have hg:=(Array.getElem?_eq_some_iff.1 hgg).1
  rw [hb.block g (by omega)]
  exact hgg
theorem IOwn.lit (w:World) (base:Nat) (hb:base≤w.heap.size):IOwn (w.alloc (.cells #[] 3)) base (.slice (some ⟨w.heap.size,0,none⟩) 0 0) []:=
 World.ownsRow_lit w #[] 0 hb (by unfold maxLen; omega) rfl
theorem IOwn.nil (w:World) (base:Nat):IOwn w base (.slice none 0 0) []:=World.ownsRow_nil _ _ _ _
theorem iown_snoc {x:World} {base:Nat} {v:Value} {l:List Int} {a:Int} (h:x.ownsRow base 3 1 v (l.length+1) (l.map (Value.int .i64)++[.int .i64 a])):IOwn x base v (l++[a]):=by
 unfold IOwn
 simpa using h
theorem IOwn.mono {w:World} {base base':Nat} {v:Value} {l:List Int} (h:IOwn w base v l) (hb:base'≤base):IOwn w base' v l:=by
 refine ⟨h.1,?_⟩
 rcases h.2 with hn | ⟨g,cap,cur,rfl,hbg,rest⟩
 ·
  exact .inl hn
 ·
  exact .inr ⟨g,cap,cur,rfl,by omega,rest⟩
theorem grown_step {x y y':World} {o:Obj} {v:Value} {e:TypeId} {size n B base:Nat} {xs:List Value} (hg:(y.alloc o).grownBy y' v.ownBlock) (ho:y.ownsRow base e size v n xs) (hbb:B≤base) (hy:B≤y.heap.size) (hb:Below B x y):Below B x y':=
 (hb.alloc hy _).grown hg (by simp; omega) (fun j hj=>Nat.le_trans hbb (World.ownsRow.lt (ho.alloc o) j hj).1)
theorem IOwn.rowN {w:World} {base n:Nat} {a:Option Addr} {cap:Nat} {l:List Int} (hn:l.length=n) (h:IOwn w base (.slice a n cap) l):IRow w a l:=by
 subst hn
 exact h.row
theorem IOwn.formN {w:World} {base n:Nat} {v:Value} {l:List Int} (hn:l.length=n) (h:IOwn w base v l):∃ a cap,v = .slice a n cap:=by
 subst hn
 exact h.form
theorem IOwn.own {w:World} {base n:Nat} {v:Value} {l:List Int} (hn:l.length=n) (h:IOwn w base v l):w.ownsRow base 3 1 v n (l.map (Value.int .i64)):=by
 subst hn
 exact h
theorem iown_snocN {x:World} {base n:Nat} {v:Value} {l:List Int} {a:Int} (hn:l.length=n) (h:x.ownsRow base 3 1 v (n+1) (l.map (Value.int .i64)++[.int .i64 a])):IOwn x base v (l++[a]):=by
 subst hn
 exact iown_snoc h
theorem IOwn.put {w:World} {base g cap n j:Nat} {l:List Int} (hn:l.length=n) (h:IOwn w base (.slice (some ⟨g,0,none⟩) n cap) l) (x:Int) :
  IOwn (w.setCell ⟨g,j,none⟩ (.int .i64 x)) base (.slice (some ⟨g,0,none⟩) n cap) (l.set j x):=by
 subst hn
 have:=World.ownsRow.stored h j (.int .i64 x)
 show World.ownsRow _ _ _ _ _ (l.set j x).length ((l.set j x).map (Value.int .i64))
 rw [List.length_set]
 have e:(l.set j x).map (Value.int .i64)=(l.map (Value.int .i64)).set j (.int .i64 x):=by simp [List.map_set]
 rw [e]
 exact this.1
theorem IOwn.at {w:World} {base g cap n j:Nat} {l:List Int} (hn:l.length=n) (h:IOwn w base (.slice (some ⟨g,0,none⟩) n cap) l) (hj:j<n) :
  w.cell? ⟨g,j,none⟩=some (.int .i64 (l.getD j 0))∧w.frozen? ⟨g,j,none⟩=false∧base≤g∧g<w.heap.size:=by
 subst hn
 refine ⟨?_,World.ownsRow.frozenAt h j,World.ownsRow.lt h g rfl⟩
 rw [World.ownsRow.cellAt h j (by omega)]
 simp [hj,List.getD]
theorem IOwn.somes {w:World} {base cap n:Nat} {a:Option Addr} {l:List Int} (h:IOwn w base (.slice a n cap) l) (hl:0<l.length):∃ g,a=some ⟨g,0,none⟩:=by
 rcases h.2 with ⟨_,e⟩ | ⟨g,cap',cur,e,_⟩
 ·
  omega
 ·
  simp only [Value.slice.injEq] at e
  exact ⟨g,e.1⟩
theorem IOwn.below {w:World} {base cap n g:Nat} {l:List Int} (h:IOwn w base (.slice (some ⟨g,0,none⟩) n cap) l):base≤g∧g<w.heap.size:=World.ownsRow.lt h g rfl
def Touch (a:Option Addr) (w w':World):Prop:=w'.heap.size=w.heap.size∧∀ j,(∀ g,a=some ⟨g,0,none⟩→j≠g)→w'.heap[j]?=w.heap[j]?
theorem IOwn.touch {w w':World} {a:Option Addr} {base:Nat} {v:Value} {l:List Int} (h:IOwn w base v l) (ht:Touch a w w') (hne:∀ g,a=some ⟨g,0,none⟩→g<base):IOwn w' base v l:=by
 refine ⟨h.1,?_⟩
 rcases h.2 with hn | ⟨g,cap,cur,rfl,hbg,hgg,rest⟩
 ·
  exact .inl hn
 ·
  refine .inr ⟨g,cap,cur,rfl,hbg,?_,rest⟩
  rw [ht.2 g (fun g' e=>by have:=hne g' e; omega)]
  exact hgg
theorem type_apart {w:World} {b1 b2 e1 e2 s1 s2 n1 n2:Nat} {v1 v2:Value} {x1 x2:List Value} (h1:w.ownsRow b1 e1 s1 v1 n1 x1) (h2:w.ownsRow b2 e2 s2 v2 n2 x2) (he:e1≠e2):v1.ownBlock=none∨v1.ownBlock≠v2.ownBlock:=by
 rcases h1.2 with ⟨rfl,_⟩ | ⟨g,cap,cur,rfl,_,hg,_⟩
 ·
  exact .inl rfl
 ·
  refine .inr ?_
  rcases h2.2 with ⟨rfl,_⟩ | ⟨g',cap',cur',rfl,_,hg',_⟩
  ·
   simp [Value.ownBlock]
  ·
   simp only [Value.ownBlock,ne_eq,Option.some.injEq]
   rintro rfl
   rw [hg] at hg'
   simp only [Option.some.injEq,Obj.cells.injEq] at hg'
   exact he hg'.2.1
theorem size_alloc_le {B:Nat} {w:World} (h:B≤w.heap.size) (o:Obj):B≤(w.alloc o).heap.size:=by simp; omega
theorem one_new (W:World) (g:Nat) (hg:W.heap.size=g) (x:Value) (t:TypeId):∀ (j:Nat) (u:Value),[x][j]?=some u→(W.alloc (.cells #[x] t)).cell? ((⟨g,0,none⟩:Addr).add j)=some u:=by
 subst hg
 intro j u hj
 match j,hj with
 | 0,hj=>simp at hj; subst hj; simp [Addr.add]
theorem one_int (x:Int):∀ u∈[Value.int .i64 x],u.oneCell'=true:=by
 intro u hu
 simp at hu
 subst hu
 rfl
theorem made_ints {w1:World} {base g n:Nat} (h:w1.ownsRow base 3 1 (.slice (some ⟨g,0,none⟩) n n) n (madeCells (Value.int .i64 0).cells (n*1)).toList):IOwn w1 base (.slice (some ⟨g,0,none⟩) n n) (List.replicate n 0):=by
 have e:(madeCells (Value.int .i64 0).cells (n*1)).toList=(List.replicate n (0:Int)).map (Value.int .i64):=by
  apply List.ext_getElem
  ·
   simp [madeCells]
  ·
   intro i h1 h2
   simp [madeCells,Value.cells,Nat.mod_one]
 show World.ownsRow _ _ _ _ _ (List.replicate n (0:Int)).length _
 rw [List.length_replicate,←e]
 exact h
theorem IOwn.setOther {w:World} {base g g' o n c:Nat} {l:List Int} (h:IOwn w base (.slice (some ⟨g,0,none⟩) n c) l) (hg:g'≠g) (u:Value):IOwn (w.setCell ⟨g',o,none⟩ u) base (.slice (some ⟨g,0,none⟩) n c) l:=by
 refine ⟨h.1,?_⟩
 rcases h.2 with hn | ⟨g1,cap,cur,e,hbg,hgg,rest⟩
 ·
  exact .inl hn
 ·
  refine .inr ⟨g1,cap,cur,e,hbg,?_,rest⟩
  simp only [Value.slice.injEq,Option.some.injEq,Addr.mk.injEq,and_true] at e
  rw [Below.heap_setCell w ⟨g',o,none⟩ u g1 (by show g1≠g'; omega)]
  exact hgg
theorem IOwn.under {w w':World} {base B g n c:Nat} {l:List Int} (h:IOwn w base (.slice (some ⟨g,0,none⟩) n c) l) (hb:Below B w w') (hg:g<B):IOwn w' base (.slice (some ⟨g,0,none⟩) n c) l:=by
 refine ⟨h.1,?_⟩
 rcases h.2 with hn | ⟨g1,cap,cur,e,hbg,hgg,rest⟩
 ·
  exact .inl hn
 ·
  refine .inr ⟨g1,cap,cur,e,hbg,?_,rest⟩
  simp only [Value.slice.injEq,Option.some.injEq,Addr.mk.injEq,and_true] at e
  rw [hb.block g1 (by omega)]
  exact hgg
section
variable {α : Type} {f : α → List Value} {c : Nat}
theorem flatG_len (hf:∀ x,(f x).length=c) (l:List α):(l.flatMap f).length=l.length*c:=by
 induction l with
 | nil=>simp
 | cons x l ih=>simp only [List.flatMap_cons,List.length_append,hf,ih,List.length_cons]; rw [Nat.add_mul,Nat.one_mul,Nat.add_comm]
theorem flat_get (hf:∀ x,(f x).length=c) (l:List α) (d:α) (i j:Nat) (hi:i<l.length) (hj:j<c):(l.flatMap f)[i*c+j]?=(f (l.getD i d))[j]?:=by
 induction l generalizing i with
 | nil=>simp at hi
 | cons x l ih=>
  simp only [List.flatMap_cons]
  cases i with
  | zero=>rw [Nat.zero_mul,Nat.zero_add,List.getElem?_append_left (by rw [hf]; exact hj)]; simp
  | succ i=>
   have hi':i<l.length:=by simpa using hi
   have e1:(i+1)*c+j=c+(i*c+j):=by rw [Nat.add_mul,Nat.one_mul]; omega
   rw [List.getElem?_append_right (by rw [hf,e1]; omega),hf,e1,Nat.add_sub_cancel_left,ih i hi']
   simp
def setMany (w:World) (g:Nat):Nat→List Value→World
 | _,[]=>w
 | o,v :: vs=>setMany (w.setCell ⟨g,o,none⟩ v) g (o+1) vs
def setL (xs:List Value):Nat→List Value→List Value
 | _,[]=>xs
 | o,v :: vs=>setL (xs.set o v) (o+1) vs
theorem setL_eq (vs xs:List Value) (o:Nat) (h:o+vs.length≤xs.length):setL xs o vs=xs.take o++vs++xs.drop (o+vs.length):=by
 induction vs generalizing xs o with
 | nil=>simp [setL]
 | cons v vs ih=>
  simp only [List.length_cons] at h
  rw [setL,ih _ _ (by rw [List.length_set]; omega)]
  have e1:(xs.set o v).take (o+1)=xs.take o++[v]:=by
   rw [List.take_set]
   apply List.ext_getElem?
   intro i
   by_cases hi:i<o
   ·
    simp [List.getElem?_set,List.getElem?_append,List.getElem?_take,hi]
    rw [if_neg (by omega),if_pos (by omega),if_pos (by omega)]
   ·
    by_cases he:i=o
    ·
     subst he
     simp [List.getElem?_set,List.getElem?_append,List.length_take]
     rw [if_pos (by omega),if_neg (by omega),show i-min i xs.length=0 by omega]; rfl
    ·
     rw [List.getElem?_eq_none (by simp; omega),List.getElem?_eq_none (by simp; omega)]
  have e2:(xs.set o v).drop (o+1+vs.length)=xs.drop (o+(vs.length+1)):=by
   rw [List.drop_set,if_pos (by omega)]
   congr 1; omega
  rw [e1,e2]
  simp
theorem flat_set (hf:∀ x,(f x).length=c) (l:List α) (j:Nat) (x:α) (hj:j<l.length):setL (l.flatMap f) (j*c) (f x)=(l.set j x).flatMap f:=by
 have hle:j*c+c≤l.length*c:=by
  have:(j+1)*c≤l.length*c:=Nat.mul_le_mul_right c hj
  rw [Nat.add_mul,Nat.one_mul] at this; exact this
 rw [setL_eq _ _ _ (by rw [flatG_len hf,hf]; exact hle)]
 have hl:l=l.take j++l[j] :: l.drop (j+1):=by rw [List.getElem_cons_drop,List.take_append_drop]
 have hs:l.set j x=l.take j++x :: l.drop (j+1):=by rw [List.set_eq_take_append_cons_drop,if_pos hj]
 have hA:(List.flatMap f (l.take j)).length=j*c:=by rw [flatG_len hf,List.length_take,Nat.min_eq_left (by omega)]
 rw [hs]
 conv=>lhs; rw [hl]
 simp only [List.flatMap_append,List.flatMap_cons]
 rw [List.take_append_of_le_length (by omega),List.take_of_length_le (by omega)]
 rw [←List.append_assoc,List.drop_append,List.drop_of_length_le (by simp only [List.length_append,hA,hf]; omega)]
 simp only [List.length_append,hA,hf,Nat.sub_self,List.drop_zero,List.nil_append,List.append_assoc]
def GOwn (T:TypeId) (c:Nat) (f:α→List Value) (w:World) (base:Nat) (v:Value) (l:List α):Prop:=w.ownsRow base T c v l.length (l.flatMap f)
variable {T : TypeId}
theorem GOwn.form {w:World} {base:Nat} {v:Value} {l:List α} (h:GOwn T c f w base v l):∃ a cap,v = .slice a l.length cap∧l.length≤cap∧cap≤maxLen:=by
 rcases h.2 with ⟨e,h0⟩ | ⟨g,cap,_,e,_,_,h1,h2,_⟩
 ·
  exact ⟨none,0,by rw [e,h0],by omega,Nat.zero_le _⟩
 ·
  exact ⟨_,cap,e,h1,h2⟩
theorem GOwn.formN {w:World} {base n:Nat} {v:Value} {l:List α} (hn:l.length=n) (h:GOwn T c f w base v l):∃ a cap,v = .slice a n cap∧n≤cap∧cap≤maxLen:=by
 subst hn; exact h.form
theorem GOwn.later {w w':World} {base B:Nat} {v:Value} {l:List α} (h:GOwn T c f w base v l) (hb:Below B w w') (hB:w.heap.size≤B):GOwn T c f w' base v l:=
 World.ownsRow.kept h (row:=none) ⟨hb.os,hb.tape,hb.output,hb.size,fun k hk _=>hb.block k (by omega)⟩ (by
  cases hv:v.ownBlock with
  | none=>exact .inl rfl
  | some k=>exact .inr (by simp))
theorem GOwn.mono {w:World} {base base':Nat} {v:Value} {l:List α} (h:GOwn T c f w base v l) (hb:base'≤base):GOwn T c f w base' v l:=by
 refine ⟨h.1,?_⟩
 rcases h.2 with hn | ⟨g,cap,cur,e,hbg,rest⟩
 ·
  exact .inl hn
 ·
  exact .inr ⟨g,cap,cur,e,Nat.le_trans hb hbg,rest⟩
theorem GOwn.own {w:World} {base n:Nat} {v:Value} {l:List α} (hn:l.length=n) (h:GOwn T c f w base v l):w.ownsRow base T c v n (l.flatMap f):=by
 subst hn; exact h
theorem GOwn.somes {w:World} {base cap n:Nat} {a:Option Addr} {l:List α} (h:GOwn T c f w base (.slice a n cap) l) (hl:0<l.length):∃ g,a=some ⟨g,0,none⟩:=by
 rcases h.2 with ⟨_,e⟩ | ⟨g,cap',cur,e,_⟩
 ·
  omega
 ·
  simp only [Value.slice.injEq] at e
  exact ⟨g,e.1⟩
theorem GOwn.below {w:World} {base cap n g:Nat} {l:List α} (h:GOwn T c f w base (.slice (some ⟨g,0,none⟩) n cap) l):base≤g∧g<w.heap.size:=World.ownsRow.lt h g rfl
theorem GOwn.at (hf:∀ x,(f x).length=c) {w:World} {base g cap n:Nat} {l:List α} (d:α) (hn:l.length=n) (h:GOwn T c f w base (.slice (some ⟨g,0,none⟩) n cap) l) (i j:Nat) (hi:i<n) (hj:j<c) :
  w.cell? ⟨g,i*c+j,none⟩=(f (l.getD i d))[j]?∧w.frozen? ⟨g,i*c+j,none⟩=false:=by
 subst hn
 refine ⟨?_,World.ownsRow.frozenAt h _⟩
 rw [←flat_get hf l d i j hi hj]
 refine World.ownsRow.cellAt h _ ?_
 have:(i+1)*c≤l.length*c:=Nat.mul_le_mul_right c hi
 rw [Nat.add_mul,Nat.one_mul] at this; omega
theorem own_setMany {w:World} {base g cap n:Nat} {xs:List Value} (vs:List Value) (o:Nat) (h:w.ownsRow base T c (.slice (some ⟨g,0,none⟩) n cap) n xs):(setMany w g o vs).ownsRow base T c (.slice (some ⟨g,0,none⟩) n cap) n (setL xs o vs):=by
 induction vs generalizing w o xs with
 | nil=>exact h
 | cons v vs ih=>exact ih (o+1) (World.ownsRow.stored h o v).1
theorem GOwn.put (hf:∀ x,(f x).length=c) {w:World} {base g cap n:Nat} {l:List α} (hn:l.length=n) (h:GOwn T c f w base (.slice (some ⟨g,0,none⟩) n cap) l) (j:Nat) (hj:j<n) (x:α) :
  GOwn T c f (setMany w g (j*c) (f x)) base (.slice (some ⟨g,0,none⟩) n cap) (l.set j x):=by
 subst hn
 have:=own_setMany (f x) (j*c) h
 rw [flat_set hf l j x hj] at this
 show World.ownsRow _ _ _ _ _ (l.set j x).length _
 rw [List.length_set]
 exact this
theorem below_many {b g:Nat} {w0 w:World} (hb:Below b w0 w) (hg:b≤g) (vs:List Value) (o:Nat):Below b w0 (setMany w g o vs):=by
 induction vs generalizing w o with
 | nil=>exact hb
 | cons v vs ih=>exact ih (below_set hb hg v) (o+1)
theorem GOwn.nil (w:World) (base:Nat):GOwn T c f w base (.slice none 0 0) []:=World.ownsRow_nil _ _ _ _
theorem GOwn.snoc {x:World} {base n:Nat} {v:Value} {l:List α} {a:α} (hn:l.length=n) (h:x.ownsRow base T c v (n+1) (l.flatMap f++f a)):GOwn T c f x base v (l++[a]):=by
 subst hn
 show World.ownsRow _ _ _ _ _ (l++[a]).length _
 simpa using h
theorem take_snocE (l:List α) (d:α) (k:Nat) (h:k<l.length):l.take (k+1)=l.take k++[l.getD k d]:=by
 rw [List.take_succ_eq_append_getElem h]
 congr 2
 simp [List.getD,h]
theorem copyG_step (l:List α) (z:α) (j:Nat) (h:j<l.length):(l.take j++List.replicate (l.length-j) z).set j (l.getD j z)=l.take (j+1)++List.replicate (l.length-(j+1)) z:=by
 have hl:(l.take j).length=j:=by simp; omega
 rw [List.set_append_right _ _ (by omega),hl,Nat.sub_self,take_snocE l z j h]
 rw [show l.length-j=(l.length-(j+1))+1 by omega,List.replicate_succ,List.set_cons_zero]
 simp
theorem made_flat (hf:∀ x,(f x).length=c) (h0:0<c) (z:α) (n:Nat):(madeCells (f z).toArray (n*c)).toList=(List.replicate n z).flatMap f:=by
 apply List.ext_getElem?
 intro i
 by_cases hi:i<n*c
 ·
  obtain ⟨q,r,hr,rfl⟩:∃ q r,r<c∧i=q*c+r:=⟨i/c,i%c,Nat.mod_lt _ h0,by rw [Nat.mul_comm]; exact (Nat.div_add_mod i c).symm⟩
  have hq:q<n:=by
   refine Nat.lt_of_not_le fun hle=>?_
   have:=Nat.mul_le_mul_right c hle; omega
  rw [flat_get hf _ z q r (by simpa using hq) hr]
  have e0:(List.replicate n z).getD q z=z:=by rw [List.getD_eq_getElem?_getD,List.getElem?_replicate,if_pos hq]; rfl
  rw [e0,List.getElem?_eq_getElem (by simp [madeCells]; omega),List.getElem?_eq_getElem (by rw [hf]; exact hr)]
  simp [madeCells,hf,Nat.mod_eq_of_lt hr]
  rw [List.getElem?_eq_getElem (by rw [hf]; exact hr)]; rfl
 ·
  rw [List.getElem?_eq_none (by simp [madeCells]; omega),List.getElem?_eq_none (by rw [flatG_len hf]; simp; omega)]
theorem made_own (hf:∀ x,(f x).length=c) (h0:0<c) (z:α) {w1:World} {base g n:Nat} (h:w1.ownsRow base T c (.slice (some ⟨g,0,none⟩) n n) n (madeCells (f z).toArray (n*c)).toList):GOwn T c f w1 base (.slice (some ⟨g,0,none⟩) n n) (List.replicate n z):=by
 rw [made_flat hf h0] at h
 show World.ownsRow _ _ _ _ _ (List.replicate n z).length _
 rw [List.length_replicate]; exact h
end
end Go.Proofs.YtkdlcomfpffhhaaGreatDoor
namespace Go.Proofs.YtkdlcomfpffhhaaGreatDoor
open Go.RowKit
def bcells (l:List UInt8):List Value:=l.map fun x=>Value.int .u8 (x.toNat:Int)
def BOwn (w:World) (base:Nat) (v:Value) (l:List UInt8):Prop:=w.ownsRow base 5 1 v l.length (bcells l)
theorem BOwn.form {w:World} {base:Nat} {v:Value} {l:List UInt8} (h:BOwn w base v l):∃ a cap,v = .slice a l.length cap:=by
 rcases h.2 with ⟨e,h0⟩ | ⟨g,cap,_,e,_⟩
 ·
  exact ⟨none,0,by rw [e,h0]⟩
 ·
  exact ⟨_,cap,e⟩
theorem BOwn.formN {w:World} {base n:Nat} {v:Value} {l:List UInt8} (hn:l.length=n) (h:BOwn w base v l):∃ a cap,v = .slice a n cap:=by
 subst hn; exact h.form
theorem BOwn.own {w:World} {base n:Nat} {v:Value} {l:List UInt8} (hn:l.length=n) (h:BOwn w base v l):w.ownsRow base 5 1 v n (bcells l):=by
 subst hn; exact h
theorem BOwn.later {w w':World} {base B:Nat} {v:Value} {l:List UInt8} (h:BOwn w base v l) (hb:Below B w w') (hB:w.heap.size≤B):BOwn w' base v l:=
 World.ownsRow.kept h (row:=none) ⟨hb.os,hb.tape,hb.output,hb.size,fun k hk _=>hb.block k (by omega)⟩ (by
  cases hv:v.ownBlock with
  | none=>exact .inl rfl
  | some k=>exact .inr (by simp))
theorem BOwn.somes {w:World} {base cap n:Nat} {a:Option Addr} {l:List UInt8} (h:BOwn w base (.slice a n cap) l) (hl:0<l.length):∃ g,a=some ⟨g,0,none⟩:=by
 rcases h.2 with ⟨_,e⟩ | ⟨g,cap',cur,e,_⟩
 ·
  omega
 ·
  simp only [Value.slice.injEq] at e
  exact ⟨g,e.1⟩
theorem BOwn.at {w:World} {base g cap n j:Nat} {l:List UInt8} (hn:l.length=n) (h:BOwn w base (.slice (some ⟨g,0,none⟩) n cap) l) (hj:j<n) :
  w.cell? ⟨g,j,none⟩=some (.int .u8 ((l.getD j 0).toNat:Int))∧base≤g∧g<w.heap.size:=by
 subst hn
 refine ⟨?_,World.ownsRow.lt h g rfl⟩
 rw [World.ownsRow.cellAt h j (by omega)]
 simp [bcells,hj,List.getD]
theorem BOwn.nil (w:World) (base:Nat):BOwn w base (.slice none 0 0) []:=World.ownsRow_nil _ _ _ _
theorem BOwn.lit (w:World) (base:Nat) (hb:base≤w.heap.size):BOwn (w.alloc (.cells #[] 5)) base (.slice (some ⟨w.heap.size,0,none⟩) 0 0) []:=World.ownsRow_lit w #[] 0 hb (by unfold maxLen; omega) rfl
theorem bown_snoc {x:World} {base n:Nat} {v:Value} {l:List UInt8} {b:UInt8} (hn:l.length=n) (h:x.ownsRow base 5 1 v (n+1) (bcells l++[.int .u8 (b.toNat:Int)])):BOwn x base v (l++[b]):=by
 subst hn
 show World.ownsRow _ _ _ _ _ (l++[b]).length _
 simpa [bcells] using h
theorem Tryz.infoU8:(Tryz.prog.info? 5).map (fun i=>(i.zero,i.size,i.bytes))=some (some (.int .u8 0),1,1):=by kernel_rfl
theorem one_byte (x:Int):∀ u∈[Value.int .u8 x],u.oneCell'=true:=by
 intro u hu
 simp at hu
 subst hu
 rfl
theorem BOwn.text {w:World} {base:Nat} {v:Value} {l:List UInt8} (h:BOwn w base v l) :
  (convert 22 9 v).run Tryz.prog w = .ok (.string ⟨l.toArray⟩) w:=by
 rcases h.2 with ⟨e,h0⟩ | ⟨g,cap,cur,e,_⟩
 ·
  have hl:l=[]:=List.eq_nil_of_length_eq_zero h0
  subst hl
  rw [e]
  rw [run_convert_bytes_string w _ _ _ none 0 0 Tryz.underlying22 Tryz.underlying5 Tryz.underlying9]
  rfl
 ·
  rw [e]
  exact run_convert_bytes_back w _ _ _ ⟨g,0,none⟩ cap l Tryz.underlying22 Tryz.underlying5 Tryz.underlying9 (fun j hj=>by
   have:=World.ownsRow.cells h (g:=g) (by rw [e]; rfl) j (.int .u8 (l[j].toNat:Int)) (by simp [bcells,hj])
   exact this)
def PRow (w:World) (a:Option Addr) (l:List (Int×Int)):Prop:=
 0<l.length→∃ g o,a=some ⟨g,o,none⟩∧g<w.heap.size∧∀ i,i<l.length→w.cell? ⟨g,o+i*2,none⟩=some (.int .i64 (l.getD i (0,0)).1)∧w.cell? ⟨g,o+i*2+1,none⟩=some (.int .i64 (l.getD i (0,0)).2)
theorem PRow.later {w w':World} {a:Option Addr} {l:List (Int×Int)} (h:PRow w a l) (hb:Below w.heap.size w w'):PRow w' a l:=by
 intro h0
 obtain ⟨g,o,e,hlt,hc⟩:=h h0
 refine ⟨g,o,e,Nat.lt_of_lt_of_le hlt hb.size,fun i hi=>⟨?_,?_⟩⟩
 ·
  exact (hb.cell (p:=⟨g,o+i*2,none⟩) hlt).trans (hc i hi).1
 ·
  exact (hb.cell (p:=⟨g,o+i*2+1,none⟩) hlt).trans (hc i hi).2
def pcells:List (Int×Int)→List Value
 | []=>[]
 | p :: l=>.int .i64 p.1 :: .int .i64 p.2 :: pcells l
theorem pcells_append (l m:List (Int×Int)):pcells (l++m)=pcells l++pcells m:=by
 induction l with
 | nil=>rfl
 | cons p l ih=>simp [pcells,ih]
theorem pcells_get (l:List (Int×Int)) (i:Nat) (h:i<l.length):(pcells l)[i*2]?=some (.int .i64 (l.getD i (0,0)).1)∧(pcells l)[i*2+1]?=some (.int .i64 (l.getD i (0,0)).2):=by
 induction l generalizing i with
 | nil=>simp at h
 | cons p l ih=>
  cases i with
  | zero=>simp [pcells]
  | succ i=>
   have:=ih i (by simpa using h)
   rw [show (i+1)*2=i*2+1+1 by omega]
   simpa [pcells] using this
def Pcs (w:World) (base:Nat) (v:Value) (l:List (Int×Int)):Prop:=w.ownsRow base 173 2 v l.length (pcells l)
theorem Pcs.form {w:World} {base:Nat} {v:Value} {l:List (Int×Int)} (h:Pcs w base v l):∃ a cap,v = .slice a l.length cap:=by
 rcases h.2 with ⟨e,h0⟩ | ⟨g,cap,_,e,_⟩
 ·
  exact ⟨none,0,by rw [e,h0]⟩
 ·
  exact ⟨_,cap,e⟩
theorem Pcs.row {w:World} {base:Nat} {a:Option Addr} {cap:Nat} {l:List (Int×Int)} (h:Pcs w base (.slice a l.length cap) l):PRow w a l:=by
 intro h0
 rcases h.2 with ⟨_,h1⟩ | ⟨g,cap',cur,e,hb,hg,hr⟩
 ·
  omega
 ·
  simp only [Value.slice.injEq] at e
  obtain ⟨rfl,_,rfl⟩:=e
  refine ⟨g,0,rfl,(Array.getElem?_eq_some_iff.1 hg).1,fun i hi=>?_⟩
  have hp:=pcells_get l i hi
  have c1:=World.ownsRow.cellAt h (i*2) (by omega)
  have c2:=World.ownsRow.cellAt h (i*2+1) (by omega)
  rw [Nat.zero_add]
  exact ⟨c1.trans hp.1,c2.trans hp.2⟩
theorem Pcs.later {w w':World} {base B:Nat} {v:Value} {l:List (Int×Int)} (h:Pcs w base v l) (hb:Below B w w') (hB:w.heap.size≤B):Pcs w' base v l:=
 World.ownsRow.kept h (row:=none) ⟨hb.os,hb.tape,hb.output,hb.size,fun k hk _=>hb.block k (by omega)⟩ (by
  cases hv:v.ownBlock with
  | none=>exact .inl rfl
  | some k=>exact .inr (by simp))
theorem Tryz.infoPiece:(Tryz.prog.info? 173).map (fun i=>(i.zero,i.size,i.bytes))=some (some (.agg #[.int .i64 0,.int .i64 0]),2,16):=by kernel_rfl
theorem pcs_snoc {x:World} {base:Nat} {v:Value} {l:List (Int×Int)} {a b:Int} (h:x.ownsRow base 173 2 v (l.length+1) (pcells l++[.int .i64 a,.int .i64 b])):Pcs x base v (l++[(a,b)]):=by
 show World.ownsRow _ _ _ _ _ (l++[(a,b)]).length _
 rw [pcells_append]
 simpa [pcells] using h
theorem Pcs.formN {w:World} {base n:Nat} {v:Value} {l:List (Int×Int)} (hn:l.length=n) (h:Pcs w base v l):∃ a cap,v = .slice a n cap:=by
 subst hn
 exact h.form
theorem Pcs.rowN {w:World} {base n:Nat} {a:Option Addr} {cap:Nat} {l:List (Int×Int)} (hn:l.length=n) (h:Pcs w base (.slice a n cap) l):PRow w a l:=by
 subst hn
 exact h.row
theorem two_new (w:World) (x y:Value) (t:TypeId):∀ (j:Nat) (u:Value),[x,y][j]?=some u→(w.alloc (.cells #[x,y] t)).cell? ((⟨w.heap.size,0,none⟩:Addr).add j)=some u:=by
 intro j u hj
 match j,hj with
 | 0,hj=>simp at hj; subst hj; simp [Addr.add]
 | 1,hj=>simp at hj; subst hj; simp [Addr.add]
theorem two_int (x y:Int):∀ u∈[Value.int .i64 x,Value.int .i64 y],u.oneCell'=true:=by
 intro u hu
 simp at hu
 rcases hu with rfl | rfl <;> rfl
end Go.Proofs.YtkdlcomfpffhhaaGreatDoor
namespace Go.Proofs.YtkdlcomfpffhhaaGreatDoor
open Go.RowKit Corb
def allOk (l:List (Int×Int)):Bool:=l.all (fun p=>pOk p.1 p.2)
theorem allOk_take (l:List (Int×Int)) (k:Nat) (h:k<l.length):allOk (l.take (k+1))=(allOk (l.take k)&&pOk (l.getD k (0,0)).1 (l.getD k (0,0)).2):=by
 rw [List.take_succ_eq_append_getElem h,allOk,List.all_append]
 congr 1
 simp [List.getD,h]
theorem allOk_of_take {l:List (Int×Int)} {k:Nat} (h:allOk (l.take k)=false):allOk l=false:=by
 rw [←Bool.not_eq_true] at h ⊢
 intro h2
 apply h
 simp only [allOk,List.all_eq_true] at h2 ⊢
 intro x hx
 exact h2 x (List.mem_of_mem_take hx)
def sumBits (l:List (Int×Int)):Int:=(l.map (·.2)).sum
def lOk (l:List (Int×Int)):Bool:=allOk l&&decide (l.length≤4000)
def longI (l:List (Int×Int)):Int:=if lOk l=true then sumBits l else -1
theorem longI_yes {l:List (Int×Int)} (h:lOk l=true):longI l=sumBits l:=if_pos h
theorem longI_no {l:List (Int×Int)} (h:lOk l=false):longI l = -1:=if_neg (by simp [h])
theorem sum_take (l:List (Int×Int)) (k:Nat) (h:k<l.length):sumBits (l.take (k+1))=sumBits (l.take k)+(l.getD k (0,0)).2:=by
 rw [List.take_succ_eq_append_getElem h,sumBits,List.map_append,List.sum_append]
 simp [sumBits,List.getD,h]
theorem sum_bd {l:List (Int×Int)} (h:allOk l=true):0≤sumBits l∧sumBits l≤16*(l.length:Int):=by
 induction l with
 | nil=>simp [sumBits]
 | cons p l ih=>
  simp only [allOk,List.all_cons,Bool.and_eq_true] at h
  have h1:=pOk_true.1 h.1
  have h2:=ih h.2
  simp only [sumBits,List.map_cons,List.sum_cons,List.length_cons] at h2 ⊢
  omega
theorem allOk_get {l:List (Int×Int)} (h:allOk l=true) (k:Nat) (hk:k<l.length):pOk (l.getD k (0,0)).1 (l.getD k (0,0)).2=true:=by
 simp only [allOk,List.all_eq_true] at h
 have e:l.getD k (0,0)=l[k]:=by simp [List.getD,hk]
 rw [e]
 exact h _ (List.getElem_mem hk)
theorem allOk_take_true {l:List (Int×Int)} (h:allOk l=true) (k:Nat):allOk (l.take k)=true:=by
 simp only [allOk,List.all_eq_true] at h ⊢
 exact fun x hx=>h x (List.mem_of_mem_take hx)
set_option maxHeartbeats 800000 in
theorem implBitsLong_any (a:Option Addr) (cap:Nat) (l:List (Int×Int)) (w:World) (h:PRow w a l) (hm:l.length≤1000000000) :
  Calls Tryz.prog 158 #[.slice a l.length cap] w fun e w'=>e = .returned (.int .i64 (longI l))∧Below w.heap.size w w':=by
 by_cases h4:(l.length:Int)≤4000
 ·
  go_enter Tryz.func158,Tryz.ntmps158
  go_wp2_with fail
  go_loopw [3,5,11] (fun n _ i wr=>∃ k:Nat,k≤l.length∧i = .int .i64 k∧n = .int .i64 (sumBits (l.take k))∧allOk (l.take k)=true∧Below w.heap.size w wr) (fun _ _ i _=>l.length-(intOf i).toNat)
  case atStart=>exact ⟨0,Nat.zero_le _,rfl,rfl,rfl,Below.refl _ _⟩
  case round=>
   obtain ⟨k,hk,rfl,rfl,hall,hbel⟩:=hrel
   obtain ⟨s0,s1⟩:=sum_bd hall
   have s2:((l.take k).length:Int)≤4000:=by simp; omega
   have s3:sumBits (l.take k)≤64000:=by omega
   by_cases hlt:k<l.length
   ·
    obtain ⟨g,o,rfl,hg,hc⟩:=(h.later hbel) (by omega)
    obtain ⟨c0,c1⟩:=hc k hlt
    have hs:=hide (sum_take l k hlt)
    have ha:=hide (allOk_take l k hlt)
    have hall':=hide hall
    clear hc h hall s1 s2
    generalize (l.getD k (0,0)).1=x at *
    generalize (l.getD k (0,0)).2=y at *
    cases hp:pOk x y
    ·
     have HF:Hid (longI l = -1):=longI_no (by
      have:allOk l=false:=allOk_of_take (k:=k+1) (by rw [unhide ha,hp]; simp)
      simp [lOk,this])
     generalize sumBits (l.take k)=S at *
     go_wp2_with (go_at_call 196; refine (pieceOk_any _ _ _).mono ?_; rintro e w1 ⟨rfl,hb1⟩)
     go_ret
     exact ⟨ret_int (unhide HF).symm,(hbel.alloc hbel.size _).trans (hb1.mono (by have:=hbel.size; simp; omega))⟩
    ·
     obtain ⟨⟨y0,y1⟩,_⟩:=pOk_true.1 hp
     generalize sumBits (l.take k)=S at *
     go_wp2_with (go_at_call 196; refine (pieceOk_any _ _ _).mono ?_; rintro e w1 ⟨rfl,hb1⟩; have cy:w1.cell? ⟨wr.heap.size,1,none⟩=some (.int .i64 y):=(hb1.cell (p:=⟨wr.heap.size,1,none⟩) (by simp)).trans (by simp))
     go_roundw
     case rel=>exact ⟨k+1,by omega,by go_num,by rw [unhide hs],by rw [unhide ha,unhide hall',hp]; rfl,(hbel.alloc hbel.size _).trans (hb1.mono (by have:=hbel.size; simp; omega))⟩
     case measure=>simp [intOf]; omega
   ·
    have HE:Hid (longI l=sumBits (l.take k)):=by
     rw [List.take_of_length_le (by omega)] at hall ⊢
     exact longI_yes (by simp [lOk,hall]; omega)
    clear h hall
    go_wp2
    go_ret
    exact ⟨ret_int (unhide HE).symm,hbel⟩
 ·
  have HI:Hid (longI l = -1):=longI_no (by simp [lOk]; omega)
  go_enter Tryz.func158,Tryz.ntmps158
  go_wp2
  go_ret
  exact ⟨ret_int (unhide HI).symm,Below.refl _ _⟩
end Go.Proofs.YtkdlcomfpffhhaaGreatDoor
namespace Go.Proofs.YtkdlcomfpffhhaaGreatDoor
open Go.RowKit
def KeepT (t:TypeId) (w w':World):Prop:=∀ (k:Nat) (c:Array Value) (f:Nat×Nat),w.heap[k]?=some (Obj.cells c t f)→w'.heap[k]?=some (Obj.cells c t f)
theorem KeepT.refl (t:TypeId) (w:World):KeepT t w w:=fun _ _ _ h=>h
theorem heap_lt {w:World} {k:Nat} {o:Obj} (h:w.heap[k]?=some o):k<w.heap.size:=(Array.getElem?_eq_some_iff.1 h).1
theorem KeepT.alloc {t:TypeId} {w w':World} (h:KeepT t w w') (o:Obj):KeepT t w (w'.alloc o):=fun j c f hj=>(Below.heap_alloc w' o j (heap_lt (h j c f hj))).trans (h j c f hj)
theorem KeepT.grown {t t':TypeId} {w w1 w2:World} {base size n:Nat} {v:Value} {xs:List Value} (h:KeepT t w w1) (ho:w1.ownsRow base t' size v n xs) (hne:t≠t') (hg:w1.grownBy w2 v.ownBlock):KeepT t w w2:=by
 intro j c f hj
 have h1:=h j c f hj
 rw [hg.block j (heap_lt h1) (by
  intro e
  rcases ho.2 with ⟨rfl,_⟩ | ⟨g,cap,cur,rfl,_,hgg,_⟩
  ·
   cases e
  ·
   simp only [Value.ownBlock,Option.some.injEq] at e
   subst e
   rw [hgg] at h1
   simp only [Option.some.injEq,Obj.cells.injEq] at h1
   exact hne h1.2.1.symm)]
 exact h1
theorem k3_cells {w:World} {b:Nat} {x y z:Value} {t:TypeId} (h:w.heap[b]?=some (Obj.cells #[x,y,z] t)):w.cell? ⟨b,0,none⟩=some x∧w.cell? ⟨b,1,none⟩=some y∧w.cell? ⟨b,2,none⟩=some z∧b<w.heap.size:=
 ⟨by simp [World.cell?,h],by simp [World.cell?,h],by simp [World.cell?,h],(Array.getElem?_eq_some_iff.1 h).1⟩
theorem k2_cells {w:World} {b:Nat} {x y:Value} {t:TypeId} (h:w.heap[b]?=some (Obj.cells #[x,y] t)):w.cell? ⟨b,0,none⟩=some x∧w.cell? ⟨b,1,none⟩=some y∧b<w.heap.size:=
 ⟨by simp [World.cell?,h],by simp [World.cell?,h],(Array.getElem?_eq_some_iff.1 h).1⟩
theorem alloc_at (w:World) (o:Obj):(w.alloc o).heap[w.heap.size]?=some o:=Array.getElem?_push_size
end Go.Proofs.YtkdlcomfpffhhaaGreatDoor
namespace Go.Proofs.YtkdlcomfpffhhaaGreatDoor
open Go.RowKit Corb
def krN (b:Int):Nat:=if 0<b then p2 (15-b).toNat else 0
def kr (l:List Int):Nat:=(l.map krN).sum
def us (l:List Int):Nat:=(l.map (fun b=>if 0<b then 1 else 0)).sum
def inL (l:List Int):Bool:=l.all (fun b=>inB b 0 15)
def wholeL (l:List Int):Bool:=decide (kr l=32768) || (decide (us l=1)&&decide (kr l=16384))
def lensOk (l:List Int):Bool:=inL l&&decide (l.length≤300)&&wholeL l
theorem kr_take (l:List Int) (k:Nat) (h:k<l.length):kr (l.take (k+1))=kr (l.take k)+krN (l.getD k 0):=by
 rw [take_snocI l k h]; simp [kr]
theorem us_take (l:List Int) (k:Nat) (h:k<l.length):us (l.take (k+1))=us (l.take k)+(if 0<l.getD k 0 then 1 else 0):=by
 rw [take_snocI l k h]; simp [us]
theorem inL_take (l:List Int) (k:Nat) (h:k<l.length):inL (l.take (k+1))=(inL (l.take k)&&inB (l.getD k 0) 0 15):=by
 rw [take_snocI l k h]; simp [inL]
theorem krN_le (b:Int):krN b≤32768:=by
 unfold krN
 split
 ·
  have h2:2 ^ (15-b).toNat≤2 ^ 15:=Nat.pow_le_pow_right (by omega) (by omega)
  have h4:p2 (15-b).toNat=2 ^ (15-b).toNat:=rfl
  omega
 ·
  omega
theorem kr_le (l:List Int):kr l≤32768*l.length:=by
 induction l with
 | nil=>simp [kr]
 | cons b l ih=>
  have:=krN_le b
  simp only [kr,List.map_cons,List.sum_cons,List.length_cons] at ih ⊢
  omega
theorem us_le (l:List Int):us l≤l.length:=by
 induction l with
 | nil=>simp [us]
 | cons b l ih=>
  simp only [us,List.map_cons,List.sum_cons,List.length_cons] at ih ⊢
  split <;> omega
theorem inL_get {l:List Int} {k:Nat} (h:k<l.length) (hn:inB (l.getD k 0) 0 15=false):inL l=false:=by
 rcases hb:inL l with _ | _
 ·
  rfl
 ·
  have:=List.all_eq_true.1 hb (l.getD k 0) (by simp [List.getD,h])
  rw [hn] at this
  exact absurd this (by simp)
set_option maxHeartbeats 400000 in
theorem l3Used_any (a:Option Addr) (cap n:Nat) (l:List Int) (w:World) (hn:l.length=n) (h:IRow w a l) (hm:n≤1048576) :
  Calls Tryz.prog 265 #[.slice a n cap] w fun e w'=>e = .returned (.int .i64 (us l:Nat))∧w'=w:=by
 subst hn
 have hmI:(l.length:Int)≤1048576:=by omega
 clear hm
 go_enter Tryz.func265,Tryz.ntmps265
 go_wp2_with fail
 go_loop [3,4] (fun n i=>∃ k:Nat,k≤l.length∧i = .int .i64 k∧n = .int .i64 (us (l.take k):Nat)) (fun _ i=>l.length-(intOf i).toNat)
 case atStart=>exact ⟨0,Nat.zero_le _,rfl,rfl⟩
 case round=>
  obtain ⟨k,hk,rfl,rfl⟩:=hrel
  by_cases hlt:k<l.length
  ·
   obtain ⟨g,o,rfl,hg,hc⟩:=h (by omega)
   have c0:=hc k hlt
   have hst:=hide (us_take l k hlt)
   have hub:=us_le (l.take k)
   have hub':(us (l.take k):Int)≤1048576:=by
    have:(l.take k).length≤l.length:=by simp; omega
    omega
   clear hc hk h hub
   generalize l.getD k 0=y at *
   generalize us (l.take k)=u at *
   by_cases hy:0<y
   ·
    have hst':Hid (us (l.take (k+1))=u+1):=by have:=unhide hst; rw [if_pos hy] at this; exact this
    go_wp2
    go_round
    case rel=>exact ⟨k+1,by omega,by go_num,by rw [unhide hst']; go_num⟩
    case measure=>simp [intOf]; omega
   ·
    have hst':Hid (us (l.take (k+1))=u):=by have:=unhide hst; rw [if_neg hy] at this; exact this
    go_wp2
    go_round
    case rel=>exact ⟨k+1,by omega,by go_num,by rw [unhide hst']⟩
    case measure=>simp [intOf]; omega
  ·
   have hlk:Hid (l.take k=l):=List.take_of_length_le (by omega)
   clear h
   go_wp2
   go_ret
   exact ⟨ret_int (by rw [unhide hlk]),rfl⟩
theorem lensOk_no {l:List Int} (h:inL l=false∨300<l.length):lensOk l=false:=by
 unfold lensOk
 rcases h with h | h
 ·
  simp [h]
 ·
  rw [decide_eq_false (by omega)]; simp
theorem lensOk_yes {l:List Int} (h:inL l=true) (hl:l.length≤300):lensOk l=wholeL l:=by
 simp [lensOk,h,hl]
set_option maxHeartbeats 800000 in
theorem specLensOk_any (a:Option Addr) (cap n:Nat) (l:List Int) (w:World) (hn:l.length=n) (h:IRow w a l) (hm:n≤1048576) :
  Calls Tryz.prog 257 #[.slice a n cap] w fun e w'=>e = .returned (.bool (lensOk l))∧w'=w:=by
 subst hn
 have hmI:(l.length:Int)≤1048576:=by omega
 have Hm:=hide hm
 clear hm
 go_enter Tryz.func257,Tryz.ntmps257
 go_wp2_with fail
 go_loopw [3,4] (fun n i wr=>∃ k:Nat,k≤l.length∧i = .int .i64 k∧n = .int .i64 (kr (l.take k):Nat)∧inL (l.take k)=true∧wr=w) (fun _ i _=>l.length-(intOf i).toNat)
 case atStart=>exact ⟨0,Nat.zero_le _,rfl,rfl,rfl,rfl⟩
 case round=>
  obtain ⟨k,hk,rfl,rfl,hin,rfl⟩:=hrel
  have Hin:=hide hin
  have hkb:=kr_le (l.take k)
  have hkl:(l.take k).length≤l.length:=by simp; omega
  have hkI:(kr (l.take k):Int)≤34359738368:=by have:=unhide Hm; omega
  clear hin hkb hkl
  by_cases hlt:k<l.length
  ·
   obtain ⟨g,o,rfl,hg,hc⟩:=h (by omega)
   have c0:=hc k hlt
   have hst:=hide (kr_take l k hlt)
   have hit:=hide (inL_take l k hlt)
   have hget:=hide (fun hn=>inL_get hlt hn)
   clear hc hk h
   generalize l.getD k 0=y at *
   generalize kr (l.take k)=u at *
   cases hy:inB y 0 15
   ·
    have hno:=hide (lensOk_no (Or.inl (unhide hget hy)))
    go_wp2_with fail
    refine (l1In_any _ _ _ _).mono ?_
    rintro e x1 ⟨rfl,rfl⟩
    rw [hy]
    go_wp2
    go_ret
    exact ⟨ret_bool (unhide hno).symm,rfl⟩
   ·
    obtain ⟨y0,y1⟩:=inB_true.1 hy
    have hit':Hid (inL (l.take (k+1))=true):=by show inL (l.take (k+1))=true; rw [unhide hit,unhide Hin,hy]; rfl
    by_cases hp:0<y
    ·
     have hkn:Hid (krN y=p2 (15-y).toNat):=if_pos hp
     have hbd:=krN_le y
     rw [unhide hkn] at hbd
     have hpw:=hide (fun W=>l1Pow_any (15-y) W (by omega))
     generalize p2 (15-y).toNat=PW at *
     have hbI:(PW:Int)≤32768:=by omega
     clear hbd
     go_wp2_with fail
     refine (l1In_any _ _ _ _).mono ?_
     rintro e x1 ⟨rfl,rfl⟩
     rw [hy]
     go_wp2_with fail
     refine (unhide hpw _).mono ?_
     rintro e x2 ⟨rfl,rfl⟩
     go_wp2
     go_roundw
     case rel=>exact ⟨k+1,by omega,by go_num,by rw [unhide hst,unhide hkn]; go_num,unhide hit',by first | rfl | trivial⟩
     case measure=>simp [intOf]; omega
    ·
     have hkn:Hid (krN y=0):=if_neg hp
     go_wp2_with fail
     refine (l1In_any _ _ _ _).mono ?_
     rintro e x1 ⟨rfl,rfl⟩
     rw [hy]
     go_wp2
     go_roundw
     case rel=>exact ⟨k+1,by omega,by go_num,by rw [unhide hst,unhide hkn]; rfl,unhide hit',by first | rfl | trivial⟩
     case measure=>simp [intOf]; omega
  ·
   have hlk:l.take k=l:=List.take_of_length_le (by omega)
   rw [hlk] at hkI ⊢
   have hin:inL l=true:=by have:=unhide Hin; rw [hlk] at this; exact this
   have e14:p2 (14:Int).toNat=16384:=by decide
   have e15:p2 (15:Int).toNat=32768:=by decide
   have E14:=hide e14
   have E15:=hide e15
   have Hin':=hide hin
   clear hlk Hin hin e14 e15
   have HU:=hide (l3Used_any a cap l.length l wr rfl h (unhide Hm))
   by_cases hlen:(l.length:Int)≤300
   ·
    have hres:=hide (lensOk_yes (unhide Hin') (by omega))
    clear h
    by_cases hone:us l=1
    ·
     have hres':Hid (lensOk l=(decide (kr l=32768) || decide (kr l=16384))):=by
      show lensOk l=_
      rw [unhide hres,wholeL,decide_eq_true hone,Bool.true_and]
     go_wp2_with fail
     refine (unhide HU).mono ?_
     rintro e x1 ⟨rfl,rfl⟩
     rw [hone]
     go_wp2_with fail
     refine (l1Pow_any 14 _ (by omega)).mono ?_
     rintro e x2 ⟨rfl,rfl⟩
     rw [unhide E14]
     go_wp2_with fail
     refine (l1Pow_any 15 _ (by omega)).mono ?_
     rintro e x3 ⟨rfl,rfl⟩
     rw [unhide E15]
     generalize kr l=K at *
     by_cases h1:K=32768
     ·
      subst h1
      go_wp2
      go_ret
      exact ⟨ret_bool (by rw [unhide hres']; rfl),rfl⟩
     ·
      have g1:((K:Int) == 32768)=false:=by simp; omega
      by_cases h2:K=16384
      ·
       subst h2
       go_wp2
       go_ret
       exact ⟨ret_bool (by rw [unhide hres']; rfl),rfl⟩
      ·
       have g2:((K:Int) == 16384)=false:=by simp; omega
       go_wp2
       go_ret
       exact ⟨ret_bool (by rw [unhide hres']; simp [h1,h2]),rfl⟩
    ·
     have g0:((us l:Int) == 1)=false:=by simp; omega
     have hres':Hid (lensOk l=decide (kr l=32768)):=by
      show lensOk l=_
      rw [unhide hres,wholeL,decide_eq_false hone,Bool.false_and,Bool.or_false]
     go_wp2_with fail
     refine (unhide HU).mono ?_
     rintro e x1 ⟨rfl,rfl⟩
     go_wp2_with fail
     refine (l1Pow_any 15 _ (by omega)).mono ?_
     rintro e x3 ⟨rfl,rfl⟩
     rw [unhide E15]
     generalize kr l=K at *
     by_cases h1:K=32768
     ·
      subst h1
      go_wp2
      go_ret
      exact ⟨ret_bool (by rw [unhide hres']; rfl),rfl⟩
     ·
      have g1:((K:Int) == 32768)=false:=by simp; omega
      go_wp2
      go_ret
      exact ⟨ret_bool (by rw [unhide hres']; simp [h1]),rfl⟩
   ·
    have hno:=hide (lensOk_no (l:=l) (Or.inr (by omega)))
    clear h
    by_cases hone:us l=1
    ·
     go_wp2_with fail
     refine (unhide HU).mono ?_
     rintro e x1 ⟨rfl,rfl⟩
     rw [hone]
     go_wp2_with fail
     refine (l1Pow_any 14 _ (by omega)).mono ?_
     rintro e x2 ⟨rfl,rfl⟩
     rw [unhide E14]
     go_wp2
     go_ret
     exact ⟨ret_bool (by rw [unhide hno]),rfl⟩
    ·
     have g0:((us l:Int) == 1)=false:=by simp; omega
     go_wp2_with fail
     refine (unhide HU).mono ?_
     rintro e x1 ⟨rfl,rfl⟩
     go_wp2
     go_ret
     exact ⟨ret_bool (by rw [unhide hno]),rfl⟩
set_option maxHeartbeats 800000 in
theorem lensWhole_any (a:Option Addr) (cap n:Nat) (l:List Int) (w:World) (hn:l.length=n) (h:IRow w a l) (hin:inL l=true) (hm:n≤300) :
  Calls Tryz.prog 291 #[.slice a n cap] w fun e w'=>e = .returned (.bool (wholeL l))∧w'=w:=by
 subst hn
 have hmI:(l.length:Int)≤300:=by omega
 have Hm:=hide hm
 have Hin:=hide hin
 clear hm hin
 go_enter Tryz.func291,Tryz.ntmps291
 go_wp2_with fail
 go_loop [3,4,6,9] (fun u n _ i=>∃ k:Nat,k≤l.length∧i = .int .i64 k∧u = .int .i64 (us (l.take k):Nat)∧n = .int .i64 (kr (l.take k):Nat)) (fun _ _ _ i=>l.length-(intOf i).toNat)
 case atStart=>exact ⟨0,Nat.zero_le _,rfl,rfl,rfl⟩
 case round=>
  obtain ⟨k,hk,rfl,rfl,rfl⟩:=hrel
  have hkb:=kr_le (l.take k)
  have hub:=us_le (l.take k)
  have hkl:(l.take k).length≤l.length:=by simp; omega
  have hkI:(kr (l.take k):Int)≤9830400:=by have:=unhide Hm; omega
  have huI:(us (l.take k):Int)≤300:=by omega
  clear hkb hkl hub
  by_cases hlt:k<l.length
  ·
   obtain ⟨g,o,rfl,hg,hc⟩:=h (by omega)
   have c0:=hc k hlt
   have hst:=hide (kr_take l k hlt)
   have hsu:=hide (us_take l k hlt)
   have hy:inB (l.getD k 0) 0 15=true:=by
    rcases hb:inB (l.getD k 0) 0 15 with _ | _
    ·
     have:=inL_get hlt hb
     rw [unhide Hin] at this
     exact absurd this (by simp)
    ·
     rfl
   clear hc hk h
   generalize l.getD k 0=y at *
   generalize kr (l.take k)=u at *
   generalize us (l.take k)=q at *
   obtain ⟨y0,y1⟩:=inB_true.1 hy
   by_cases hp:0<y
   ·
    obtain ⟨c,hc⟩:∃ c:Nat,15-y=(c:Int):=⟨(15-y).toNat,by omega⟩
    have hkn:Hid (krN y=p2 c):=by
     show krN y=p2 c
     unfold krN
     rw [if_pos hp,hc,Int.toNat_natCast]
    have hbd:=krN_le y
    rw [unhide hkn] at hbd
    have hsu':Hid (us (l.take (k+1))=q+1):=by have:=unhide hsu; rw [if_pos hp] at this; exact this
    have hp2:(1:Int)*2 ^ c=(p2 c:Int):=by rw [Int.one_mul,p2_int]
    have hp2':(2:Int) ^ c=(p2 c:Int):=(p2_int c).symm
    generalize p2 c=PW at *
    have hbI:(PW:Int)≤32768:=by omega
    have hw1:IntKind.i64.wrap (15-y)=(c:Int):=by rw [hc]; exact wrap_id _ (by omega) (by omega)
    have hw2:IntKind.i64.wrap (PW:Int)=(PW:Int):=wrap_id _ (by omega) (by omega)
    clear hbd
    go_wp2
    go_round
    case rel=>exact ⟨k+1,by omega,by go_num,by rw [unhide hsu']; go_num,by rw [unhide hst,unhide hkn]; go_num⟩
    case measure=>simp [intOf]; omega
   ·
    have hkn:Hid (krN y=0):=if_neg hp
    have hsu':Hid (us (l.take (k+1))=q):=by have:=unhide hsu; rw [if_neg hp] at this; exact this
    go_wp2
    go_round
    case rel=>exact ⟨k+1,by omega,by go_num,by rw [unhide hsu'],by rw [unhide hst,unhide hkn]; rfl⟩
    case measure=>simp [intOf]; omega
  ·
   have hlk:l.take k=l:=List.take_of_length_le (by omega)
   rw [hlk] at hkI huI ⊢
   have HW:Hid (wholeL l=(decide (kr l=32768) || (decide (us l=1)&&decide (kr l=16384)))):=rfl
   clear h hlk
   generalize kr l=K at *
   generalize us l=U at *
   by_cases h1:K=32768
   ·
    subst h1
    go_wp2
    go_ret
    exact ⟨ret_bool (by rw [unhide HW]; rfl),rfl⟩
   ·
    have g1:((K:Int) == 32768)=false:=by simp; omega
    by_cases h3:U=1
    ·
     subst h3
     by_cases h2:K=16384
     ·
      subst h2
      go_wp2
      go_ret
      exact ⟨ret_bool (by rw [unhide HW]; rfl),rfl⟩
     ·
      have g2:((K:Int) == 16384)=false:=by simp; omega
      go_wp2
      go_ret
      exact ⟨ret_bool (by rw [unhide HW]; simp [h1,h2]),rfl⟩
    ·
     have g3:((U:Int) == 1)=false:=by simp; omega
     go_wp2
     go_ret
     exact ⟨ret_bool (by rw [unhide HW]; simp [h1,h3]),rfl⟩
set_option maxHeartbeats 800000 in
theorem implLensOk_any (a:Option Addr) (cap n:Nat) (l:List Int) (w:World) (hn:l.length=n) (h:IRow w a l) (hm:n≤1048576) :
  Calls Tryz.prog 284 #[.slice a n cap] w fun e w'=>e = .returned (.bool (lensOk l))∧w'=w:=by
 subst hn
 by_cases hlen:(l.length:Int)≤300
 ·
  clear hm
  go_enter Tryz.func284,Tryz.ntmps284
  go_wp2_with fail
  go_loopw [4,10] (fun _ i wr=>∃ k:Nat,k≤l.length∧i = .int .i64 k∧inL (l.take k)=true∧wr=w) (fun _ i _=>l.length-(intOf i).toNat)
  case atStart=>exact ⟨0,Nat.zero_le _,rfl,rfl,rfl⟩
  case round=>
   obtain ⟨k,hk,rfl,hin,rfl⟩:=hrel
   have Hin:=hide hin
   clear hin
   by_cases hlt:k<l.length
   ·
    obtain ⟨g,o,rfl,hg,hc⟩:=h (by omega)
    have c0:=hc k hlt
    have hit:=hide (inL_take l k hlt)
    have hget:=hide (fun hn=>inL_get hlt hn)
    clear hc hk h
    generalize l.getD k 0=y at *
    cases hy:inB y 0 15
    ·
     have hno:=hide (lensOk_no (Or.inl (unhide hget hy)))
     rcases inB_false.1 hy with h0 | h0
     ·
      go_wp2
      go_ret
      exact ⟨ret_bool (unhide hno).symm,rfl⟩
     ·
      have h1:¬ y<0:=by omega
      go_wp2
      go_ret
      exact ⟨ret_bool (unhide hno).symm,rfl⟩
    ·
     obtain ⟨y0,y1⟩:=inB_true.1 hy
     have hit':Hid (inL (l.take (k+1))=true):=by show inL (l.take (k+1))=true; rw [unhide hit,unhide Hin,hy]; rfl
     go_wp2
     go_roundw
     case rel=>exact ⟨k+1,by omega,by go_num,unhide hit',by first | rfl | trivial⟩
     case measure=>simp [intOf]; omega
   ·
    have hlk:l.take k=l:=List.take_of_length_le (by omega)
    have hin:inL l=true:=by have:=unhide Hin; rw [hlk] at this; exact this
    have hres:=hide (lensOk_yes hin (by omega))
    have HU:=hide (lensWhole_any a cap l.length l wr rfl h hin (by omega))
    clear hlk hin h
    go_wp2_with fail
    refine (unhide HU).mono ?_
    rintro e x1 ⟨rfl,rfl⟩
    go_wp2
    go_ret
    exact ⟨ret_bool (unhide hres).symm,rfl⟩
 ·
  have hno:=hide (lensOk_no (l:=l) (Or.inr (by omega)))
  clear hm h
  go_enter Tryz.func284,Tryz.ntmps284
  go_wp2
  go_ret
  exact ⟨ret_bool (unhide hno).symm,rfl⟩
def inn (l:List Int) (n:Int) (s:Nat×List Int):Nat→Nat×List Int
 | 0=>s
 | k+1=>if l.getD k 0=n then ((inn l n s k).1+1,(inn l n s k).2.set k ((inn l n s k).1:Int)) else inn l n s k
def outN (l:List Int):Nat→Nat×List Int
 | 0=>(0,List.replicate l.length 0)
 | N+1=>inn l ((N:Int)+1) (2*(outN l N).1,(outN l N).2) l.length
theorem inn_len (l:List Int) (n:Int) (s:Nat×List Int) (k:Nat):(inn l n s k).2.length=s.2.length:=by
 induction k with
 | zero=>rfl
 | succ k ih=>
  simp only [inn]
  split
  ·
   simpa using ih
  ·
   exact ih
theorem outN_len (l:List Int) (N:Nat):(outN l N).2.length=l.length:=by
 induction N with
 | zero=>simp [outN]
 | succ N ih=>simp only [outN]; rw [inn_len]; exact ih
theorem inn_le (l:List Int) (n:Int) (s:Nat×List Int) (k:Nat):(inn l n s k).1≤s.1+k:=by
 induction k with
 | zero=>exact Nat.le_refl _
 | succ k ih=>
  simp only [inn]
  split
  ·
   simp only; omega
  ·
   omega
theorem outN_le (l:List Int) (N:Nat):(outN l N).1+l.length≤2 ^ N*l.length:=by
 induction N with
 | zero=>simp [outN]
 | succ N ih=>
  simp only [outN]
  have h:=inn_le l ((N:Int)+1) (2*(outN l N).1,(outN l N).2) l.length
  simp only at h
  have e:2 ^ (N+1)*l.length=2*(2 ^ N*l.length):=by rw [Nat.pow_succ,Nat.mul_comm (2 ^ N),Nat.mul_assoc]
  omega
theorem outN_bd (l:List Int) (N:Nat) (hN:N≤15) (hl:l.length≤300):(outN l N).1≤9830400:=by
 have h:=outN_le l N
 have h2:2 ^ N≤2 ^ 15:=Nat.pow_le_pow_right (by omega) hN
 have h3:2 ^ N*l.length≤32768*300:=Nat.mul_le_mul h2 hl
 omega
set_option maxHeartbeats 1600000 in
theorem l3Codes_any (a:Option Addr) (cap n:Nat) (l:List Int) (w:World) (hn:l.length=n) (h:IRow w a l) (hm:n≤300) :
  Calls Tryz.prog 253 #[.slice a n cap] w fun e w'=>e = .returned (.slice (some ⟨w.heap.size,0,none⟩) n n)∧IOwn w' w.heap.size (.slice (some ⟨w.heap.size,0,none⟩) n n) (outN l 15).2∧Below w.heap.size w w':=by
 have hm':(n:Int)≤300:=by omega
 obtain ⟨i0,hi,hz0,hz1,hz2⟩:=info_parts Tryz.infoInt
 have Hn:=hide hn
 have Hm:=hide hm
 go_enter Tryz.func253,Tryz.ntmps253
 go_wp2_with (at_make; refine wpList_make_full _ rfl _ _ 146 rfl w.heap.size 3 i0 (.int .i64 0) 1 Tryz.underlying146 hi hz0 hz1 .i64 .i64 _ _ n rfl rfl rfl rfl (by rw [hz2]; omega) (by unfold maxLen; omega) (Nat.le_refl _) ?_; intro w1 hown hgrow)
 have hp0:IOwn w1 w.heap.size (.slice (some ⟨w.heap.size,0,none⟩) n n) (outN l 0).2:=by
  show IOwn w1 w.heap.size (.slice (some ⟨w.heap.size,0,none⟩) n n) (List.replicate l.length 0)
  rw [hn]
  exact made_ints hown
 have hb0:Below w.heap.size w w1:=(Below.refl _ _).grown hgrow (Nat.le_refl _) (fun k h=>by cases h)
 clear hown hgrow hi hz0 hz1 hz2 hm hn
 go_loopw [4,5,6] (fun c m _ wr=>∃ N:Nat,N≤15∧m = .int .i64 ((N:Int)+1)∧c = .int .i64 (2*(outN l N).1:Nat)∧IOwn wr w.heap.size (.slice (some ⟨w.heap.size,0,none⟩) n n) (outN l N).2∧Below w.heap.size w wr) (fun _ m _ _=>16-(intOf m).toNat)
 case atStart=>exact ⟨0,by omega,rfl,rfl,hp0,hb0⟩
 case round=>
  obtain ⟨N,hN,rfl,rfl,hp,hbel⟩:=hrel
  clear hp0 hb0
  have hbd:=outN_bd l N hN (by rw [unhide Hn]; exact unhide Hm)
  have hbI:((2*(outN l N).1:Nat):Int)≤19660800:=by omega
  have hNI:(N:Int)≤15:=by omega
  by_cases hlt:N<15
  ·
   have hlen0:Hid ((outN l N).2.length=n):=(outN_len l N).trans (unhide Hn)
   have hfin:Hid (outN l (N+1)=inn l ((N:Int)+1) (2*(outN l N).1,(outN l N).2) l.length):=rfl
   have hnext:=hide (outN_bd l (N+1) (by omega) (by rw [unhide Hn]; exact unhide Hm))
   generalize hS:((2*(outN l N).1,(outN l N).2):Nat×List Int)=S at *
   have hS1:2*(outN l N).1=S.1:=by rw [←hS]
   have hS2:(outN l N).2=S.2:=by rw [←hS]
   rw [hS1] at hbI ⊢
   rw [hS2] at hp hlen0
   clear hS hS1 hS2 hbd
   go_wp2_with fail
   go_loopw [4,6] (fun c i wr=>∃ k:Nat,k≤n∧i = .int .i64 k∧c = .int .i64 ((inn l ((N:Int)+1) S k).1:Nat)∧IOwn wr w.heap.size (.slice (some ⟨w.heap.size,0,none⟩) n n) (inn l ((N:Int)+1) S k).2∧Below w.heap.size w wr) (fun _ i _=>n-(intOf i).toNat)
   case atStart=>exact ⟨0,Nat.zero_le _,rfl,rfl,hp,hbel⟩
   case round=>
    obtain ⟨k,hk,rfl,rfl,hq,hb⟩:=hrel
    clear hp hbel
    have hlen:Hid ((inn l ((N:Int)+1) S k).2.length=n):=(inn_len _ _ _ _).trans (unhide hlen0)
    have hle:=inn_le l ((N:Int)+1) S k
    have hleI:((inn l ((N:Int)+1) S k).1:Int)≤19661100:=by have:=unhide Hm; omega
    clear hle
    by_cases hkn:k<n
    ·
     obtain ⟨g,o,rfl,hg,hc⟩:=(h.later hb) (by rw [unhide Hn]; omega)
     have c0:=hc k (by rw [unhide Hn]; exact hkn)
     obtain ⟨d0,f0,_,_⟩:=hq.at (unhide hlen) hkn
     have hst:Hid (inn l ((N:Int)+1) S (k+1)=if l.getD k 0=(N:Int)+1 then ((inn l ((N:Int)+1) S k).1+1,(inn l ((N:Int)+1) S k).2.set k ((inn l ((N:Int)+1) S k).1:Int)) else inn l ((N:Int)+1) S k):=rfl
     clear hc hk h
     generalize l.getD k 0=y at *
     generalize inn l ((N:Int)+1) S k=T at *
     by_cases hy:y=(N:Int)+1
     ·
      have hst':Hid (inn l ((N:Int)+1) S (k+1)=(T.1+1,T.2.set k (T.1:Int))):=by have:=unhide hst; rw [if_pos hy] at this; exact this
      have hput:=hide (hq.put (j:=k) (unhide hlen) (T.1:Int))
      subst hy
      generalize T.2.getD k 0=d at *
      go_wp2
      go_roundw
      case rel=>exact ⟨k+1,by omega,by go_num,by rw [unhide hst']; go_num,by rw [unhide hst']; exact unhide hput,below_set hb (Nat.le_refl _) _⟩
      case measure=>simp [intOf]; omega
     ·
      have hst':Hid (inn l ((N:Int)+1) S (k+1)=T):=by have:=unhide hst; rw [if_neg hy] at this; exact this
      have g1:(y == (N:Int)+1)=false:=by simpa using hy
      go_wp2
      go_roundw
      case rel=>exact ⟨k+1,by omega,by go_num,by rw [unhide hst'],by rw [unhide hst']; exact hq,hb⟩
      case measure=>simp [intOf]; omega
    ·
     have hkl:k=l.length:=by have:=unhide Hn; omega
     subst hkl
     rw [←unhide hfin] at hq hleI ⊢
     have hnI:((outN l (N+1)).1:Int)≤9830400:=by have:=unhide hnext; omega
     go_wp2
     go_roundw
     case rel=>exact ⟨N+1,by omega,by go_num,by go_num,hq,hb⟩
     case measure=>simp [intOf]; omega
  ·
   obtain rfl:N=15:=by omega
   go_wp2
   go_ret
   exact ⟨rfl,hp,hbel⟩
def many (l:List Int) (n:Int):Nat→Nat
 | 0=>0
 | k+1=>if l.getD k 0=n then many l n k+1 else many l n k
def syms (l:List Int) (n:Int) (s:List Int):Nat→List Int
 | 0=>s
 | k+1=>if l.getD k 0=n then syms l n s k++[(k:Int)] else syms l n s k
def symsN (l:List Int):Nat→List Int
 | 0=>[]
 | N+1=>syms l ((N:Int)+1) (symsN l N) l.length
def manyN (l:List Int) (N j:Nat):Nat:=if 1≤j∧j≤N then many l (j:Int) l.length else 0
def Book (w:World) (b:Nat) (vl vc vs:Value) (m:Nat→Nat):Prop:=
 w.cell? ⟨b,0,none⟩=some vl∧w.cell? ⟨b,1,none⟩=some vc∧(∀ j,j<16→w.cell? ⟨b,2+j,none⟩=some (.int .i64 (m j:Nat)))∧w.cell? ⟨b,18,none⟩=some vs∧(∀ o,w.frozen? ⟨b,o,none⟩=false)∧b<w.heap.size
theorem Book.kept {w w':World} {b:Nat} {vl vc vs:Value} {m:Nat→Nat} (h:Book w b vl vc vs m) (hb:Below (b+1) w w'):Book w' b vl vc vs m:=by
 obtain ⟨c0,c1,c2,c3,f,hlt⟩:=h
 have hs:=Nat.lt_succ_self b
 exact ⟨(hb.cell (p:=⟨b,0,none⟩) hs).trans c0,(hb.cell (p:=⟨b,1,none⟩) hs).trans c1,fun j hj=>(hb.cell (p:=⟨b,2+j,none⟩) hs).trans (c2 j hj),(hb.cell (p:=⟨b,18,none⟩) hs).trans c3,fun o=>(hb.frozen (p:=⟨b,o,none⟩) hs).trans (f o),Nat.lt_of_lt_of_le hlt hb.size⟩
theorem Book.other {w:World} {b g o:Nat} {vl vc vs:Value} {m:Nat→Nat} (h:Book w b vl vc vs m) (hg:g≠b) (u:Value):Book (w.setCell ⟨g,o,none⟩ u) b vl vc vs m:=by
 obtain ⟨c0,c1,c2,c3,f,hlt⟩:=h
 refine ⟨?_,?_,fun j hj=>?_,?_,fun o=>by simpa using f o,by simpa using hlt⟩
 ·
  rw [World.cell?_setCell_other _ _ _ _ (by simp only [ne_eq,Addr.mk.injEq]; omega)]; exact c0
 ·
  rw [World.cell?_setCell_other _ _ _ _ (by simp only [ne_eq,Addr.mk.injEq]; omega)]; exact c1
 ·
  rw [World.cell?_setCell_other _ _ _ _ (by simp only [ne_eq,Addr.mk.injEq]; omega)]; exact c2 j hj
 ·
  rw [World.cell?_setCell_other _ _ _ _ (by simp only [ne_eq,Addr.mk.injEq]; omega)]; exact c3
theorem Book.many {w:World} {b i x:Nat} {vl vc vs:Value} {m:Nat→Nat} (h:Book w b vl vc vs m) (hi:i<16):Book (w.setCell ⟨b,2+i,none⟩ (.int .i64 (x:Nat))) b vl vc vs (fun j=>if j=i then x else m j):=by
 obtain ⟨c0,c1,c2,c3,f,hlt⟩:=h
 refine ⟨?_,?_,fun j hj=>?_,?_,fun o=>by simpa using f o,by simpa using hlt⟩
 ·
  rw [World.cell?_setCell_other _ _ _ _ (by simp only [ne_eq,Addr.mk.injEq]; omega)]; exact c0
 ·
  rw [World.cell?_setCell_other _ _ _ _ (by simp only [ne_eq,Addr.mk.injEq]; omega)]; exact c1
 ·
  by_cases e:j=i
  ·
   subst e
   rw [World.cell?_setCell_same _ _ _ (c2 j hj)]; simp
  ·
   rw [World.cell?_setCell_other _ _ _ _ (by simp only [ne_eq,Addr.mk.injEq]; omega)]; simp only [if_neg e]; exact c2 j hj
 ·
  rw [World.cell?_setCell_other _ _ _ _ (by simp only [ne_eq,Addr.mk.injEq]; omega)]; exact c3
theorem Book.sorted {w:World} {b:Nat} {vl vc vs:Value} {m:Nat→Nat} (h:Book w b vl vc vs m) (u:Value):Book (w.setCell ⟨b,18,none⟩ u) b vl vc u m:=by
 obtain ⟨c0,c1,c2,c3,f,hlt⟩:=h
 refine ⟨?_,?_,fun j hj=>?_,World.cell?_setCell_same _ _ _ c3,fun o=>by simpa using f o,by simpa using hlt⟩
 ·
  rw [World.cell?_setCell_other _ _ _ _ (by simp only [ne_eq,Addr.mk.injEq]; omega)]; exact c0
 ·
  rw [World.cell?_setCell_other _ _ _ _ (by simp only [ne_eq,Addr.mk.injEq]; omega)]; exact c1
 ·
  rw [World.cell?_setCell_other _ _ _ _ (by simp only [ne_eq,Addr.mk.injEq]; omega)]; exact c2 j hj
theorem manyS_le (l:List Int) (n:Int) (k:Nat):many l n k≤k:=by
 induction k with
 | zero=>exact Nat.le_refl _
 | succ k ih=>simp only [many]; split <;> omega
theorem manyN_step (l:List Int) (N:Nat):(fun j=>if j=N+1 then many l ((N:Int)+1) l.length else manyN l N j)=manyN l (N+1):=by
 funext j
 unfold manyN
 by_cases e:j=N+1
 ·
  subst e
  rw [if_pos rfl,if_pos ⟨by omega,by omega⟩]
  congr 1
 ·
  rw [if_neg e]
  by_cases h:1≤j∧j≤N
  ·
   rw [if_pos h,if_pos ⟨h.1,by omega⟩]
  ·
   rw [if_neg h,if_neg (by omega)]
theorem many_start (l:List Int) (N:Nat):(fun j=>if j=N+1 then many l ((N:Int)+1) 0 else manyN l N j)=manyN l N:=by
 funext j
 by_cases e:j=N+1
 ·
  subst e
  rw [if_pos rfl]
  unfold manyN
  rw [if_neg (by omega)]
  rfl
 ·
  rw [if_neg e]
theorem symsN_len (l:List Int) (n:Int) (s:List Int) (k:Nat):(syms l n s k).length≤s.length+k:=by
 induction k with
 | zero=>exact Nat.le_refl _
 | succ k ih=>
  simp only [syms]
  split
  ·
   simp; omega
  ·
   omega
theorem symsN_le (l:List Int) (N:Nat):(symsN l N).length≤N*l.length:=by
 induction N with
 | zero=>simp [symsN]
 | succ N ih=>
  have:=symsN_len l ((N:Int)+1) (symsN l N) l.length
  simp only [symsN]
  rw [Nat.add_mul,Nat.one_mul]
  omega
def nx (l:List Int):Nat→Nat
 | 0=>0
 | N+1=>2*nx l N+many l ((N:Int)+1) l.length
def pl (l:List Int):Nat→Nat
 | 0=>0
 | N+1=>pl l N+many l ((N:Int)+1) l.length
theorem inn_fst (l:List Int) (n:Int) (s:Nat×List Int) (k:Nat):(inn l n s k).1=s.1+many l n k:=by
 induction k with
 | zero=>rfl
 | succ k ih=>
  simp only [inn,many]
  split
  ·
   simp only [ih]; omega
  ·
   exact ih
theorem outN_fst (l:List Int) (N:Nat):(outN l N).1=nx l N:=by
 induction N with
 | zero=>rfl
 | succ N ih=>simp only [outN,nx]; rw [inn_fst,ih]
theorem inn_snd (l:List Int) (n:Int) (s:Nat×List Int) (k i:Nat) (hi:i<s.2.length):(inn l n s k).2.getD i 0=if i<k∧l.getD i 0=n then ((s.1+many l n i:Nat):Int) else s.2.getD i 0:=by
 induction k with
 | zero=>simp [inn]
 | succ k ih=>
  simp only [inn]
  split
  case isTrue h=>
   by_cases e:i=k
   ·
    subst e
    have hl:i<(inn l n s i).2.length:=by rw [inn_len]; exact hi
    rw [if_pos ⟨Nat.lt_succ_self _,h⟩]
    simp only [List.getD,List.getElem?_set_self hl,Option.getD_some]
    rw [inn_fst]
   ·
    have e2:((inn l n s k).2.set k ((inn l n s k).1:Int)).getD i 0=(inn l n s k).2.getD i 0:=by
     simp only [List.getD]
     rw [List.getElem?_set_ne (Ne.symm e)]
    simp only
    rw [e2,ih]
    by_cases h2:i<k
    ·
     simp [h2,Nat.lt_succ_of_lt h2]
    ·
     rw [if_neg (by omega),if_neg (by omega)]
  case isFalse h=>
   rw [ih]
   by_cases e:i=k
   ·
    subst e
    rw [if_neg (by omega),if_neg (fun hh=>h hh.2)]
   ·
    by_cases h2:i<k
    ·
     simp [h2,Nat.lt_succ_of_lt h2]
    ·
     rw [if_neg (by omega),if_neg (by omega)]
def codeAt (l:List Int) (i:Nat):Nat:=2*nx l ((l.getD i 0).toNat-1)+many l (l.getD i 0) i
theorem outN_snd (l:List Int) (N i:Nat) (hi:i<l.length):(outN l N).2.getD i 0=if 1≤l.getD i 0∧l.getD i 0≤(N:Int) then (codeAt l i:Int) else 0:=by
 induction N with
 | zero=>
  rw [if_neg (by omega)]
  simp [outN,List.getD,hi]
 | succ N ih=>
  simp only [outN]
  rw [inn_snd _ _ _ _ _ (by simp only [outN_len]; exact hi)]
  simp only
  by_cases e:l.getD i 0=(N:Int)+1
  ·
   rw [if_pos ⟨hi,e⟩,if_pos ⟨by omega,by omega⟩,outN_fst]
   unfold codeAt
   rw [e]
   have:((N:Int)+1).toNat-1=N:=by omega
   rw [this]
  ·
   rw [if_neg (fun hh=>e hh.2),ih]
   by_cases h2:1≤l.getD i 0∧l.getD i 0≤(N:Int)
   ·
    rw [if_pos h2,if_pos ⟨h2.1,by omega⟩]
   ·
    rw [if_neg h2,if_neg (by omega)]
/-! Kraft's sum, by lengths. -/
def krU (N:Nat) (l:List Int):Nat:=(l.map (fun b=>if 0<b∧b≤(N:Int) then p2 (15-b).toNat else 0)).sum
theorem krU_le (N:Nat) (l:List Int):krU N l≤kr l:=by
 induction l with
 | nil=>exact Nat.le_refl _
 | cons b l ih=>
  simp only [krU,kr,krN,List.map_cons,List.sum_cons] at ih ⊢
  split <;> split <;> omega
theorem many_cons (b:Int) (l:List Int) (n:Int) (k:Nat):many (b :: l) n (k+1)=(if b=n then 1 else 0)+many l n k:=by
 induction k with
 | zero=>simp [many]
 | succ k ih=>
  have e:many (b :: l) n (k+1+1)=if (b :: l).getD (k+1) 0=n then many (b :: l) n (k+1)+1 else many (b :: l) n (k+1):=rfl
  have e2:(b :: l).getD (k+1) 0=l.getD k 0:=by simp [List.getD]
  rw [e,e2,ih]
  simp only [many]
  split <;> split <;> omega
theorem krU_succ (N:Nat) (hN:N<15) (l:List Int):krU (N+1) l=krU N l+many l ((N:Int)+1) l.length*p2 (14-N):=by
 induction l with
 | nil=>simp [krU,many]
 | cons b l ih=>
  rw [List.length_cons,many_cons,Nat.add_mul]
  simp only [krU,List.map_cons,List.sum_cons] at ih ⊢
  rw [ih]
  by_cases e:b=(N:Int)+1
  ·
   rw [if_pos (by omega),if_neg (by omega),if_pos e]
   have:(15-b).toNat=14-N:=by omega
   rw [this]; omega
  ·
   rw [if_neg e]
   by_cases h:0<b∧b≤(N:Int)
   ·
    rw [if_pos h,if_pos (by omega)]; omega
   ·
    rw [if_neg h,if_neg (by omega)]; omega
theorem nx_kr (l:List Int) (N:Nat) (hN:N≤15):nx l N*p2 (15-N)=krU N l:=by
 induction N with
 | zero=>
  have:krU 0 l=0:=by
   induction l with
   | nil=>rfl
   | cons b l ih=>
    simp only [krU,List.map_cons,List.sum_cons] at ih ⊢
    rw [ih,if_neg (by omega)]
  rw [this]; simp [nx]
 | succ N ih=>
  rw [krU_succ N (by omega),←ih (by omega)]
  have e1:15-N=(14-N)+1:=by omega
  have e2:15-(N+1)=14-N:=by omega
  rw [e1,e2,p2_succ]
  simp only [nx]
  rw [Nat.add_mul,Nat.mul_comm 2,Nat.mul_assoc,Nat.mul_comm 2]
theorem kr_ok {l:List Int} (h:lensOk l=true):kr l≤32768:=by
 simp only [lensOk,wholeL,Bool.and_eq_true,Bool.or_eq_true,decide_eq_true_iff] at h
 omega
theorem nx_le {l:List Int} (h:lensOk l=true) (N:Nat) (hN:N≤15):nx l N≤p2 N:=by
 have h1:=nx_kr l N hN
 have h2:=krU_le N l
 have h3:=kr_ok h
 have e:p2 N*p2 (15-N)=32768:=by
  unfold p2
  rw [←Nat.pow_add]
  have:N+(15-N)=15:=by omega
  rw [this]
 have hp:=p2_pos (15-N)
 exact Nat.le_of_mul_le_mul_right (by omega:nx l N*p2 (15-N)≤p2 N*p2 (15-N)) hp
theorem many_lt {l:List Int} {n:Int} {i:Nat} (hi:l.getD i 0=n):∀ k,i<k→many l n i<many l n k:=by
 intro k hk
 induction k with
 | zero=>omega
 | succ k ih=>
  by_cases e:i=k
  ·
   subst e
   simp only [many]
   rw [if_pos hi]; omega
  ·
   have:=ih (by omega)
   simp only [many]
   split <;> omega
theorem inL_bd {l:List Int} (h:inL l=true) {i:Nat} (hi:i<l.length):0≤l.getD i 0∧l.getD i 0≤15:=by
 have:=List.all_eq_true.1 h (l.getD i 0) (by simp [List.getD,hi])
 exact inB_true.1 this
theorem lensOk_in {l:List Int} (h:lensOk l=true):inL l=true:=by
 simp only [lensOk,Bool.and_eq_true] at h
 exact h.1.1
theorem codeAt_lt {l:List Int} (h:lensOk l=true) {i:Nat} (hi:i<l.length) (hp:1≤l.getD i 0):codeAt l i<p2 (l.getD i 0).toNat∧codeAt l i<nx l (l.getD i 0).toNat:=by
 obtain ⟨_,hb⟩:=inL_bd (lensOk_in h) hi
 obtain ⟨n,hn⟩:∃ n:Nat,l.getD i 0=(n:Int)+1:=⟨(l.getD i 0).toNat-1,by omega⟩
 have hle:=nx_le h (n+1) (by omega)
 have hm:=many_lt hn l.length hi
 have e1:(l.getD i 0).toNat=n+1:=by omega
 unfold codeAt
 rw [e1,hn]
 simp only [nx,Nat.add_sub_cancel] at hle ⊢
 omega
theorem codes_get {l:List Int} (h:lensOk l=true) {i:Nat} (hi:i<l.length):(outN l 15).2.getD i 0=if 1≤l.getD i 0 then (codeAt l i:Int) else 0:=by
 rw [outN_snd l 15 i hi]
 have:=(inL_bd (lensOk_in h) hi).2
 by_cases hp:1≤l.getD i 0
 ·
  rw [if_pos hp,if_pos ⟨hp,by omega⟩]
 ·
  rw [if_neg hp,if_neg (by omega)]
/-! Symbols in their order. -/
theorem syms_eq (l:List Int) (n:Int) (s:List Int) (k:Nat):(syms l n s k).length=s.length+many l n k:=by
 induction k with
 | zero=>rfl
 | succ k ih=>
  simp only [syms,many]
  split
  ·
   simp [ih]; omega
  ·
   exact ih
theorem symsN_eq (l:List Int) (N:Nat):(symsN l N).length=pl l N:=by
 induction N with
 | zero=>rfl
 | succ N ih=>simp only [symsN,pl]; rw [syms_eq,ih]
theorem syms_old (l:List Int) (n:Int) (s:List Int) (k j:Nat) (hj:j<s.length):(syms l n s k).getD j 0=s.getD j 0:=by
 induction k with
 | zero=>rfl
 | succ k ih=>
  simp only [syms]
  split
  ·
   have hl:j<(syms l n s k).length:=by rw [syms_eq]; omega
   rw [←ih]
   simp only [List.getD]
   rw [List.getElem?_append_left hl]
  ·
   exact ih
theorem syms_new (l:List Int) (n:Int) (s:List Int) (k i:Nat) (hi:i<k) (hn:l.getD i 0=n):(syms l n s k).getD (s.length+many l n i) 0=(i:Int):=by
 induction k with
 | zero=>omega
 | succ k ih=>
  simp only [syms]
  by_cases e:i=k
  ·
   subst e
   rw [if_pos hn]
   simp only [List.getD]
   rw [List.getElem?_append_right (by rw [syms_eq]; omega),syms_eq]
   simp
  ·
   have hlt:=many_lt hn k (by omega)
   split
   ·
    have hl:s.length+many l n i<(syms l n s k).length:=by rw [syms_eq]; omega
    rw [←ih (by omega)]
    simp only [List.getD]
    rw [List.getElem?_append_left hl]
   ·
    exact ih (by omega)
theorem symsN_get (l : List Int) (N n i : Nat) (hi : i < l.length) (hn : l.getD i 0 = (n : Int) + 1) (hN : n < N) : (symsN l N).getD (pl l n + many l ((n : Int) + 1) i) 0 = (i : Int) := by
  induction N with
  | zero => omega
  | succ N ih =>
    by_cases e : n = N
    · subst e
      simp only [symsN]
      rw [← symsN_eq]
      exact syms_new l _ _ _ i hi hn
    · simp only [symsN]
      have hlt := many_lt hn l.length hi
      have hmono : pl l (n + 1) ≤ pl l N := by
        have : ∀ a b, a ≤ b → pl l a ≤ pl l b := by
          intro a b hab
          induction b with
          | zero => have : a = 0 := by omega
                    rw [this]; exact Nat.le_refl _
          | succ b ihb =>
            by_cases e2 : a = b + 1
            · rw [e2]; exact Nat.le_refl _
            · have := ihb (by omega)
              simp only [pl]; omega
        exact this _ _ (by omega)
      have hp : pl l (n + 1) = pl l n + many l ((n : Int) + 1) l.length := rfl
      rw [syms_old _ _ _ _ _ (by rw [symsN_eq]; omega)]
      exact ih (by omega)
theorem many_at (l:List Int) (n:Int) (k t:Nat) (h:t<many l n k):∃ i,i<k∧l.getD i 0=n∧many l n i=t:=by
 induction k with
 | zero=>simp [many] at h
 | succ k ih=>
  simp only [many] at h
  split at h
  case isTrue hn=>
   by_cases e:t=many l n k
   ·
    exact ⟨k,Nat.lt_succ_self _,hn,e.symm⟩
   ·
    obtain ⟨i,hi,h1,h2⟩:=ih (by omega)
    exact ⟨i,by omega,h1,h2⟩
  case isFalse=>
   obtain ⟨i,hi,h1,h2⟩:=ih h
   exact ⟨i,by omega,h1,h2⟩
end Go.Proofs.YtkdlcomfpffhhaaGreatDoor
namespace Go.Proofs.YtkdlcomfpffhhaaGreatDoor
open Go.RowKit
def fnd (L G num:Nat):Nat→Nat
 | 0=>0
 | k+1=>if num<(stF L G (k+1)).1 then fnd L G num k else k+1
theorem stF_bd {L G k:Nat} (hL:L≤3) (hG:1≤G) (hG4:G≤4) (hk:k/G≤15):(stF L G k).1≤200000∧(stF L G k).2≤14:=by
 unfold stF
 split
 ·
  simp only; omega
 ·
  have h1:p2 (k/G-1)≤p2 14:=Nat.pow_le_pow_right (by omega) (by omega)
  have h2:p2 14=16384:=by decide
  have h3:(G+k%G)*p2 (k/G-1)≤8*16384:=Nat.mul_le_mul (by have:=Nat.mod_lt k hG; omega) (by omega)
  simp only
  omega
def fixAt (i:Nat):Int:=if i<144 then 8 else if i<256 then 9 else if i<280 then 7 else 8
def fixL (k:Nat):List Int:=(List.range k).map fixAt
theorem fixL_len (k:Nat):(fixL k).length=k:=by simp [fixL]
theorem fixL_succ (k:Nat):fixL (k+1)=fixL k++[fixAt k]:=by simp [fixL,List.range_succ]
set_option maxHeartbeats 1600000 in
theorem l5Fives_any (w:World) :
  Calls Tryz.prog 236 #[] w fun e w'=>∃ v,e = .returned v∧IOwn w' w.heap.size v (List.replicate 32 5)∧Below w.heap.size w w':=by
 obtain ⟨i0,hi,hz0,hz1,hz2⟩:=info_parts Tryz.infoInt
 have hq0:Hid (IOwn (w.alloc (.cells #[] 3)) w.heap.size (.slice (some ⟨w.heap.size,0,none⟩) 0 0) []):=IOwn.lit _ _ (Nat.le_refl _)
 have hb0:Hid (Below w.heap.size w (w.alloc (.cells #[] 3))):=(Below.refl _ _).alloc (Nat.le_refl _) _
 go_enter Tryz.func236,Tryz.ntmps236
 go_wp2_with fail
 go_loopw [1,2] (fun v i wr=>∃ k:Nat,k≤32∧i = .int .i64 k∧IOwn wr w.heap.size v (List.replicate k 5)∧Below w.heap.size w wr) (fun _ i _=>32-(intOf i).toNat)
 case atStart=>exact ⟨0,Nat.zero_le _,rfl,unhide hq0,unhide hb0⟩
 case round=>
  obtain ⟨k,hk,rfl,hq,hbel⟩:=hrel
  have hlen:Hid ((List.replicate k (5:Int)).length=k):=List.length_replicate
  obtain ⟨va,vc,rfl⟩:=hq.formN (unhide hlen)
  have hkI:(k:Int)≤32:=by omega
  by_cases hlt:k<32
  ·
   have hltI:(k:Int)<32:=by omega
   have hst:Hid (List.replicate k (5:Int)++[5]=List.replicate (k+1) 5):=by show _=_; rw [List.replicate_succ']
   have bd:Hid (k+1≤maxLen∧(k+1)*8≤140737488355328):=by show _∧_; unfold maxLen; omega
   have hqo:=hide (hq.own (unhide hlen))
   have hbs:=hbel.size
   have HBel:=hide hbel
   clear hq hbel
   go_wp2_with (at_builtin; refine wpList_append_own _ rfl _ _ 146 rfl w.heap.size 3 i0 (.int .i64 0) 1 8 Tryz.underlying146 hi hz0 hz1 hz2 rfl (by decide) (.slice va k vc) _ _ rfl (World.ownsRow.alloc (unhide hqo) _) ⟨wr.heap.size,0,none⟩ 1 1 [.int .i64 5] rfl rfl (one_new _ _ rfl _ _) (one_int _) (unhide bd).1 (unhide bd).2 (size_alloc_le hbs _) ?_; intro v' x2 hown hgrow hnil; clear hnil)
   have hb2:=grown_step (v:=.slice va k vc) hgrow (unhide hqo) (Nat.le_refl _) hbs (unhide HBel)
   have hq2:=iown_snocN (unhide hlen) hown
   rw [unhide hst] at hq2
   clear hown hgrow
   go_wp2
   go_roundw
   case rel=>exact ⟨k+1,by omega,by go_num,hq2,hb2⟩
   case measure=>simp [intOf]; omega
  ·
   obtain rfl:k=32:=by omega
   go_wp2
   go_ret
   exact ⟨_,rfl,hq,hbel⟩
set_option maxRecDepth 100000 in
set_option maxHeartbeats 3200000 in
theorem l5Fixed_any (w:World) :
  Calls Tryz.prog 235 #[] w fun e w'=>∃ v,e = .returned v∧IOwn w' w.heap.size v (fixL 288)∧Below w.heap.size w w':=by
 obtain ⟨i0,hi,hz0,hz1,hz2⟩:=info_parts Tryz.infoInt
 have hq0:Hid (IOwn (w.alloc (.cells #[] 3)) w.heap.size (.slice (some ⟨w.heap.size,0,none⟩) 0 0) (fixL 0)):=IOwn.lit _ _ (Nat.le_refl _)
 have hb0:Hid (Below w.heap.size w (w.alloc (.cells #[] 3))):=(Below.refl _ _).alloc (Nat.le_refl _) _
 go_enter Tryz.func235,Tryz.ntmps235
 go_wp2_with fail
 go_loopw [1,2] (fun v i wr=>∃ k:Nat,k≤288∧i = .int .i64 k∧IOwn wr w.heap.size v (fixL k)∧Below w.heap.size w wr) (fun _ i _=>288-(intOf i).toNat)
 case atStart=>exact ⟨0,Nat.zero_le _,rfl,unhide hq0,unhide hb0⟩
 case round=>
  obtain ⟨k,hk,rfl,hq,hbel⟩:=hrel
  have hlen:=hide (fixL_len k)
  obtain ⟨va,vc,rfl⟩:=hq.formN (unhide hlen)
  have hkI:(k:Int)≤288:=by omega
  by_cases hlt:k<288
  ·
   have hltI:(k:Int)<288:=by omega
   have bd:Hid (k+1≤maxLen∧(k+1)*8≤140737488355328):=by show _∧_; unfold maxLen; omega
   have hqo:=hide (hq.own (unhide hlen))
   have hbs:=hbel.size
   have HBel:=hide hbel
   clear hq hbel
   by_cases h1:(k:Int)<144
   ·
    have hat:Hid (fixAt k=8):=by show _=_; unfold fixAt; rw [if_pos (by omega)]
    have hst:Hid (fixL k++[8]=fixL (k+1)):=by show _=_; rw [fixL_succ,unhide hat]
    go_wp2_with (at_builtin; refine wpList_append_own _ rfl _ _ 146 rfl w.heap.size 3 i0 (.int .i64 0) 1 8 Tryz.underlying146 hi hz0 hz1 hz2 rfl (by decide) (.slice va k vc) _ _ rfl (World.ownsRow.alloc (unhide hqo) _) ⟨wr.heap.size,0,none⟩ 1 1 [.int .i64 8] rfl rfl (one_new _ _ rfl _ _) (one_int _) (unhide bd).1 (unhide bd).2 (size_alloc_le hbs _) ?_; intro v' x2 hown hgrow hnil; clear hnil)
    have hb2:=grown_step (v:=.slice va k vc) hgrow (unhide hqo) (Nat.le_refl _) hbs (unhide HBel)
    have hq2:=iown_snocN (unhide hlen) hown
    rw [unhide hst] at hq2
    clear hown hgrow
    go_wp2
    go_roundw
    case rel=>exact ⟨k+1,by omega,by go_num,hq2,hb2⟩
    case measure=>simp [intOf]; omega
   ·
    by_cases h2:(k:Int)<256
    ·
     have hat:Hid (fixAt k=9):=by show _=_; unfold fixAt; rw [if_neg (by omega),if_pos (by omega)]
     have hst:Hid (fixL k++[9]=fixL (k+1)):=by show _=_; rw [fixL_succ,unhide hat]
     go_wp2_with (at_builtin; refine wpList_append_own _ rfl _ _ 146 rfl w.heap.size 3 i0 (.int .i64 0) 1 8 Tryz.underlying146 hi hz0 hz1 hz2 rfl (by decide) (.slice va k vc) _ _ rfl (World.ownsRow.alloc (unhide hqo) _) ⟨wr.heap.size,0,none⟩ 1 1 [.int .i64 9] rfl rfl (one_new _ _ rfl _ _) (one_int _) (unhide bd).1 (unhide bd).2 (size_alloc_le hbs _) ?_; intro v' x2 hown hgrow hnil; clear hnil)
     have hb2:=grown_step (v:=.slice va k vc) hgrow (unhide hqo) (Nat.le_refl _) hbs (unhide HBel)
     have hq2:=iown_snocN (unhide hlen) hown
     rw [unhide hst] at hq2
     clear hown hgrow
     go_wp2
     go_roundw
     case rel=>exact ⟨k+1,by omega,by go_num,hq2,hb2⟩
     case measure=>simp [intOf]; omega
    ·
     by_cases h3:(k:Int)<280
     ·
      have hat:Hid (fixAt k=7):=by show _=_; unfold fixAt; rw [if_neg (by omega),if_neg (by omega),if_pos (by omega)]
      have hst:Hid (fixL k++[7]=fixL (k+1)):=by show _=_; rw [fixL_succ,unhide hat]
      go_wp2_with (at_builtin; refine wpList_append_own _ rfl _ _ 146 rfl w.heap.size 3 i0 (.int .i64 0) 1 8 Tryz.underlying146 hi hz0 hz1 hz2 rfl (by decide) (.slice va k vc) _ _ rfl (World.ownsRow.alloc (unhide hqo) _) ⟨wr.heap.size,0,none⟩ 1 1 [.int .i64 7] rfl rfl (one_new _ _ rfl _ _) (one_int _) (unhide bd).1 (unhide bd).2 (size_alloc_le hbs _) ?_; intro v' x2 hown hgrow hnil; clear hnil)
      have hb2:=grown_step (v:=.slice va k vc) hgrow (unhide hqo) (Nat.le_refl _) hbs (unhide HBel)
      have hq2:=iown_snocN (unhide hlen) hown
      rw [unhide hst] at hq2
      clear hown hgrow
      go_wp2
      go_roundw
      case rel=>exact ⟨k+1,by omega,by go_num,hq2,hb2⟩
      case measure=>simp [intOf]; omega
     ·
      have hat:Hid (fixAt k=8):=by show _=_; unfold fixAt; rw [if_neg (by omega),if_neg (by omega),if_neg (by omega)]
      have hst:Hid (fixL k++[8]=fixL (k+1)):=by show _=_; rw [fixL_succ,unhide hat]
      go_wp2_with (at_builtin; refine wpList_append_own _ rfl _ _ 146 rfl w.heap.size 3 i0 (.int .i64 0) 1 8 Tryz.underlying146 hi hz0 hz1 hz2 rfl (by decide) (.slice va k vc) _ _ rfl (World.ownsRow.alloc (unhide hqo) _) ⟨wr.heap.size,0,none⟩ 1 1 [.int .i64 8] rfl rfl (one_new _ _ rfl _ _) (one_int _) (unhide bd).1 (unhide bd).2 (size_alloc_le hbs _) ?_; intro v' x2 hown hgrow hnil; clear hnil)
      have hb2:=grown_step (v:=.slice va k vc) hgrow (unhide hqo) (Nat.le_refl _) hbs (unhide HBel)
      have hq2:=iown_snocN (unhide hlen) hown
      rw [unhide hst] at hq2
      clear hown hgrow
      go_wp2
      go_roundw
      case rel=>exact ⟨k+1,by omega,by go_num,hq2,hb2⟩
      case measure=>simp [intOf]; omega
  ·
   obtain rfl:k=288:=by omega
   go_wp2
   go_ret
   exact ⟨_,rfl,hq,hbel⟩
theorem longScale_any (w:World) :
  Calls Tryz.prog 211 #[] w fun e w'=>e = .returned (.agg #[.int .i64 3,.int .i64 4,.int .i64 28])∧Below w.heap.size w w':=by
 go_enter Tryz.func211,Tryz.ntmps211
 go_wp2
 refine bodyPost_ret (v:=.agg #[.int .i64 3,.int .i64 4,.int .i64 28]) (by simp [results,Tryz.results211,go_sem]) rfl ⟨rfl,(Below.refl _ w).alloc (Nat.le_refl _) _⟩
theorem backScale_any (w:World) :
  Calls Tryz.prog 213 #[] w fun e w'=>e = .returned (.agg #[.int .i64 1,.int .i64 2,.int .i64 30])∧Below w.heap.size w w':=by
 go_enter Tryz.func213,Tryz.ntmps213
 go_wp2
 refine bodyPost_ret (v:=.agg #[.int .i64 1,.int .i64 2,.int .i64 30]) (by simp [results,Tryz.results213,go_sem]) rfl ⟨rfl,(Below.refl _ w).alloc (Nat.le_refl _) _⟩
def scells (l:List ByteArray):List Value:=l.map Value.string
def SOwn (w:World) (base:Nat) (v:Value) (l:List ByteArray):Prop:=w.ownsRow base 9 1 v l.length (scells l)
theorem SOwn.form {w:World} {base:Nat} {v:Value} {l:List ByteArray} (h:SOwn w base v l):∃ a cap,v = .slice a l.length cap:=by
 rcases h.2 with ⟨e,h0⟩ | ⟨g,cap,_,e,_⟩
 ·
  exact ⟨none,0,by rw [e,h0]⟩
 ·
  exact ⟨_,cap,e⟩
theorem SOwn.formN {w:World} {base n:Nat} {v:Value} {l:List ByteArray} (hn:l.length=n) (h:SOwn w base v l):∃ a cap,v = .slice a n cap:=by
 subst hn; exact h.form
theorem SOwn.own {w:World} {base n:Nat} {v:Value} {l:List ByteArray} (hn:l.length=n) (h:SOwn w base v l):w.ownsRow base 9 1 v n (scells l):=by
 subst hn; exact h
theorem SOwn.at {w:World} {base n:Nat} {a:Option Addr} {cap:Nat} {l:List ByteArray} (hn:l.length=n) (h:SOwn w base (.slice a n cap) l) (h0:0<n) :
  ∃ g,a=some ⟨g,0,none⟩∧g<w.heap.size∧∀ j,j<n→w.cell? ⟨g,j,none⟩=some (.string (l.getD j ByteArray.empty)):=by
 subst hn
 rcases h.2 with ⟨_,e⟩ | ⟨g,cap',cur,e,_⟩
 ·
  omega
 ·
  simp only [Value.slice.injEq] at e
  obtain ⟨rfl,_,rfl⟩:=e
  refine ⟨g,rfl,(World.ownsRow.lt h g rfl).2,fun j hj=>?_⟩
  rw [World.ownsRow.cellAt h j (by omega)]
  simp [scells,hj,List.getD]
theorem SOwn.lit (w:World) (base:Nat) (hb:base≤w.heap.size):SOwn (w.alloc (.cells #[] 9)) base (.slice (some ⟨w.heap.size,0,none⟩) 0 0) []:=World.ownsRow_lit w #[] 0 hb (by unfold maxLen; omega) rfl
theorem sown_snoc {x:World} {base n:Nat} {v:Value} {l:List ByteArray} {b:ByteArray} (hn:l.length=n) (h:x.ownsRow base 9 1 v (n+1) (scells l++[.string b])):SOwn x base v (l++[b]):=by
 subst hn
 show World.ownsRow _ _ _ _ _ (l++[b]).length _
 simpa [scells] using h
theorem Tryz.infoStr:(Tryz.prog.info? 9).map (fun i=>(i.zero,i.size,i.bytes))=some (some (.string ByteArray.empty),1,16):=by kernel_rfl
theorem one_str (x:ByteArray):∀ u∈[Value.string x],u.oneCell'=true:=by
 intro u hu
 simp at hu
 subst hu
 rfl
theorem convB_text (s:ByteArray) (w:World):∃ (c:Nat) (x:World) (cs:Array Value) (f:Nat×Nat),(convert 9 22 (.string s)).run Tryz.prog w = .ok (.slice (some ⟨w.heap.size,0,none⟩) s.size c) x∧Below w.heap.size w x∧x.heap[w.heap.size]?=some (.cells cs 5 f)∧∀ i (h:i<s.size),cs[i]?=some (.int .u8 (s[i].toNat:Int)):=by
 refine ⟨_,_,bytesRow s (grownCap w s.size 0 5),((bytesRow s (grownCap w s.size 0 5)).size,(bytesRow s (grownCap w s.size 0 5)).size+1),run_bytes_of_string w _ _ _ s Tryz.underlying9 Tryz.underlying22 Tryz.underlying5,?_,?_,?_⟩
 ·
  exact ((Below.refl _ w).drew).alloc (by simp) _
 ·
  exact Array.getElem?_push_size
 ·
  intro i h
  exact bytesRow_at s (grownCap w s.size 0 5) i h
theorem rowB_cell {w:World} {b i:Nat} {cs:Array Value} {t:TypeId} {f:Nat×Nat} {v:Value} (h:w.heap[b]?=some (.cells cs t f)) (hc:cs[i]?=some v):w.cell? ⟨b,i,none⟩=some v:=by
 unfold World.cell?
 rw [h]
 exact hc
structure BelU (B:Nat) (w w':World):Prop where
 below:Below B w w'
 keep:∀ k,k<w.heap.size→(∀ cur fr,w.heap[k]?≠some (.cells cur 5 fr))→w'.heap[k]?=w.heap[k]?
theorem BelU.refl (B:Nat) (w:World):BelU B w w:=⟨Below.refl _ _,fun _ _ _=>rfl⟩
theorem BelU.size {B:Nat} {w w':World} (h:BelU B w w'):w.heap.size≤w'.heap.size:=h.1.size
theorem BelU.alloc {B:Nat} {w w':World} (h:BelU B w w') (hB:B≤w'.heap.size) (o:Obj):BelU B w (w'.alloc o):=
 ⟨h.1.alloc hB o,fun j hj hn=>(Below.heap_alloc w' o j (Nat.lt_of_lt_of_le hj h.size)).trans (h.2 j hj hn)⟩
theorem BelU.drew {B:Nat} {w w':World} (h:BelU B w w'):BelU B w w'.drew:=⟨h.1.drew,h.2⟩
theorem grown_stepU {x y y':World} {o:Obj} {v:Value} {size n B base:Nat} {xs:List Value} (hg:(y.alloc o).grownBy y' v.ownBlock) (ho:y.ownsRow base 5 size v n xs) (hbb:B≤base) (hy:B≤y.heap.size) (hb:BelU B x y):BelU B x y':=by
 refine ⟨grown_step hg ho hbb hy hb.1,fun j hj hn=>?_⟩
 have h1:=hb.2 j hj hn
 have hlt:j<y.heap.size:=Nat.lt_of_lt_of_le hj hb.size
 rw [hg.block j (by simp; omega) ?_,Below.heap_alloc y o j hlt]
 ·
  exact h1
 ·
  intro e
  rcases ho.2 with ⟨rfl,_⟩ | ⟨g,cap,cur,rfl,_,hgg,_⟩
  ·
   cases e
  ·
   simp only [Value.ownBlock,Option.some.injEq] at e
   subst e
   rw [hgg] at h1
   exact hn _ _ h1.symm
theorem own_u8 {w:World} {base size n:Nat} {v:Value} {xs:List Value} (h:w.ownsRow base 5 size v n xs):∀ g,v.ownBlock=some g→∃ cur fr,w.heap[g]?=some (.cells cur 5 fr):=by
 intro g e
 rcases h.2 with ⟨rfl,_⟩ | ⟨g',cap,cur,rfl,_,hgg,_⟩
 ·
  cases e
 ·
  simp only [Value.ownBlock,Option.some.injEq] at e
  subst e
  exact ⟨_,_,hgg⟩
theorem BelU.grown {B:Nat} {x y y':World} {row:Option Nat} (h:BelU B x y) (hg:y.grownBy y' row) (hB:B≤y.heap.size) (hr:∀ g,row=some g→B≤g) (hu:∀ g,row=some g→∃ cur fr,y.heap[g]?=some (.cells cur 5 fr)):BelU B x y':=by
 refine ⟨h.1.grown hg hB hr,fun j hj hn=>?_⟩
 have h1:=h.2 j hj hn
 rw [hg.block j (Nat.lt_of_lt_of_le hj h.size) ?_]
 ·
  exact h1
 ·
  intro e
  obtain ⟨cur,fr,h2⟩:=hu j e.symm
  rw [h2] at h1
  exact hn _ _ h1.symm
theorem ext_list (s:ByteArray) (i j:Nat):(s.extract i j).data.toList=(s.data.toList.drop i).take (j-i):=by
 rw [ByteArray.data_extract,Array.toList_extract]
end Go.Proofs.YtkdlcomfpffhhaaGreatDoor
