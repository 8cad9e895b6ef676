/- Readers of bits, the model's and the program's, over this seat's program. -/
import Derived.Test.YtfhdadkcophoaaaGreatDoorM6
import Derived.Test.YtfhdadkcophoaaaGreatDoorM3
import Derived.Deep.RegionHeld3
import Derived.Deep.DrawnRows
set_option linter.unusedSimpArgs false
set_option linter.unusedVariables false
set_option maxHeartbeats 800000
namespace Go.Proofs.YtfhdadkcophoaaaGreatDoor
open Go.RowKit Corb
def Three(w:World)(b:Nat)(v0 v1 v2:Value):Prop:=
 w.cell? ⟨b,0,none⟩=some v0/\w.cell? ⟨b,1,none⟩=some v1/\w.cell? ⟨b,2,none⟩=some v2/\w.frozen? ⟨b,0,none⟩=false/\w.frozen? ⟨b,1,none⟩=false/\w.frozen? ⟨b,2,none⟩=false/\b<w.heap.size
theorem Three.set0{w:World}{b:Nat}{v0 v1 v2:Value}(h:Three w b v0 v1 v2)(u:Value):Three (w.setCell ⟨b,0,none⟩ u) b u v1 v2:=by
 obtain⟨c0,c1,c2,f0,f1,f2,hb⟩:=h;refine⟨World.cell?_setCell_same _ _ _ c0,?_,?_,by simpa using f0,by simpa using f1,by simpa using f2,by simpa using hb⟩
 · rw[World.cell?_setCell_other _ _ _ _ (by simp)];exact c1
 · rw[World.cell?_setCell_other _ _ _ _ (by simp)];exact c2
theorem Three.set1{w:World}{b:Nat}{v0 v1 v2:Value}(h:Three w b v0 v1 v2)(u:Value):Three (w.setCell ⟨b,1,none⟩ u) b v0 u v2:=by
 obtain⟨c0,c1,c2,f0,f1,f2,hb⟩:=h;refine⟨?_,World.cell?_setCell_same _ _ _ c1,?_,by simpa using f0,by simpa using f1,by simpa using f2,by simpa using hb⟩
 · rw[World.cell?_setCell_other _ _ _ _ (by simp)];exact c0
 · rw[World.cell?_setCell_other _ _ _ _ (by simp)];exact c2
theorem Three.set2{w:World}{b:Nat}{v0 v1 v2:Value}(h:Three w b v0 v1 v2)(u:Value):Three (w.setCell ⟨b,2,none⟩ u) b v0 v1 u:=by
 obtain⟨c0,c1,c2,f0,f1,f2,hb⟩:=h;refine⟨?_,?_,World.cell?_setCell_same _ _ _ c2,by simpa using f0,by simpa using f1,by simpa using f2,by simpa using hb⟩
 · rw[World.cell?_setCell_other _ _ _ _ (by simp)];exact c0
 · rw[World.cell?_setCell_other _ _ _ _ (by simp)];exact c1
theorem Three.drew{w:World}{b:Nat}{v0 v1 v2:Value}(h:Three w b v0 v1 v2):Three w.drew b v0 v1 v2:=h
theorem Three.kept{w w':World}{b:Nat}{v0 v1 v2:Value}(h:Three w b v0 v1 v2)(hb:Below (b+1) w w'):Three w' b v0 v1 v2:=by
 obtain⟨c0,c1,c2,f0,f1,f2,hlt⟩:=h;have hs:=a0l b;exact⟨(hb.cell (p:=⟨b,0,none⟩) hs).trans c0,(hb.cell (p:=⟨b,1,none⟩) hs).trans c1,(hb.cell (p:=⟨b,2,none⟩) hs).trans c2,(hb.frozen (p:=⟨b,0,none⟩) hs).trans f0,(hb.frozen (p:=⟨b,1,none⟩) hs).trans f1,(hb.frozen (p:=⟨b,2,none⟩) hs).trans f2,a0g hlt hb.size⟩
theorem xE(k n:Nat)(h:k<=n):p2 k<=p2 n:=a0Q (by omega) h
def ar(s:ByteArray):Nat:=bW s.data.toList
structure aw (b:Nat) (w w':World):Prop where
 below:Below b w w'
 block:∀k,k<w.heap.size->k≠b->w'.heap[k]?=w.heap[k]?
 cells:∀j,3<=j->w'.cell? ⟨b,j,none⟩=w.cell? ⟨b,j,none⟩/\w'.frozen? ⟨b,j,none⟩=w.frozen? ⟨b,j,none⟩
theorem aw.refl(b:Nat)(w:World):aw b w w:=⟨a0b _ _,fun _ _ _=>rfl,fun _ _=>⟨rfl,rfl⟩⟩
theorem aw.trans{b:Nat}{w w1 w2:World}(h:aw b w w1)(k:aw b w1 w2):aw b w w2:=
 ⟨h.1.trans k.1,fun j hj hb=>(k.2 j (a0g hj h.1.size) hb).trans (h.2 j hj hb),fun j hj=>⟨(k.3 j hj).1.trans (h.3 j hj).1,(k.3 j hj).2.trans (h.3 j hj).2⟩⟩
theorem ta(w:World)(b o n:Nat)(u:Value)(ho:o<3:=by omega):aw b w ((w.drewN n).setCell ⟨b,o,none⟩ u):=
 ⟨ah (below_drewN (a0b _ _) _) (a0a _) _,fun k _ hk=>a0I (w.drewN n) ⟨b,o,none⟩ u k hk,fun j hj=>⟨by rw[World.cell?_setCell_other _ _ _ _ (by simp only[ne_eq,a0v,a0M,a1D];omega)];rfl,by simp⟩⟩
theorem aw.own{b base:Nat}{w w':World}{e:TypeId}{size:Nat}{v:Value}{n:Nat}{xs:List Value}(h:aw b w w')(ho:w.ownsRow base e size v n xs)(hb:b<base):w'.ownsRow base e size v n xs:=by
 refine⟨ho.1,?_⟩;rcases ho.2 with hn|⟨g,cap,cur,rfl,hbg,hgg,rest⟩
 · exact .inl hn
 · refine .inr ⟨g,cap,cur,rfl,hbg,?_,rest⟩;rw[h.2 g (Array.getElem?_eq_some_iff.1 hgg).1 (by omega)];exact hgg
def Rdr(w:World)(b:Nat)(s:ByteArray)(p:Nat):Prop:=
 Three w b (.string s) (.int .i64 (min p (8*s.size):Nat)) (.bool (decide (8*s.size<p)))
theorem DG(s:ByteArray)(p:Nat)(h:8*s.size<=p):ar s/2 ^ p%2=0:=
 Fh _ _ (by simpa using h)
theorem GL(s:ByteArray)(p:Nat)(h:p/8<s.size):(s[p/8]).toNat/2 ^ (p%8)%2=ar s/2 ^ p%2:=by
 rw[ar,←Ln]
 congr 3
 rw[List.getD_eq_getElem?_getD];have h':p/8<s.data.toList.length:=by simpa using h
 rw[List.getElem?_eq_getElem h'];simp;rfl
theorem Rdr.before{w:World}{b p:Nat}{s:ByteArray}(h:Rdr w b s p)(hp:p<8*s.size):Three w b (.string s) (.int .i64 (p:Int)) (.bool false):=by
 unfold Rdr at h;rwa[a1S (by omega),a0n (by omega)]at h
theorem Rdr.next{w:World}{b p:Nat}{s:ByteArray}(h:Three w b (.string s) (.int .i64 ((p:Int)+1)) (.bool false))(hp:p<8*s.size):Rdr w b s (p+1):=by
 unfold Rdr;rwa[a1S (by omega),a0n (by omega)]
theorem Rdr.past{w:World}{b p:Nat}{s:ByteArray}(h:Rdr w b s p)(hp:8*s.size<=p):Three w b (.string s) (.int .i64 (8*s.size:Nat)) (.bool (decide (8*s.size<p))):=by
 unfold Rdr at h;rwa[Nat.min_eq_right (by omega)]at h
theorem Rdr.bad{w:World}{b p:Nat}{s:ByteArray}(h:Three w b (.string s) (.int .i64 (8*s.size:Nat)) (.bool true))(hp:8*s.size<=p):Rdr w b s (p+1):=by
 unfold Rdr;rwa[Nat.min_eq_right (by omega),a0E (by omega)]
theorem Rdr.at{w:World}{b p:Nat}{s:ByteArray}(h:Rdr w b s p)(hp:p<=8*s.size):Three w b (.string s) (.int .i64 (p:Int)) (.bool false):=by
 unfold Rdr at h;rwa[a1S (by omega),a0n (by omega)]at h
theorem Rdr.kept{w w':World}{b p:Nat}{s:ByteArray}(h:Rdr w b s p)(hb:Below (b+1) w w'):Rdr w' b s p:=Three.kept h hb
theorem Rdr.alloc{w:World}{b p:Nat}{s:ByteArray}(h:Rdr w b s p)(o:Obj):Rdr (w.alloc o) b s p:=
 h.kept ((a0b _ _).alloc (by have:b<w.heap.size:=h.2.2.2.2.2.2;omega) _)
theorem Rdr.lt{w:World}{b p:Nat}{s:ByteArray}(h:Rdr w b s p):b<w.heap.size:=h.2.2.2.2.2.2
theorem aw.alloc{b:Nat}{w w':World}(h:aw b w w')(hb:b<w'.heap.size)(o:Obj):aw b w (w'.alloc o):=
 ⟨h.1.alloc (a0u hb) o,fun j hj hne=>(a09 w' o j (a0g hj h.1.size)).trans (h.2 j hj hne),fun j hj=>by
  have hB:Below w'.heap.size w' (w'.alloc o):=(a0b _ _).alloc (a0a _) o;exact⟨(hB.cell (p:=⟨b,j,none⟩) hb).trans (h.3 j hj).1,(hB.frozen (p:=⟨b,j,none⟩) hb).trans (h.3 j hj).2⟩⟩
theorem Kx(w:World)(s:ByteArray)(t:TypeId):Rdr (w.alloc (.cells #[.string s,.int .i64 0,.bool false] t)) w.heap.size s 0:=by
 unfold Rdr;simp only[Nat.zero_min,Nat.not_lt_zero,decide_false];exact⟨by simp,by simp,by simp,by simp,by simp,by simp,by simp⟩
attribute [local go_sem ↓] Go.wp_at_zero Go.wp_at_succ
theorem ow(b p:Nat)(s:ByteArray)(w:World)(h:Rdr w b s p)(hs:s.size<=2000000) :
  Calls Tryz.prog 164 #[.pointer (some ⟨b,0,none⟩)] w fun e w'=>e = .returned (.int .i64 (ar s/2 ^ p%2:Nat))/\Rdr w' b s (p+1)/\aw b w w':=by
 have hs':(s.size:Int)<=2000000:=by omega
 by_cases hp:p<8*s.size
 ·
  have h3:=h.before hp;have hq:p/8<s.size:=by omega
  have hb:=GL s p hq;generalize hN:ar s/2 ^ p%2=N at *
  have Hp:=af hp;have hpI:(p:Int)<8*(s.size:Int):=by omega
  have h3':=af h3;obtain⟨c0,c1,c2,f0,f1,f2,hb3⟩:=h3;clear h hN;obtain⟨Q,hQ⟩:∃Q,p/8=Q:=⟨_,rfl⟩;obtain⟨R,hR⟩:∃R,p%8=R:=⟨_,rfl⟩;simp only[hQ,hR]at hb hq;have hbd:=(s[Q]).toNat_lt;have hR8:(R:Int)<=7:=by omega
  have e1:IntKind.i64.wrap (Q:Int)=(Q:Int):=eg _ (by omega) (by omega);have e2:(p:Int)/8=(Q:Int):=by omega
  have e3:(p:Int)%8=(R:Int):=by omega
  have e4:Int.tmod (p:Int) 8=(R:Int):=by rw[Int.tmod_eq_emod_of_nonneg (by omega)];exact e3
  have e5:(Q:Int)<(s.size:Int):=by omega
  have e6:(0:Int)<=(Q:Int):=by omega
  have e7:((s[Q]).toNat:Int)/2 ^ R=(((s[Q]).toNat/2 ^ R:Nat):Int):=by simp
  have hle:(s[Q]).toNat/2 ^ R<=(s[Q]).toNat:=Nat.div_le_self _ _;have e0:(0:Int)<=((s[Q]).toNat:Int)/2 ^ R/\((s[Q]).toNat:Int)/2 ^ R<=255:=by rw[e7];exact⟨Int.natCast_nonneg _,by omega⟩
  have e8:IntKind.i64.wrap (((s[Q]).toNat:Int)/2 ^ R)=((s[Q]).toNat:Int)/2 ^ R:=eg _ (by omega) (by omega);have e9:bits .and .i64 (((s[Q]).toNat:Int)/2 ^ R) 1=(N:Int):=by
   rw[km _ e0.1 (by omega),e7];exact_mod_cast hb
  have e14:IntKind.i64.wrap ((s[Q]).toNat:Int)=((s[Q]).toNat:Int):=eg _ (by omega) (by omega);clear hs hp hQ hR hb hle hbd e7 e0;go_enter Tryz.func164,Tryz.ntmps164;go_wp2
  go_quiet (fail)
  go_wp2
  go_quiet (fail)
  go_wp2;go_ret;exact⟨rfl,Rdr.next (by exact(ae h3').set1 _) (ae Hp),ta _ _ _ _ _⟩
 ·
  have h3:=h.past (by omega);have h3':=af h3;have Hp:=af hp;have hN:=af (DG s p (by omega));obtain⟨c0,c1,c2,f0,f1,f2,hb3⟩:=h3;rw[a2S]at c1;have e1:((8:Nat):Int)*(s.size:Int)/8=(s.size:Int):=by omega
  have e2:(8:Int)*(s.size:Int)/8=(s.size:Int):=by omega
  have e3:IntKind.i64.wrap (s.size:Int)=(s.size:Int):=eg _ (by omega) (by omega);clear h hp hs;go_enter Tryz.func164,Tryz.ntmps164;go_wp2
  go_quiet (fail)
  go_wp2;go_ret;exact⟨aI (by rw[ae hN];rfl),Rdr.bad ((ae h3').set2 _) (by have:=ae Hp;omega),ta _ _ _ _ _⟩
end Go.Proofs.YtfhdadkcophoaaaGreatDoor
