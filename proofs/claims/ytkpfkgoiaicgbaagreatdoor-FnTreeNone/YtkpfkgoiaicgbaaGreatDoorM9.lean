/- Of what the proof is made: 24 texts, one behind the other. -/
import Derived.Test.YtkpfkgoiaicgbaaGreatDoorM6
import Derived.Test.YtkpfkgoiaicgbaaGreatDoorM5
import Derived.Deep.RegionHeld3
import Derived.Deep.DrawnRows
import Derived.Test.YtkpfkgoiaicgbaaGreatDoorM7
import Derived.Lib.AppendZerosOnto
import Derived.Test.YtkpfkgoiaicgbaaGreatDoorM8
import Derived.Laws.IdiomStrings
import Derived.Laws.OwnMore
import Derived.Deep.RegionWith
set_option linter.unusedSimpArgs false
set_option linter.unusedVariables false
set_option maxHeartbeats 3200000
namespace Go.Proofs.YtkpfkgoiaicgbaaGreatDoor
open Go.RowKit Corb
theorem ag{P : Program}{ops : Array Oper}{Q : Exit -> Act -> World -> Prop}{md : Region.Mode}{S : World -> Prop}(i : Nat)(v : Value){oi : Oper}{fuel : Nat}{listed : Array Bool}{a : Act}{w : World}(hi : ops[i]? = some oi)(hb : (Region.noSelect ops && Region.free md ops listed i && (Region.ready md ops listed).contains i) = true)(hQ : ∀c a w, Q (.panic c) (a.put oi.dst v) w -> Q (.panic c) a w)(h0 : Region.wanted oi (yielded ops a.tmps) = true)(h1 : ∀w, S w -> (execOp a.eval oi).run P w = .ok (.value v) w)(hS : S w)(h : wpAnyH P md ops Q S fuel (listed.setIfInBounds i true) (a.put oi.dst v) w) : wpAnyH P md ops Q S (fuel + 1) listed a w := by
 simp only[Bool.and_eq_true]at hb;exact wpAnyH_take hi hb.1.1 hb.1.2 hb.2 hQ (Or.inl ⟨h0, h1⟩) hS h
theorem ah{P : Program}{ops : Array Oper}{Q : Exit -> Act -> World -> Prop}{md : Region.Mode}{S : World -> Prop}(i : Nat){o : Oper}{fuel : Nat}{listed : Array Bool}{a : Act}{w : World}(hr : Region.ready md ops listed = [i])(ho : ops[i]? = some o)(h : ∀K' : Act -> World -> Prop, Shut (∀a w, S w -> (S w -> wpAnyH P md ops Q S fuel (listed.setIfInBounds i true) a w) -> K' a w) -> if Region.wanted o (yielded ops a.tmps) = true then Oper.wp P o a w K' Q else K' (a.put o.dst undef) w) : wpAnyH P md ops Q S (fuel + 1) listed a w := wpAnyH_ready hr (by simp) (AllReadyH.cons ho h AllReadyH.nil)
def Three(w:World)(b:Nat)(v0 v1 v2:Value):Prop:=
 w.cell? ⟨b,0,none⟩=some v0/\w.cell? ⟨b,1,none⟩=some v1/\w.cell? ⟨b,2,none⟩=some v2/\w.frozen? ⟨b,0,none⟩=false/\w.frozen? ⟨b,1,none⟩=false/\w.frozen? ⟨b,2,none⟩=false/\b<w.heap.size
theorem Three.set0{w:World}{b:Nat}{v0 v1 v2:Value}(h:Three w b v0 v1 v2)(u:Value):Three (w.setCell ⟨b,0,none⟩ u) b u v1 v2:=by
 obtain⟨c0,c1,c2,f0,f1,f2,hb⟩:=h;refine⟨World.cell?_setCell_same _ _ _ c0,?_,?_,by simpa using f0,by simpa using f1,by simpa using f2,by simpa using hb⟩
 · rw[World.cell?_setCell_other _ _ _ _ (by simp)];exact c1
 · rw[World.cell?_setCell_other _ _ _ _ (by simp)];exact c2
theorem Three.set1{w:World}{b:Nat}{v0 v1 v2:Value}(h:Three w b v0 v1 v2)(u:Value):Three (w.setCell ⟨b,1,none⟩ u) b v0 u v2:=by
 obtain⟨c0,c1,c2,f0,f1,f2,hb⟩:=h;refine⟨?_,World.cell?_setCell_same _ _ _ c1,?_,by simpa using f0,by simpa using f1,by simpa using f2,by simpa using hb⟩
 · rw[World.cell?_setCell_other _ _ _ _ (by simp)];exact c0
 · rw[World.cell?_setCell_other _ _ _ _ (by simp)];exact c2
theorem Three.set2{w:World}{b:Nat}{v0 v1 v2:Value}(h:Three w b v0 v1 v2)(u:Value):Three (w.setCell ⟨b,2,none⟩ u) b v0 v1 u:=by
 obtain⟨c0,c1,c2,f0,f1,f2,hb⟩:=h;refine⟨?_,?_,World.cell?_setCell_same _ _ _ c2,by simpa using f0,by simpa using f1,by simpa using f2,by simpa using hb⟩
 · rw[World.cell?_setCell_other _ _ _ _ (by simp)];exact c0
 · rw[World.cell?_setCell_other _ _ _ _ (by simp)];exact c1
theorem Three.drew{w:World}{b:Nat}{v0 v1 v2:Value}(h:Three w b v0 v1 v2):Three w.drew b v0 v1 v2:=h
theorem Three.kept{w w':World}{b:Nat}{v0 v1 v2:Value}(h:Three w b v0 v1 v2)(hb:Below (b+1) w w'):Three w' b v0 v1 v2:=by
 obtain⟨c0,c1,c2,f0,f1,f2,hlt⟩:=h;have hs:=Nat.lt_succ_self b;exact⟨(hb.cell (p:=⟨b,0,none⟩) hs).trans c0,(hb.cell (p:=⟨b,1,none⟩) hs).trans c1,(hb.cell (p:=⟨b,2,none⟩) hs).trans c2,(hb.frozen (p:=⟨b,0,none⟩) hs).trans f0,(hb.frozen (p:=⟨b,1,none⟩) hs).trans f1,(hb.frozen (p:=⟨b,2,none⟩) hs).trans f2,Nat.lt_of_lt_of_le hlt hb.size⟩
theorem xR(k n:Nat)(h:k<=n):p2 k<=p2 n:=Nat.pow_le_pow_right (by omega) h
def au(s:ByteArray):Nat:=bT s.data.toList
structure ax (b:Nat) (w w':World):Prop where
 below:Below b w w'
 block:∀k,k<w.heap.size->k≠b->w'.heap[k]?=w.heap[k]?
 cells:∀j,3<=j->w'.cell? ⟨b,j,none⟩=w.cell? ⟨b,j,none⟩/\w'.frozen? ⟨b,j,none⟩=w.frozen? ⟨b,j,none⟩
theorem ax.refl(b:Nat)(w:World):ax b w w:=⟨Below.refl _ _,fun _ _ _=>rfl,fun _ _=>⟨rfl,rfl⟩⟩
theorem ax.trans{b:Nat}{w w1 w2:World}(h:ax b w w1)(k:ax b w1 w2):ax b w w2:=
 ⟨h.1.trans k.1,fun j hj hb=>(k.2 j (Nat.lt_of_lt_of_le hj h.1.size) hb).trans (h.2 j hj hb),fun j hj=>⟨(k.3 j hj).1.trans (h.3 j hj).1,(k.3 j hj).2.trans (h.3 j hj).2⟩⟩
theorem tB(w:World)(b o n:Nat)(u:Value)(ho:o<3:=by omega):ax b w ((w.drewN n).setCell ⟨b,o,none⟩ u):=
 ⟨ai (below_drewN (Below.refl _ _) _) (Nat.le_refl _) _,fun k _ hk=>Below.heap_setCell (w.drewN n) ⟨b,o,none⟩ u k hk,fun j hj=>⟨by rw[World.cell?_setCell_other _ _ _ _ (by simp only[ne_eq,Addr.mk.injEq,and_true,true_and];omega)];rfl,by simp⟩⟩
theorem ax.own{b base:Nat}{w w':World}{e:TypeId}{size:Nat}{v:Value}{n:Nat}{xs:List Value}(h:ax b w w')(ho:w.ownsRow base e size v n xs)(hb:b<base):w'.ownsRow base e size v n xs:=by
 refine⟨ho.1,?_⟩;rcases ho.2 with hn|⟨g,cap,cur,rfl,hbg,hgg,rest⟩
 · exact .inl hn
 · refine .inr ⟨g,cap,cur,rfl,hbg,?_,rest⟩;rw[h.2 g (Array.getElem?_eq_some_iff.1 hgg).1 (by omega)];exact hgg
def Rdr(w:World)(b:Nat)(s:ByteArray)(p:Nat):Prop:=
 Three w b (.string s) (.int .i64 (min p (8*s.size):Nat)) (.bool (decide (8*s.size<p)))
theorem D3(s:ByteArray)(p:Nat)(h:8*s.size<=p):au s/2 ^ p%2=0:=
 FF _ _ (by simpa using h)
theorem Hf(s:ByteArray)(p:Nat)(h:p/8<s.size):(s[p/8]).toNat/2 ^ (p%8)%2=au s/2 ^ p%2:=by
 rw[au,←LC]
 congr 3
 rw[List.getD_eq_getElem?_getD];have h':p/8<s.data.toList.length:=by simpa using h
 rw[List.getElem?_eq_getElem h'];simp;rfl
theorem Rdr.before{w:World}{b p:Nat}{s:ByteArray}(h:Rdr w b s p)(hp:p<8*s.size):Three w b (.string s) (.int .i64 (p:Int)) (.bool false):=by
 unfold Rdr at h;rwa[Nat.min_eq_left (by omega),decide_eq_false (by omega)]at h
theorem Rdr.next{w:World}{b p:Nat}{s:ByteArray}(h:Three w b (.string s) (.int .i64 ((p:Int)+1)) (.bool false))(hp:p<8*s.size):Rdr w b s (p+1):=by
 unfold Rdr;rwa[Nat.min_eq_left (by omega),decide_eq_false (by omega)]
theorem Rdr.past{w:World}{b p:Nat}{s:ByteArray}(h:Rdr w b s p)(hp:8*s.size<=p):Three w b (.string s) (.int .i64 (8*s.size:Nat)) (.bool (decide (8*s.size<p))):=by
 unfold Rdr at h;rwa[Nat.min_eq_right (by omega)]at h
theorem Rdr.bad{w:World}{b p:Nat}{s:ByteArray}(h:Three w b (.string s) (.int .i64 (8*s.size:Nat)) (.bool true))(hp:8*s.size<=p):Rdr w b s (p+1):=by
 unfold Rdr;rwa[Nat.min_eq_right (by omega),decide_eq_true (by omega)]
theorem Rdr.at{w:World}{b p:Nat}{s:ByteArray}(h:Rdr w b s p)(hp:p<=8*s.size):Three w b (.string s) (.int .i64 (p:Int)) (.bool false):=by
 unfold Rdr at h;rwa[Nat.min_eq_left (by omega),decide_eq_false (by omega)]at h
theorem Rdr.kept{w w':World}{b p:Nat}{s:ByteArray}(h:Rdr w b s p)(hb:Below (b+1) w w'):Rdr w' b s p:=Three.kept h hb
theorem Rdr.alloc{w:World}{b p:Nat}{s:ByteArray}(h:Rdr w b s p)(o:Obj):Rdr (w.alloc o) b s p:=
 h.kept ((Below.refl _ _).alloc (by have:b<w.heap.size:=h.2.2.2.2.2.2;omega) _)
theorem Rdr.lt{w:World}{b p:Nat}{s:ByteArray}(h:Rdr w b s p):b<w.heap.size:=h.2.2.2.2.2.2
theorem ax.alloc{b:Nat}{w w':World}(h:ax b w w')(hb:b<w'.heap.size)(o:Obj):ax b w (w'.alloc o):=
 ⟨h.1.alloc (Nat.le_of_lt hb) o,fun j hj hne=>(Below.heap_alloc w' o j (Nat.lt_of_lt_of_le hj h.1.size)).trans (h.2 j hj hne),fun j hj=>by
  have hB:Below w'.heap.size w' (w'.alloc o):=(Below.refl _ _).alloc (Nat.le_refl _) o;exact⟨(hB.cell (p:=⟨b,j,none⟩) hb).trans (h.3 j hj).1,(hB.frozen (p:=⟨b,j,none⟩) hb).trans (h.3 j hj).2⟩⟩
theorem KP(w:World)(s:ByteArray)(t:TypeId):Rdr (w.alloc (.cells #[.string s,.int .i64 0,.bool false] t)) w.heap.size s 0:=by
 unfold Rdr;simp only[Nat.zero_min,Nat.not_lt_zero,decide_false];exact⟨by simp,by simp,by simp,by simp,by simp,by simp,by simp⟩
attribute [local go_sem ↓] Go.wp_at_zero Go.wp_at_succ
theorem oH(b p:Nat)(s:ByteArray)(w:World)(h:Rdr w b s p)(hs:s.size<=2000000) :
  Calls Tryz.prog 181 #[.pointer (some ⟨b,0,none⟩)] w fun e w'=>e = .returned (.int .i64 (au s/2 ^ p%2:Nat))/\Rdr w' b s (p+1)/\ax b w w':=by
 have hs':(s.size:Int)<=2000000:=by omega
 by_cases hp:p<8*s.size
 ·
  have h3:=h.before hp;have hq:p/8<s.size:=by omega
  have hb:=Hf s p hq;generalize hN:au s/2 ^ p%2=N at *
  have Hp:=af hp;have hpI:(p:Int)<8*(s.size:Int):=by omega
  have h3':=af h3;obtain⟨c0,c1,c2,f0,f1,f2,hb3⟩:=h3;clear h hN;obtain⟨Q,hQ⟩:∃Q,p/8=Q:=⟨_,rfl⟩;obtain⟨R,hR⟩:∃R,p%8=R:=⟨_,rfl⟩;simp only[hQ,hR]at hb hq;have hbd:=(s[Q]).toNat_lt;have hR8:(R:Int)<=7:=by omega
  have e1:IntKind.i64.wrap (Q:Int)=(Q:Int):=ee _ (by omega) (by omega);have e2:(p:Int)/8=(Q:Int):=by omega
  have e3:(p:Int)%8=(R:Int):=by omega
  have e4:Int.tmod (p:Int) 8=(R:Int):=by rw[Int.tmod_eq_emod_of_nonneg (by omega)];exact e3
  have e5:(Q:Int)<(s.size:Int):=by omega
  have e6:(0:Int)<=(Q:Int):=by omega
  have e7:((s[Q]).toNat:Int)/2 ^ R=(((s[Q]).toNat/2 ^ R:Nat):Int):=by simp
  have hle:(s[Q]).toNat/2 ^ R<=(s[Q]).toNat:=Nat.div_le_self _ _;have e0:(0:Int)<=((s[Q]).toNat:Int)/2 ^ R/\((s[Q]).toNat:Int)/2 ^ R<=255:=by rw[e7];exact⟨Int.natCast_nonneg _,by omega⟩
  have e8:IntKind.i64.wrap (((s[Q]).toNat:Int)/2 ^ R)=((s[Q]).toNat:Int)/2 ^ R:=ee _ (by omega) (by omega);have e9:bits .and .i64 (((s[Q]).toNat:Int)/2 ^ R) 1=(N:Int):=by
   rw[ki _ e0.1 (by omega),e7];exact_mod_cast hb
  have e14:IntKind.i64.wrap ((s[Q]).toNat:Int)=((s[Q]).toNat:Int):=ee _ (by omega) (by omega);clear hs hp hQ hR hb hle hbd e7 e0;go_enter Tryz.func181,Tryz.ntmps181;go_wp2
  go_quiet (fail)
  go_wp2
  go_quiet (fail)
  go_wp2;go_ret;exact⟨rfl,Rdr.next (by exact(ae h3').set1 _) (ae Hp),tB _ _ _ _ _⟩
 ·
  have h3:=h.past (by omega);have h3':=af h3;have Hp:=af hp;have hN:=af (D3 s p (by omega));obtain⟨c0,c1,c2,f0,f1,f2,hb3⟩:=h3;rw[Int.natCast_mul]at c1;have e1:((8:Nat):Int)*(s.size:Int)/8=(s.size:Int):=by omega
  have e2:(8:Int)*(s.size:Int)/8=(s.size:Int):=by omega
  have e3:IntKind.i64.wrap (s.size:Int)=(s.size:Int):=ee _ (by omega) (by omega);clear h hp hs;go_enter Tryz.func181,Tryz.ntmps181;go_wp2
  go_quiet (fail)
  go_wp2;go_ret;exact⟨aR (by rw[ae hN];rfl),Rdr.bad ((ae h3').set2 _) (by have:=ae Hp;omega),tB _ _ _ _ _⟩
end Go.Proofs.YtkpfkgoiaicgbaaGreatDoor
namespace Go.Proofs.YtkpfkgoiaicgbaaGreatDoor
open Go.RowKit Go.Lib
theorem jF(z:Value)(k:Nat):Builtin.zeroCells #[z] k=(List.replicate k z).toArray:=by
 unfold Builtin.zeroCells;apply Array.ext';simp only[List.size_toArray,List.length_singleton,Nat.mod_one,Nat.mul_one];simp;rw[List.map_const',List.length_range]
theorem jP{P:Program}(w:World)(t tn ty e:TypeId)(i:TypeInfo)(z:Value)(kq kn:IntKind)(ht:P.underlying t=some (.slice e))(htn:P.underlying tn=some (.int kn))(hi:P.info? e=some i)(hz:i.zero=some z)
  (g sLen sCap:Nat) (cur:Array Value) (hg:w.heap[g]?=some (.cells cur e (0,0))) (k:Nat) (h0:0<k) (hs:i.size=1) (hzc:z.cells=#[z]) (h1:z.oneCell'=true)
  (hroom:sLen+k<=sCap) (hfit:sLen+k<=cur.size) (h63:(k:Int)<=9223372036854775807) (h48:k*i.bytes<=281474976710656) :
  (Builtin.append_ #[t,tn] ty #[.slice (some ⟨g,0,none⟩) sLen sCap,.int kq k]).run P w =
   .ok (.slice (some ⟨g,0,none⟩) (sLen+k) sCap) (w.setRow g (cur.toList.take sLen++List.replicate k z++cur.toList.drop (sLen+k)).toArray):=by
 have hk:k≠0:=by omega
 have hw:IntKind.i64.wrap (k:Int)=k:=by rw[IntKind.wrap_i64];omega
 have h48i:¬ (281474976710656<(k:Int)*(i.bytes:Int)):=by
  rw[←Int.natCast_mul];omega
 have hneg:¬ ((k:Int)<0):=by omega
 have hst:=run_storeCells_at P g sLen e (List.replicate k z) 0 cur w hg (by simpa using hfit) (by intro u hu;rw[List.eq_of_mem_replicate hu];exact h1);simp only[Nat.add_zero,List.length_replicate]at hst;simp[Builtin.append_,run_underlying ht,run_underlying htn,sizeOf,typeInfo,zeroValue,hi,hz,asInt,asIntOf,hw,hneg,h48i,hs,hk,hroom,hzc,jF,Addr.add_lit,hst]
theorem kG{P:Program}(w:World)(base:Nat)(t tn ty e:TypeId)(i:TypeInfo)(z:Value)(bytes:Nat)(kq kn:IntKind)(ht:P.underlying t=some (.slice e))(htn:P.underlying tn=some (.int kn))(hi:P.info? e=some i)(hz:i.zero=some z)
  (hs:i.size=1) (hby:i.bytes=bytes) (hzc:z.cells=#[z]) (h1:z.oneCell'=true) (v:Value) (n:Nat) (xs:List Value) (hown:w.ownsRow base e 1 v n xs) (k:Nat) (h0:0<k)
  (h63:n+k<=maxLen) (hbytes:(n+k)*bytes<=140737488355328) (hbase:base<=w.heap.size) :
  ∃v' w',(Builtin.append_ #[t,tn] ty #[v,.int kq k]).run P w = .ok v' w'/\w'.ownsRow base e 1 v' (n+k) (xs++List.replicate k z)/\w.grownBy w' v.ownBlock:=by
 subst hby;have hsmall:n+k<=9223372036854775807:=by simp only[maxLen]at h63;omega
 have hlen:(xs++List.replicate k z).length=(n+k)*1:=by rw[List.length_append,hown.1,List.length_replicate];omega
 have hkb:k*i.bytes<=281474976710656:=by
  have:k*i.bytes<=(n+k)*i.bytes:=Nat.mul_le_mul_right _ (by omega);omega
 have grown:∀(old:Nat),old<n+k->∀(row:Option Nat),
   (w.drew.alloc (.cells (xs.toArray++Builtin.zeroCells z.cells k++Builtin.zeroCells z.cells (grownCap w (n+k) old e-(n+k))) e)).ownsRow base e 1
    (.slice (some ⟨w.heap.size,0,none⟩) (n+k) (grownCap w (n+k) old e)) (n+k) (xs++List.replicate k z) /\
   w.grownBy (w.drew.alloc (.cells (xs.toArray++Builtin.zeroCells z.cells k++Builtin.zeroCells z.cells (grownCap w (n+k) old e-(n+k))) e)) row:=by
  intro old ho row;have hge:=grownCap_ge w (n+k) old e;have hcm:grownCap w (n+k) old e<=maxLen:=grownCap_le_maxLen w (n+k) old e h63;refine⟨⟨hlen,.inr ⟨w.heap.size,_,_,rfl,hbase,heap_alloc_new w.drew _,hge,hcm,?_,?_⟩⟩,⟨rfl,rfl,rfl,by simp,fun j hj _=>Below.heap_alloc w.drew _ j hj⟩⟩
  · have:=hown.1;simp only[Array.size_append,List.size_toArray,hzc,jF,List.length_replicate];omega
  · rw[hzc,jF,jF];simp only[Array.toList_append,List.append_assoc];rw[←List.append_assoc,←hlen];exact List.take_left
 rcases hown.2 with⟨rfl,rfl⟩|⟨g,cap,cur,rfl,hbg,hg,hnc,hcm,hcs,htake⟩
 · have hx:xs=[]:=List.eq_nil_of_length_eq_zero (by simpa using hown.1);subst hx;have hr:=run_append_grow_zeros (P:=P) w t tn ty e i z kq kn ht htn hi hz none 0 0 [] (run_firstCells_none w.drew i.size 0 0 0) k h0 (by omega) (by omega) (by omega) hkb (growslice_fits (by omega) (by simpa using hbytes));have hgr:=grown 0 (by omega) (Value.ownBlock (.slice none 0 0));exact⟨_,_,hr,hgr.1,hgr.2⟩
 ·
  by_cases hroom:n+k<=cap
  ·
   have hr:=jP (P:=P) w t tn ty e i z kq kn ht htn hi hz g n cap cur hg k h0 hs hzc h1 hroom (by omega) (by omega) hkb;refine⟨_,_,hr,⟨hlen,.inr ⟨g,cap,_,rfl,hbg,setRow_heap w g cur _ e _ hg,hroom,hcm,?_,?_⟩⟩,⟨rfl,rfl,rfl,by simp,fun k _ hk=>setRow_other w g k _ (fun e=>hk (by simp[Value.ownBlock,e]))⟩⟩
   · simp only[List.size_toArray,List.length_append,List.length_take,List.length_drop,Array.length_toList,List.length_replicate];omega
   ·
    have ht2:cur.toList.take n=xs:=by simpa using htake
    rw[ht2,←hlen];exact List.take_left
  · have holds:∀j u,xs[j]?=some u->w.drew.cell? ((⟨g,0,none⟩:Addr).add j)=some u:=hown.cells (g:=g) rfl;have hr:=run_append_grow_zeros (P:=P) w t tn ty e i z kq kn ht htn hi hz (some ⟨g,0,none⟩) n cap xs (run_firstCells_some (P:=P) w.drew i.size n ⟨g,0,none⟩ n cap xs (by rw[hs];exact hown.1) holds) k h0 (by omega) (by omega) (by omega) hkb (growslice_fits (by omega) hbytes);have hgr:=grown cap (by omega) (Value.ownBlock (.slice (some ⟨g,0,none⟩) n cap));exact⟨_,_,hr,hgr.1,hgr.2⟩
theorem gw{P:Program}(w:World){ops:Array Oper}{rest:List Oper}{o:Oper}{a:Act}{Q:Exit->Act->World->Prop}(hgd:o.guard=none)(s x:Operand)(t tn:TypeId)
  (ho:o.op = .call { callee:=.builtin .append,args:=#[s,x],argTypes:=#[t,tn] })
  (base:Nat) (e:TypeId) (i:TypeInfo) (z:Value) (bytes:Nat) (kq kn:IntKind) (ht:P.underlying t=some (.slice e)) (htn:P.underlying tn=some (.int kn)) (hi:P.info? e=some i) (hz:i.zero=some z)
  (hs1:i.size=1) (hby:i.bytes=bytes) (hzc:z.cells=#[z]) (h1:z.oneCell'=true) (v:Value) (n:Nat) (xs:List Value) (hs:a.eval s=v) (hown:w.ownsRow base e 1 v n xs) (k:Nat) (hx:a.eval x = .int kq (k:Int)) (h0:0<k)
  (h63:n+k<=maxLen) (hbytes:(n+k)*bytes<=140737488355328) (hbase:base<=w.heap.size)
  (h:∀v' w',w'.ownsRow base e 1 v' (n+k) (xs++List.replicate k z)->w.grownBy w' v.ownBlock->wpList P ops Q rest (a.put o.dst v') w'):wpList P ops Q (o :: rest) a w:=by
 obtain⟨v',w',hr,h2,h3⟩:=kG (P:=P) w base t tn o.type e i z bytes kq kn ht htn hi hz hs1 hby hzc h1 v n xs hown k h0 h63 hbytes hbase;refine wpList_plain hgd fun _ hK=>?_;unfold Oper.wp execOp;simp only[ho,resolve,invoke,builtin,Sem.run_bind,Sem.run_pure,Result.andThen_ok,List.map_toArray,List.map_cons,List.map_nil,hs,hx,hr];exact hK _ _ (h v' w' h2 h3)
end Go.Proofs.YtkpfkgoiaicgbaaGreatDoor
namespace Go.Proofs.YtkpfkgoiaicgbaaGreatDoor
open Go.RowKit
theorem Tryz.infoInt:(Tryz.prog.info? 3).map (fun i=>(i.zero,i.size,i.bytes))=some (some (.int .i64 0),1,8):=by kernel_rfl
theorem cz(l:List Int)(k:Nat)(h:k<l.length):l.take (k+1)=l.take k++[l.getD k 0]:=by
 rw[List.take_succ_eq_append_getElem h]
 congr 1
 simp[List.getD,h]
def bC(w:World)(a:Option Addr)(l:List Int):Prop:=
 0<l.length->∃g o,a=some ⟨g,o,none⟩/\g<w.heap.size/\∀i,i<l.length->w.cell? ⟨g,o+i,none⟩=some (.int .i64 (l.getD i 0))
theorem bC.below{w w':World}{a:Option Addr}{l:List Int}{B:Nat}(h:bC w a l)(hB:w.heap.size<=B)(hb:Below B w w'):bC w' a l:=by
 intro h0;obtain⟨g,o,e,hg,hc⟩:=h h0;exact⟨g,o,e,Nat.lt_of_lt_of_le hg hb.size,fun i hi=>by rw[←hc i hi];exact hb.cell (p:=⟨g,o+i,none⟩) (by show g<B;omega)⟩
theorem bC.later{w w':World}{a:Option Addr}{l:List Int}(h:bC w a l)(hb:Below w.heap.size w w'):bC w' a l:=h.below (Nat.le_refl _) hb
def ar(w:World)(base:Nat)(v:Value)(l:List Int):Prop:=w.ownsRow base 3 1 v l.length (l.map (Value.int .i64))
theorem ar.form{w:World}{base:Nat}{v:Value}{l:List Int}(h:ar w base v l):∃a cap,v = .slice a l.length cap:=by
 rcases h.2 with⟨e,h0⟩|⟨g,cap,_,e,_⟩
 · exact⟨none,0,by rw[e,h0]⟩
 · exact⟨_,cap,e⟩
theorem ar.row{w:World}{base:Nat}{a:Option Addr}{cap:Nat}{l:List Int}(h:ar w base (.slice a l.length cap) l):bC w a l:=by
 intro h0;rcases h.2 with⟨e,hn⟩|⟨g,cap',cur,e,hb,hg,_⟩
 · omega
 ·
  simp only[Value.slice.injEq]at e;obtain⟨rfl,_,rfl⟩:=e;refine⟨g,0,rfl,(Array.getElem?_eq_some_iff.1 hg).1,fun i hi=>?_⟩;have:=World.ownsRow.cells h (g:=g) rfl i (.int .i64 (l.getD i 0)) (by simp[List.getD,hi]);have hadd:(⟨g,0,none⟩:Addr).add i=⟨g,i,none⟩:=by unfold Addr.add;split<;>simp_all
  rw[hadd]at this;rw[Nat.zero_add];exact this
theorem ar.later{w w':World}{base B:Nat}{v:Value}{l:List Int}(h:ar w base v l)(hb:Below B w w')(hB:w.heap.size<=B):ar w' base v l:=by
 refine⟨h.1,?_⟩;rcases h.2 with hn|⟨g,cap,cur,rfl,hbg,hgg,rest⟩
 · exact .inl hn
 · refine .inr ⟨g,cap,cur,rfl,hbg,?_,rest⟩;have hg:=(Array.getElem?_eq_some_iff.1 hgg).1;rw[hb.block g (by omega)];exact hgg
theorem ar.lit(w:World)(base:Nat)(hb:base<=w.heap.size):ar (w.alloc (.cells #[] 3)) base (.slice (some ⟨w.heap.size,0,none⟩) 0 0) []:=
 World.ownsRow_lit w #[] 0 hb (by unfold maxLen;omega) rfl
theorem ar.nil(w:World)(base:Nat):ar w base (.slice none 0 0) []:=World.ownsRow_nil _ _ _ _
theorem ll{x:World}{base:Nat}{v:Value}{l:List Int}{a:Int}(h:x.ownsRow base 3 1 v (l.length+1) (l.map (Value.int .i64)++[.int .i64 a])):ar x base v (l++[a]):=by
 unfold ar;simpa using h
theorem ar.mono{w:World}{base base':Nat}{v:Value}{l:List Int}(h:ar w base v l)(hb:base'<=base):ar w base' v l:=by
 refine⟨h.1,?_⟩;rcases h.2 with hn|⟨g,cap,cur,rfl,hbg,rest⟩
 · exact .inl hn
 · exact .inr ⟨g,cap,cur,rfl,by omega,rest⟩
theorem aK{x y y':World}{o:Obj}{v:Value}{e:TypeId}{size n B base:Nat}{xs:List Value}(hg:(y.alloc o).grownBy y' v.ownBlock)(ho:y.ownsRow base e size v n xs)(hbb:B<=base)(hy:B<=y.heap.size)(hb:Below B x y):Below B x y':=
 (hb.alloc hy _).grown hg (by simp;omega) (fun j hj=>Nat.le_trans hbb (World.ownsRow.lt (ho.alloc o) j hj).1)
theorem ar.rowN{w:World}{base n:Nat}{a:Option Addr}{cap:Nat}{l:List Int}(hn:l.length=n)(h:ar w base (.slice a n cap) l):bC w a l:=by
 subst hn;exact h.row
theorem ar.formN{w:World}{base n:Nat}{v:Value}{l:List Int}(hn:l.length=n)(h:ar w base v l):∃a cap,v = .slice a n cap:=by
 subst hn;exact h.form
theorem ar.own{w:World}{base n:Nat}{v:Value}{l:List Int}(hn:l.length=n)(h:ar w base v l):w.ownsRow base 3 1 v n (l.map (Value.int .i64)):=by
 subst hn;exact h
theorem zM{x:World}{base n:Nat}{v:Value}{l:List Int}{a:Int}(hn:l.length=n)(h:x.ownsRow base 3 1 v (n+1) (l.map (Value.int .i64)++[.int .i64 a])):ar x base v (l++[a]):=by
 subst hn;exact ll h
theorem ar.put{w:World}{base g cap n j:Nat}{l:List Int}(hn:l.length=n)(h:ar w base (.slice (some ⟨g,0,none⟩) n cap) l)(x:Int) :
  ar (w.setCell ⟨g,j,none⟩ (.int .i64 x)) base (.slice (some ⟨g,0,none⟩) n cap) (l.set j x):=by
 subst hn;have:=World.ownsRow.stored h j (.int .i64 x);show World.ownsRow _ _ _ _ _ (l.set j x).length ((l.set j x).map (Value.int .i64));rw[List.length_set];have e:(l.set j x).map (Value.int .i64)=(l.map (Value.int .i64)).set j (.int .i64 x):=by simp[List.map_set]
 rw[e];exact this.1
theorem ar.at{w:World}{base g cap n j:Nat}{l:List Int}(hn:l.length=n)(h:ar w base (.slice (some ⟨g,0,none⟩) n cap) l)(hj:j<n) :
  w.cell? ⟨g,j,none⟩=some (.int .i64 (l.getD j 0))/\w.frozen? ⟨g,j,none⟩=false/\base<=g/\g<w.heap.size:=by
 subst hn;refine⟨?_,World.ownsRow.frozenAt h j,World.ownsRow.lt h g rfl⟩;rw[World.ownsRow.cellAt h j (by omega)];simp[hj,List.getD]
theorem ar.somes{w:World}{base cap n:Nat}{a:Option Addr}{l:List Int}(h:ar w base (.slice a n cap) l)(hl:0<l.length):∃g,a=some ⟨g,0,none⟩:=by
 rcases h.2 with⟨_,e⟩|⟨g,cap',cur,e,_⟩
 · omega
 · simp only[Value.slice.injEq]at e;exact⟨g,e.1⟩
theorem ar.below{w:World}{base cap n g:Nat}{l:List Int}(h:ar w base (.slice (some ⟨g,0,none⟩) n cap) l):base<=g/\g<w.heap.size:=World.ownsRow.lt h g rfl
def Touch(a:Option Addr)(w w':World):Prop:=w'.heap.size=w.heap.size/\∀j,(∀g,a=some ⟨g,0,none⟩->j≠g)->w'.heap[j]?=w.heap[j]?
theorem Touch.refl(a:Option Addr)(w:World):Touch a w w:=⟨rfl,fun _ _=>rfl⟩
theorem Touch.set{a:Option Addr}{w w':World}{g o:Nat}(h:Touch a w w')(ha:a=some ⟨g,0,none⟩)(u:Value):Touch a w (w'.setCell ⟨g,o,none⟩ u):=
 ⟨by simpa using h.1,fun j hj=>(Below.heap_setCell w' ⟨g,o,none⟩ u j (hj g ha)).trans (h.2 j hj)⟩
theorem ar.touch{w w':World}{a:Option Addr}{base:Nat}{v:Value}{l:List Int}(h:ar w base v l)(ht:Touch a w w')(hne:∀g,a=some ⟨g,0,none⟩->g<base):ar w' base v l:=by
 refine⟨h.1,?_⟩;rcases h.2 with hn|⟨g,cap,cur,rfl,hbg,hgg,rest⟩
 · exact .inl hn
 · refine .inr ⟨g,cap,cur,rfl,hbg,?_,rest⟩;rw[ht.2 g (fun g' e=>by have:=hne g' e;omega)];exact hgg
theorem su{w:World}{b1 b2 e1 e2 s1 s2 n1 n2:Nat}{v1 v2:Value}{x1 x2:List Value}(h1:w.ownsRow b1 e1 s1 v1 n1 x1)(h2:w.ownsRow b2 e2 s2 v2 n2 x2)(he:e1≠e2):v1.ownBlock=none∨v1.ownBlock≠v2.ownBlock:=by
 rcases h1.2 with⟨rfl,_⟩|⟨g,cap,cur,rfl,_,hg,_⟩
 · exact .inl rfl
 ·
  refine .inr ?_;rcases h2.2 with⟨rfl,_⟩|⟨g',cap',cur',rfl,_,hg',_⟩
  · simp[Value.ownBlock]
  · simp only[Value.ownBlock,ne_eq,Option.some.injEq];rintro rfl;rw[hg]at hg';simp only[Option.some.injEq,Obj.cells.injEq]at hg';exact he hg'.2.1
theorem aB{B:Nat}{w:World}(h:B<=w.heap.size)(o:Obj):B<=(w.alloc o).heap.size:=by simp;omega
theorem fQ(W:World)(g:Nat)(hg:W.heap.size=g)(x:Value)(t:TypeId):∀(j:Nat) (u:Value),[x][j]?=some u->(W.alloc (.cells #[x] t)).cell? ((⟨g,0,none⟩:Addr).add j)=some u:=by
 subst hg;intro j u hj
 match j,hj with
 | 0,hj=>simp at hj;subst hj;simp[Addr.add]
theorem p6(x:Int):∀u∈[Value.int .i64 x],u.oneCell'=true:=by
 intro u hu;simp at hu;subst hu;rfl
theorem gE{w1:World}{base g n:Nat}(h:w1.ownsRow base 3 1 (.slice (some ⟨g,0,none⟩) n n) n (madeCells (Value.int .i64 0).cells (n*1)).toList):ar w1 base (.slice (some ⟨g,0,none⟩) n n) (List.replicate n 0):=by
 have e:(madeCells (Value.int .i64 0).cells (n*1)).toList=(List.replicate n (0:Int)).map (Value.int .i64):=by
  apply List.ext_getElem
  · simp[madeCells]
  · intro i h1 h2;simp[madeCells,Value.cells,Nat.mod_one]
 show World.ownsRow _ _ _ _ _ (List.replicate n (0:Int)).length _;rw[List.length_replicate,←e];exact h
theorem ar.setOther{w:World}{base g g' o n c:Nat}{l:List Int}(h:ar w base (.slice (some ⟨g,0,none⟩) n c) l)(hg:g'≠g)(u:Value):ar (w.setCell ⟨g',o,none⟩ u) base (.slice (some ⟨g,0,none⟩) n c) l:=by
 refine⟨h.1,?_⟩;rcases h.2 with hn|⟨g1,cap,cur,e,hbg,hgg,rest⟩
 · exact .inl hn
 · refine .inr ⟨g1,cap,cur,e,hbg,?_,rest⟩;simp only[Value.slice.injEq,Option.some.injEq,Addr.mk.injEq,and_true]at e;rw[Below.heap_setCell w ⟨g',o,none⟩ u g1 (by show g1≠g';omega)];exact hgg
theorem ar.under{w w':World}{base B g n c:Nat}{l:List Int}(h:ar w base (.slice (some ⟨g,0,none⟩) n c) l)(hb:Below B w w')(hg:g<B):ar w' base (.slice (some ⟨g,0,none⟩) n c) l:=by
 refine⟨h.1,?_⟩;rcases h.2 with hn|⟨g1,cap,cur,e,hbg,hgg,rest⟩
 · exact .inl hn
 · refine .inr ⟨g1,cap,cur,e,hbg,?_,rest⟩;simp only[Value.slice.injEq,Option.some.injEq,Addr.mk.injEq,and_true]at e;rw[hb.block g1 (by omega)];exact hgg
theorem ar.setUnder{w:World}{base b o:Nat}{v:Value}{l:List Int}(h:ar w base v l)(hb:b<base)(u:Value):ar (w.setCell ⟨b,o,none⟩ u) base v l:=
 ownsRow_setCell_below h (a:=⟨b,o,none⟩) hb u
section
variable {α : Type} {f : α → List Value} {c : Nat}
theorem cO(hf:∀x,(f x).length=c)(l:List α):(l.flatMap f).length=l.length*c:=by
 induction l with
 | nil=>simp
 | cons x l ih=>simp only[List.flatMap_cons,List.length_append,hf,ih,List.length_cons];rw[Nat.add_mul,Nat.one_mul,Nat.add_comm]
theorem flat_get(hf:∀x,(f x).length=c)(l:List α)(d:α)(i j:Nat)(hi:i<l.length)(hj:j<c):(l.flatMap f)[i*c+j]?=(f (l.getD i d))[j]?:=by
 induction l generalizing i with
 | nil=>simp at hi
 | cons x l ih=>
  simp only[List.flatMap_cons];cases i with
  | zero=>rw[Nat.zero_mul,Nat.zero_add,List.getElem?_append_left (by rw[hf];exact hj)];simp
  | succ i=>
   have hi':i<l.length:=by simpa using hi
   have e1:(i+1)*c+j=c+(i*c+j):=by rw[Nat.add_mul,Nat.one_mul];omega
   rw[List.getElem?_append_right (by rw[hf,e1];omega),hf,e1,Nat.add_sub_cancel_left,ih i hi'];simp
def setMany(w:World)(g:Nat):Nat->List Value->World
 | _,[]=>w
 | o,v :: vs=>setMany (w.setCell ⟨g,o,none⟩ v) g (o+1) vs
def rZ(xs:List Value):Nat->List Value->List Value
 | _,[]=>xs
 | o,v :: vs=>rZ (xs.set o v) (o+1) vs
theorem lC(vs xs:List Value)(o:Nat)(h:o+vs.length<=xs.length):rZ xs o vs=xs.take o++vs++xs.drop (o+vs.length):=by
 induction vs generalizing xs o with
 | nil=>simp[rZ]
 | cons v vs ih=>
  simp only[List.length_cons]at h;rw[rZ,ih _ _ (by rw[List.length_set];omega)];have e1:(xs.set o v).take (o+1)=xs.take o++[v]:=by
   rw[List.take_set];apply List.ext_getElem?;intro i;by_cases hi:i<o
   · simp[List.getElem?_set,List.getElem?_append,List.getElem?_take,hi];rw[if_neg (by omega),if_pos (by omega),if_pos (by omega)]
   ·
    by_cases he:i=o
    · subst he;simp[List.getElem?_set,List.getElem?_append,List.length_take];rw[if_pos (by omega),if_neg (by omega),show i-min i xs.length=0 by omega];rfl
    · rw[List.getElem?_eq_none (by simp;omega),List.getElem?_eq_none (by simp;omega)]
  have e2:(xs.set o v).drop (o+1+vs.length)=xs.drop (o+(vs.length+1)):=by
   rw[List.drop_set,if_pos (by omega)]
   congr 1;omega
  rw[e1,e2];simp
theorem Gd(hf:∀x,(f x).length=c)(l:List α)(j:Nat)(x:α)(hj:j<l.length):rZ (l.flatMap f) (j*c) (f x)=(l.set j x).flatMap f:=by
 have hle:j*c+c<=l.length*c:=by
  have:(j+1)*c<=l.length*c:=Nat.mul_le_mul_right c hj;rw[Nat.add_mul,Nat.one_mul]at this;exact this
 rw[lC _ _ _ (by rw[cO hf,hf];exact hle)];have hl:l=l.take j++l[j] :: l.drop (j+1):=by rw[List.getElem_cons_drop,List.take_append_drop]
 have hs:l.set j x=l.take j++x :: l.drop (j+1):=by rw[List.set_eq_take_append_cons_drop,if_pos hj]
 have hA:(List.flatMap f (l.take j)).length=j*c:=by rw[cO hf,List.length_take,Nat.min_eq_left (by omega)]
 rw[hs]
 conv=>lhs;rw[hl]
 simp only[List.flatMap_append,List.flatMap_cons];rw[List.take_append_of_le_length (by omega),List.take_of_length_le (by omega)];rw[←List.append_assoc,List.drop_append,List.drop_of_length_le (by simp only[List.length_append,hA,hf];omega)];simp only[List.length_append,hA,hf,Nat.sub_self,List.drop_zero,List.nil_append,List.append_assoc]
def be(T:TypeId)(c:Nat)(f:α->List Value)(w:World)(base:Nat)(v:Value)(l:List α):Prop:=w.ownsRow base T c v l.length (l.flatMap f)
variable {T : TypeId}
theorem be.form{w:World}{base:Nat}{v:Value}{l:List α}(h:be T c f w base v l):∃a cap,v = .slice a l.length cap/\l.length<=cap/\cap<=maxLen:=by
 rcases h.2 with⟨e,h0⟩|⟨g,cap,_,e,_,_,h1,h2,_⟩
 · exact⟨none,0,by rw[e,h0],by omega,Nat.zero_le _⟩
 · exact⟨_,cap,e,h1,h2⟩
theorem be.formN{w:World}{base n:Nat}{v:Value}{l:List α}(hn:l.length=n)(h:be T c f w base v l):∃a cap,v = .slice a n cap/\n<=cap/\cap<=maxLen:=by
 subst hn;exact h.form
theorem be.later{w w':World}{base B:Nat}{v:Value}{l:List α}(h:be T c f w base v l)(hb:Below B w w')(hB:w.heap.size<=B):be T c f w' base v l:=
 World.ownsRow.kept h (row:=none) ⟨hb.os,hb.tape,hb.output,hb.size,fun k hk _=>hb.block k (by omega)⟩ (by
  cases hv:v.ownBlock with
  | none=>exact .inl rfl
  | some k=>exact .inr (by simp))
theorem be.mono{w:World}{base base':Nat}{v:Value}{l:List α}(h:be T c f w base v l)(hb:base'<=base):be T c f w base' v l:=by
 refine⟨h.1,?_⟩;rcases h.2 with hn|⟨g,cap,cur,e,hbg,rest⟩
 · exact .inl hn
 · exact .inr ⟨g,cap,cur,e,Nat.le_trans hb hbg,rest⟩
theorem be.own{w:World}{base n:Nat}{v:Value}{l:List α}(hn:l.length=n)(h:be T c f w base v l):w.ownsRow base T c v n (l.flatMap f):=by
 subst hn;exact h
theorem be.somes{w:World}{base cap n:Nat}{a:Option Addr}{l:List α}(h:be T c f w base (.slice a n cap) l)(hl:0<l.length):∃g,a=some ⟨g,0,none⟩:=by
 rcases h.2 with⟨_,e⟩|⟨g,cap',cur,e,_⟩
 · omega
 · simp only[Value.slice.injEq]at e;exact⟨g,e.1⟩
theorem be.below{w:World}{base cap n g:Nat}{l:List α}(h:be T c f w base (.slice (some ⟨g,0,none⟩) n cap) l):base<=g/\g<w.heap.size:=World.ownsRow.lt h g rfl
theorem be.at(hf:∀x,(f x).length=c){w:World}{base g cap n:Nat}{l:List α}(d:α)(hn:l.length=n)(h:be T c f w base (.slice (some ⟨g,0,none⟩) n cap) l)(i j:Nat)(hi:i<n)(hj:j<c) :
  w.cell? ⟨g,i*c+j,none⟩=(f (l.getD i d))[j]?/\w.frozen? ⟨g,i*c+j,none⟩=false:=by
 subst hn;refine⟨?_,World.ownsRow.frozenAt h _⟩;rw[←flat_get hf l d i j hi hj];refine World.ownsRow.cellAt h _ ?_;have:(i+1)*c<=l.length*c:=Nat.mul_le_mul_right c hi;rw[Nat.add_mul,Nat.one_mul]at this;omega
theorem xQ{w:World}{base g cap n:Nat}{xs:List Value}(vs:List Value)(o:Nat)(h:w.ownsRow base T c (.slice (some ⟨g,0,none⟩) n cap) n xs):(setMany w g o vs).ownsRow base T c (.slice (some ⟨g,0,none⟩) n cap) n (rZ xs o vs):=by
 induction vs generalizing w o xs with
 | nil=>exact h
 | cons v vs ih=>exact ih (o+1) (World.ownsRow.stored h o v).1
theorem be.put(hf:∀x,(f x).length=c){w:World}{base g cap n:Nat}{l:List α}(hn:l.length=n)(h:be T c f w base (.slice (some ⟨g,0,none⟩) n cap) l)(j:Nat)(hj:j<n)(x:α) :
  be T c f (setMany w g (j*c) (f x)) base (.slice (some ⟨g,0,none⟩) n cap) (l.set j x):=by
 subst hn;have:=xQ (f x) (j*c) h;rw[Gd hf l j x hj]at this;show World.ownsRow _ _ _ _ _ (l.set j x).length _;rw[List.length_set];exact this
theorem be.nil(w:World)(base:Nat):be T c f w base (.slice none 0 0) []:=World.ownsRow_nil _ _ _ _
theorem be.snoc{x:World}{base n:Nat}{v:Value}{l:List α}{a:α}(hn:l.length=n)(h:x.ownsRow base T c v (n+1) (l.flatMap f++f a)):be T c f x base v (l++[a]):=by
 subst hn;show World.ownsRow _ _ _ _ _ (l++[a]).length _;simpa using h
theorem ez(l:List α)(d:α)(k:Nat)(h:k<l.length):l.take (k+1)=l.take k++[l.getD k d]:=by
 rw[List.take_succ_eq_append_getElem h]
 congr 2
 simp[List.getD,h]
end
end Go.Proofs.YtkpfkgoiaicgbaaGreatDoor
namespace Go.Proofs.YtkpfkgoiaicgbaaGreatDoor
open Go.RowKit Corb
def krN(b:Int):Nat:=if 0<b then p2 (15-b).toNat else 0
def kr(l:List Int):Nat:=(l.map krN).sum
def us(l:List Int):Nat:=(l.map (fun b=>if 0<b then 1 else 0)).sum
def inL(l:List Int):Bool:=l.all (fun b=>inB b 0 15)
def mL(l:List Int):Bool:=decide (kr l=32768) || (decide (us l=1)&&decide (kr l=16384))
def ap(l:List Int):Bool:=inL l&&decide (l.length<=300)&&mL l
theorem Bv(l:List Int)(k:Nat)(h:k<l.length):kr (l.take (k+1))=kr (l.take k)+krN (l.getD k 0):=by
 rw[cz l k h];simp[kr]
theorem qk(l:List Int)(k:Nat)(h:k<l.length):us (l.take (k+1))=us (l.take k)+(if 0<l.getD k 0 then 1 else 0):=by
 rw[cz l k h];simp[us]
theorem Gw(l:List Int)(k:Nat)(h:k<l.length):inL (l.take (k+1))=(inL (l.take k)&&inB (l.getD k 0) 0 15):=by
 rw[cz l k h];simp[inL]
theorem GB(b:Int):krN b<=32768:=by
 unfold krN
 split
 · have h2:2 ^ (15-b).toNat<=2 ^ 15:=Nat.pow_le_pow_right (by omega) (by omega);have h4:p2 (15-b).toNat=2 ^ (15-b).toNat:=rfl;omega
 · omega
theorem MG(l:List Int):kr l<=32768*l.length:=by
 induction l with
 | nil=>simp[kr]
 | cons b l ih=>
  have:=GB b;simp only[kr,List.map_cons,List.sum_cons,List.length_cons]at ih ⊢;omega
theorem sv(l:List Int):us l<=l.length:=by
 induction l with
 | nil=>simp[us]
 | cons b l ih=>
  simp only[us,List.map_cons,List.sum_cons,List.length_cons]at ih ⊢
  split<;>omega
theorem Br{l:List Int}{k:Nat}(h:k<l.length)(hn:inB (l.getD k 0) 0 15=false):inL l=false:=by
 rcases hb:inL l with _|_
 · rfl
 · have:=List.all_eq_true.1 hb (l.getD k 0) (by simp[List.getD,h]);rw[hn]at this;exact absurd this (by simp)
theorem tH{l:List Int}(h:inL l=false∨300<l.length):ap l=false:=by
 unfold ap;rcases h with h|h
 · simp[h]
 · rw[decide_eq_false (by omega)];simp
theorem zU{l:List Int}(h:inL l=true)(hl:l.length<=300):ap l=mL l:=by
 simp[ap,h,hl]
theorem sN(a:Option Addr)(cap n:Nat)(l:List Int)(w:World)(hn:l.length=n)(h:bC w a l)(hin:inL l=true)(hm:n<=300) :
  Calls Tryz.prog 229 #[.slice a n cap] w fun e w'=>e = .returned (.bool (mL l))/\w'=w:=by
 subst hn;have hmI:(l.length:Int)<=300:=by omega
 have Hm:=af hm;have Hin:=af hin;clear hm hin;go_enter Tryz.func229,Tryz.ntmps229;go_wp2_with fail
 go_loop [3,4,6,9] (fun u n _ i=>∃k:Nat,k<=l.length/\i = .int .i64 k/\u = .int .i64 (us (l.take k):Nat)/\n = .int .i64 (kr (l.take k):Nat)) (fun _ _ _ i=>l.length-(intOf i).toNat)
 case atStart=>exact⟨0,Nat.zero_le _,rfl,rfl,rfl⟩
 case round=>
  obtain⟨k,hk,rfl,rfl,rfl⟩:=hrel;have hkb:=MG (l.take k);have hub:=sv (l.take k);have hkl:(l.take k).length<=l.length:=by simp;omega
  have hkI:(kr (l.take k):Int)<=9830400:=by have:=ae Hm;omega
  have huI:(us (l.take k):Int)<=300:=by omega
  clear hkb hkl hub;by_cases hlt:k<l.length
  ·
   obtain⟨g,o,rfl,hg,hc⟩:=h (by omega);have c0:=hc k hlt;have hst:=af (Bv l k hlt);have hsu:=af (qk l k hlt);have hy:inB (l.getD k 0) 0 15=true:=by
    rcases hb:inB (l.getD k 0) 0 15 with _|_
    · have:=Br hlt hb;rw[ae Hin]at this;exact absurd this (by simp)
    · rfl
   clear hc hk h;generalize l.getD k 0=y at *
   generalize kr (l.take k)=u at *
   generalize us (l.take k)=q at *
   obtain⟨y0,y1⟩:=aD.1 hy;by_cases hp:0<y
   ·
    obtain⟨c,hc⟩:∃c:Nat,15-y=(c:Int):=⟨(15-y).toNat,by omega⟩;have hkn:Hid (krN y=p2 c):=by
     show krN y=p2 c;unfold krN;rw[if_pos hp,hc,Int.toNat_natCast]
    have hbd:=GB y;rw[ae hkn]at hbd;have hsu':Hid (us (l.take (k+1))=q+1):=by have:=ae hsu;rw[if_pos hp]at this;exact this
    have hp2:(1:Int)*2 ^ c=(p2 c:Int):=by rw[Int.one_mul,iP]
    have hp2':(2:Int) ^ c=(p2 c:Int):=(iP c).symm;generalize p2 c=PW at *
    have hbI:(PW:Int)<=32768:=by omega
    have hw1:IntKind.i64.wrap (15-y)=(c:Int):=by rw[hc];exact ee _ (by omega) (by omega)
    have hw2:IntKind.i64.wrap (PW:Int)=(PW:Int):=ee _ (by omega) (by omega);clear hbd;go_wp2
    go_round
    case rel=>exact⟨k+1,by omega,by go_num,by rw[ae hsu'];go_num,by rw[ae hst,ae hkn];go_num⟩
    case measure=>simp[intOf];omega
   ·
    have hkn:Hid (krN y=0):=if_neg hp;have hsu':Hid (us (l.take (k+1))=q):=by have:=ae hsu;rw[if_neg hp]at this;exact this
    go_wp2
    go_round
    case rel=>exact⟨k+1,by omega,by go_num,by rw[ae hsu'],by rw[ae hst,ae hkn];rfl⟩
    case measure=>simp[intOf];omega
  ·
   have hlk:l.take k=l:=List.take_of_length_le (by omega);rw[hlk]at hkI huI ⊢;have HW:Hid (mL l=(decide (kr l=32768) || (decide (us l=1)&&decide (kr l=16384)))):=rfl;clear h hlk;generalize kr l=K at *
   generalize us l=U at *
   by_cases h1:K=32768
   · subst h1;go_wp2;go_ret;exact⟨ak (by rw[ae HW];rfl),rfl⟩
   ·
    have g1:((K:Int) == 32768)=false:=by simp;omega
    by_cases h3:U=1
    ·
     subst h3;by_cases h2:K=16384
     · subst h2;go_wp2;go_ret;exact⟨ak (by rw[ae HW];rfl),rfl⟩
     ·
      have g2:((K:Int) == 16384)=false:=by simp;omega
      go_wp2;go_ret;exact⟨ak (by rw[ae HW];simp[h1,h2]),rfl⟩
    ·
     have g3:((U:Int) == 1)=false:=by simp;omega
     go_wp2;go_ret;exact⟨ak (by rw[ae HW];simp[h1,h3]),rfl⟩
theorem qO(a:Option Addr)(cap n:Nat)(l:List Int)(w:World)(hn:l.length=n)(h:bC w a l)(hm:n<=1048576) :
  Calls Tryz.prog 223 #[.slice a n cap] w fun e w'=>e = .returned (.bool (ap l))/\w'=w:=by
 subst hn;by_cases hlen:(l.length:Int)<=300
 ·
  clear hm;go_enter Tryz.func223,Tryz.ntmps223;go_wp2_with fail
  go_loopw [4,10] (fun _ i wr=>∃k:Nat,k<=l.length/\i = .int .i64 k/\inL (l.take k)=true/\wr=w) (fun _ i _=>l.length-(intOf i).toNat)
  case atStart=>exact⟨0,Nat.zero_le _,rfl,rfl,rfl⟩
  case round=>
   obtain⟨k,hk,rfl,hin,rfl⟩:=hrel;have Hin:=af hin;clear hin;by_cases hlt:k<l.length
   ·
    obtain⟨g,o,rfl,hg,hc⟩:=h (by omega);have c0:=hc k hlt;have hit:=af (Gw l k hlt);have hget:=af (fun hn=>Br hlt hn);clear hc hk h;generalize l.getD k 0=y at *
    cases hy:inB y 0 15
    ·
     have hno:=af (tH (Or.inl (ae hget hy)));rcases eC.1 hy with h0|h0
     · go_wp2;go_ret;exact⟨ak (ae hno).symm,rfl⟩
     ·
      have h1:¬ y<0:=by omega
      go_wp2;go_ret;exact⟨ak (ae hno).symm,rfl⟩
    ·
     obtain⟨y0,y1⟩:=aD.1 hy;have hit':Hid (inL (l.take (k+1))=true):=by show inL (l.take (k+1))=true;rw[ae hit,ae Hin,hy];rfl
     go_wp2;go_roundw
     case rel=>exact⟨k+1,by omega,by go_num,ae hit',by first|rfl|trivial⟩
     case measure=>simp[intOf];omega
   ·
    have hlk:l.take k=l:=List.take_of_length_le (by omega);have hin:inL l=true:=by have:=ae Hin;rw[hlk]at this;exact this
    have hres:=af (zU hin (by omega));have HU:=af (sN a cap l.length l wr rfl h hin (by omega));clear hlk hin h;go_wp2_with fail;refine(ae HU).mono ?_;rintro e x1 ⟨rfl,rfl⟩;go_wp2;go_ret;exact⟨ak (ae hres).symm,rfl⟩
 · have hno:=af (tH (l:=l) (Or.inr (by omega)));clear hm h;go_enter Tryz.func223,Tryz.ntmps223;go_wp2;go_ret;exact⟨ak (ae hno).symm,rfl⟩
def inn(l:List Int)(n:Int)(s:Nat×List Int):Nat->Nat×List Int
 | 0=>s
 | k+1=>if l.getD k 0=n then((inn l n s k).1+1,(inn l n s k).2.set k ((inn l n s k).1:Int))else inn l n s k
def bB(l:List Int):Nat->Nat×List Int
 | 0=>(0,List.replicate l.length 0)
 | N+1=>inn l ((N:Int)+1) (2*(bB l N).1,(bB l N).2) l.length
theorem uW(l:List Int)(n:Int)(s:Nat×List Int)(k:Nat):(inn l n s k).2.length=s.2.length:=by
 induction k with
 | zero=>rfl
 | succ k ih=>
  simp only[inn]
  split
  · simpa using ih
  · exact ih
theorem dc(l:List Int)(N:Nat):(bB l N).2.length=l.length:=by
 induction N with
 | zero=>simp[bB]
 | succ N ih=>simp only[bB];rw[uW];exact ih
theorem Gx(l:List Int)(n:Int)(s:Nat×List Int)(k:Nat):(inn l n s k).1<=s.1+k:=by
 induction k with
 | zero=>exact Nat.le_refl _
 | succ k ih=>
  simp only[inn]
  split
  · simp only;omega
  · omega
theorem KH(l:List Int)(N:Nat):(bB l N).1+l.length<=2 ^ N*l.length:=by
 induction N with
 | zero=>simp[bB]
 | succ N ih=>
  simp only[bB];have h:=Gx l ((N:Int)+1) (2*(bB l N).1,(bB l N).2) l.length;simp only at h;have e:2 ^ (N+1)*l.length=2*(2 ^ N*l.length):=by rw[Nat.pow_succ,Nat.mul_comm (2 ^ N),Nat.mul_assoc]
  omega
theorem BN(l:List Int)(N:Nat)(hN:N<=15)(hl:l.length<=300):(bB l N).1<=9830400:=by
 have h:=KH l N;have h2:2 ^ N<=2 ^ 15:=Nat.pow_le_pow_right (by omega) hN;have h3:2 ^ N*l.length<=32768*300:=Nat.mul_le_mul h2 hl;omega
def many(l:List Int)(n:Int):Nat->Nat
 | 0=>0
 | k+1=>if l.getD k 0=n then many l n k+1 else many l n k
def syms(l:List Int)(n:Int)(s:List Int):Nat->List Int
 | 0=>s
 | k+1=>if l.getD k 0=n then syms l n s k++[(k:Int)]else syms l n s k
def cF(l:List Int):Nat->List Int
 | 0=>[]
 | N+1=>syms l ((N:Int)+1) (cF l N) l.length
def fi(l:List Int)(N j:Nat):Nat:=if 1<=j/\j<=N then many l (j:Int) l.length else 0
def ef(w:World)(b:Nat)(vl vc vs:Value)(m:Nat->Nat):Prop:=
 w.cell? ⟨b,0,none⟩=some vl/\w.cell? ⟨b,1,none⟩=some vc/\(∀j,j<16->w.cell? ⟨b,2+j,none⟩=some (.int .i64 (m j:Nat)))/\w.cell? ⟨b,18,none⟩=some vs/\(∀o,w.frozen? ⟨b,o,none⟩=false)/\b<w.heap.size
theorem ef.kept{w w':World}{b:Nat}{vl vc vs:Value}{m:Nat->Nat}(h:ef w b vl vc vs m)(hb:Below (b+1) w w'):ef w' b vl vc vs m:=by
 obtain⟨c0,c1,c2,c3,f,hlt⟩:=h;have hs:=Nat.lt_succ_self b;exact⟨(hb.cell (p:=⟨b,0,none⟩) hs).trans c0,(hb.cell (p:=⟨b,1,none⟩) hs).trans c1,fun j hj=>(hb.cell (p:=⟨b,2+j,none⟩) hs).trans (c2 j hj),(hb.cell (p:=⟨b,18,none⟩) hs).trans c3,fun o=>(hb.frozen (p:=⟨b,o,none⟩) hs).trans (f o),Nat.lt_of_lt_of_le hlt hb.size⟩
theorem ef.other{w:World}{b g o:Nat}{vl vc vs:Value}{m:Nat->Nat}(h:ef w b vl vc vs m)(hg:g≠b)(u:Value):ef (w.setCell ⟨g,o,none⟩ u) b vl vc vs m:=by
 obtain⟨c0,c1,c2,c3,f,hlt⟩:=h;refine⟨?_,?_,fun j hj=>?_,?_,fun o=>by simpa using f o,by simpa using hlt⟩
 · rw[World.cell?_setCell_other _ _ _ _ (by simp only[ne_eq,Addr.mk.injEq];omega)];exact c0
 · rw[World.cell?_setCell_other _ _ _ _ (by simp only[ne_eq,Addr.mk.injEq];omega)];exact c1
 · rw[World.cell?_setCell_other _ _ _ _ (by simp only[ne_eq,Addr.mk.injEq];omega)];exact c2 j hj
 · rw[World.cell?_setCell_other _ _ _ _ (by simp only[ne_eq,Addr.mk.injEq];omega)];exact c3
theorem ef.many{w:World}{b i x:Nat}{vl vc vs:Value}{m:Nat->Nat}(h:ef w b vl vc vs m)(hi:i<16):ef (w.setCell ⟨b,2+i,none⟩ (.int .i64 (x:Nat))) b vl vc vs (fun j=>if j=i then x else m j):=by
 obtain⟨c0,c1,c2,c3,f,hlt⟩:=h;refine⟨?_,?_,fun j hj=>?_,?_,fun o=>by simpa using f o,by simpa using hlt⟩
 · rw[World.cell?_setCell_other _ _ _ _ (by simp only[ne_eq,Addr.mk.injEq];omega)];exact c0
 · rw[World.cell?_setCell_other _ _ _ _ (by simp only[ne_eq,Addr.mk.injEq];omega)];exact c1
 ·
  by_cases e:j=i
  · subst e;rw[World.cell?_setCell_same _ _ _ (c2 j hj)];simp
  · rw[World.cell?_setCell_other _ _ _ _ (by simp only[ne_eq,Addr.mk.injEq];omega)];simp only[if_neg e];exact c2 j hj
 · rw[World.cell?_setCell_other _ _ _ _ (by simp only[ne_eq,Addr.mk.injEq];omega)];exact c3
theorem ef.sorted{w:World}{b:Nat}{vl vc vs:Value}{m:Nat->Nat}(h:ef w b vl vc vs m)(u:Value):ef (w.setCell ⟨b,18,none⟩ u) b vl vc u m:=by
 obtain⟨c0,c1,c2,c3,f,hlt⟩:=h;refine⟨?_,?_,fun j hj=>?_,World.cell?_setCell_same _ _ _ c3,fun o=>by simpa using f o,by simpa using hlt⟩
 · rw[World.cell?_setCell_other _ _ _ _ (by simp only[ne_eq,Addr.mk.injEq];omega)];exact c0
 · rw[World.cell?_setCell_other _ _ _ _ (by simp only[ne_eq,Addr.mk.injEq];omega)];exact c1
 · rw[World.cell?_setCell_other _ _ _ _ (by simp only[ne_eq,Addr.mk.injEq];omega)];exact c2 j hj
theorem GW(l:List Int)(n:Int)(k:Nat):many l n k<=k:=by
 induction k with
 | zero=>exact Nat.le_refl _
 | succ k ih=>simp only[many];split<;>omega
theorem Aa(l:List Int)(N:Nat):(fun j=>if j=N+1 then many l ((N:Int)+1) l.length else fi l N j)=fi l (N+1):=by
 funext j
 unfold fi;by_cases e:j=N+1
 ·
  subst e;rw[if_pos rfl,if_pos ⟨by omega,by omega⟩]
  congr 1
 ·
  rw[if_neg e];by_cases h:1<=j/\j<=N
  · rw[if_pos h,if_pos ⟨h.1,by omega⟩]
  · rw[if_neg h,if_neg (by omega)]
theorem Ab(l:List Int)(N:Nat):(fun j=>if j=N+1 then many l ((N:Int)+1) 0 else fi l N j)=fi l N:=by
 funext j
 by_cases e:j=N+1
 · subst e;rw[if_pos rfl];unfold fi;rw[if_neg (by omega)];rfl
 · rw[if_neg e]
theorem ud(l:List Int)(n:Int)(s:List Int)(k:Nat):(syms l n s k).length<=s.length+k:=by
 induction k with
 | zero=>exact Nat.le_refl _
 | succ k ih=>
  simp only[syms]
  split
  · simp;omega
  · omega
theorem sf(l:List Int)(N:Nat):(cF l N).length<=N*l.length:=by
 induction N with
 | zero=>simp[cF]
 | succ N ih=>
  have:=ud l ((N:Int)+1) (cF l N) l.length;simp only[cF];rw[Nat.add_mul,Nat.one_mul];omega
def nx(l:List Int):Nat->Nat
 | 0=>0
 | N+1=>2*nx l N+many l ((N:Int)+1) l.length
def pl(l:List Int):Nat->Nat
 | 0=>0
 | N+1=>pl l N+many l ((N:Int)+1) l.length
theorem Bs(l:List Int)(n:Int)(s:Nat×List Int)(k:Nat):(inn l n s k).1=s.1+many l n k:=by
 induction k with
 | zero=>rfl
 | succ k ih=>
  simp only[inn,many]
  split
  · simp only[ih];omega
  · exact ih
theorem H9(l:List Int)(N:Nat):(bB l N).1=nx l N:=by
 induction N with
 | zero=>rfl
 | succ N ih=>simp only[bB,nx];rw[Bs,ih]
theorem Kh(l:List Int)(n:Int)(s:Nat×List Int)(k i:Nat)(hi:i<s.2.length):(inn l n s k).2.getD i 0=if i<k/\l.getD i 0=n then((s.1+many l n i:Nat):Int)else s.2.getD i 0:=by
 induction k with
 | zero=>simp[inn]
 | succ k ih=>
  simp only[inn]
  split
  case isTrue h=>
   by_cases e:i=k
   ·
    subst e;have hl:i<(inn l n s i).2.length:=by rw[uW];exact hi
    rw[if_pos ⟨Nat.lt_succ_self _,h⟩];simp only[List.getD,List.getElem?_set_self hl,Option.getD_some];rw[Bs]
   ·
    have e2:((inn l n s k).2.set k ((inn l n s k).1:Int)).getD i 0=(inn l n s k).2.getD i 0:=by
     simp only[List.getD];rw[List.getElem?_set_ne (Ne.symm e)]
    simp only;rw[e2,ih];by_cases h2:i<k
    · simp[h2,Nat.lt_succ_of_lt h2]
    · rw[if_neg (by omega),if_neg (by omega)]
  case isFalse h=>
   rw[ih];by_cases e:i=k
   · subst e;rw[if_neg (by omega),if_neg (fun hh=>h hh.2)]
   ·
    by_cases h2:i<k
    · simp[h2,Nat.lt_succ_of_lt h2]
    · rw[if_neg (by omega),if_neg (by omega)]
def dV(l:List Int)(i:Nat):Nat:=2*nx l ((l.getD i 0).toNat-1)+many l (l.getD i 0) i
theorem xL(l:List Int)(N i:Nat)(hi:i<l.length):(bB l N).2.getD i 0=if 1<=l.getD i 0/\l.getD i 0<=(N:Int)then(dV l i:Int)else 0:=by
 induction N with
 | zero=>
  rw[if_neg (by omega)];simp[bB,List.getD,hi]
 | succ N ih=>
  simp only[bB];rw[Kh _ _ _ _ _ (by simp only[dc];exact hi)];simp only;by_cases e:l.getD i 0=(N:Int)+1
  ·
   rw[if_pos ⟨hi,e⟩,if_pos ⟨by omega,by omega⟩,H9];unfold dV;rw[e];have:((N:Int)+1).toNat-1=N:=by omega
   rw[this]
  ·
   rw[if_neg (fun hh=>e hh.2),ih];by_cases h2:1<=l.getD i 0/\l.getD i 0<=(N:Int)
   · rw[if_pos h2,if_pos ⟨h2.1,by omega⟩]
   · rw[if_neg h2,if_neg (by omega)]
/-! Kraft's sum, by lengths. -/
def krU(N:Nat)(l:List Int):Nat:=(l.map (fun b=>if 0<b/\b<=(N:Int)then p2 (15-b).toNat else 0)).sum
theorem LS(N:Nat)(l:List Int):krU N l<=kr l:=by
 induction l with
 | nil=>exact Nat.le_refl _
 | cons b l ih=>
  simp only[krU,kr,krN,List.map_cons,List.sum_cons]at ih ⊢
  split<;>split<;>omega
theorem DN(b:Int)(l:List Int)(n:Int)(k:Nat):many (b :: l) n (k+1)=(if b=n then 1 else 0)+many l n k:=by
 induction k with
 | zero=>simp[many]
 | succ k ih=>
  have e:many (b :: l) n (k+1+1)=if (b :: l).getD (k+1) 0=n then many (b :: l) n (k+1)+1 else many (b :: l) n (k+1):=rfl
  have e2:(b :: l).getD (k+1) 0=l.getD k 0:=by simp[List.getD]
  rw[e,e2,ih];simp only[many]
  split<;>split<;>omega
theorem GC(N:Nat)(hN:N<15)(l:List Int):krU (N+1) l=krU N l+many l ((N:Int)+1) l.length*p2 (14-N):=by
 induction l with
 | nil=>simp[krU,many]
 | cons b l ih=>
  rw[List.length_cons,DN,Nat.add_mul];simp only[krU,List.map_cons,List.sum_cons]at ih ⊢;rw[ih];by_cases e:b=(N:Int)+1
  ·
   rw[if_pos (by omega),if_neg (by omega),if_pos e];have:(15-b).toNat=14-N:=by omega
   rw[this];omega
  ·
   rw[if_neg e];by_cases h:0<b/\b<=(N:Int)
   · rw[if_pos h,if_pos (by omega)];omega
   · rw[if_neg h,if_neg (by omega)];omega
theorem MK(l:List Int)(N:Nat)(hN:N<=15):nx l N*p2 (15-N)=krU N l:=by
 induction N with
 | zero=>
  have:krU 0 l=0:=by
   induction l with
   | nil=>rfl
   | cons b l ih=>
    simp only[krU,List.map_cons,List.sum_cons]at ih ⊢;rw[ih,if_neg (by omega)]
  rw[this];simp[nx]
 | succ N ih=>
  rw[GC N (by omega),←ih (by omega)];have e1:15-N=(14-N)+1:=by omega
  have e2:15-(N+1)=14-N:=by omega
  rw[e1,e2,jt];simp only[nx];rw[Nat.add_mul,Nat.mul_comm 2,Nat.mul_assoc,Nat.mul_comm 2]
theorem MH{l:List Int}(h:ap l=true):kr l<=32768:=by
 simp only[ap,mL,Bool.and_eq_true,Bool.or_eq_true,decide_eq_true_iff]at h;omega
theorem Lr{l:List Int}(h:ap l=true)(N:Nat)(hN:N<=15):nx l N<=p2 N:=by
 have h1:=MK l N hN;have h2:=LS N l;have h3:=MH h;have e:p2 N*p2 (15-N)=32768:=by
  unfold p2;rw[←Nat.pow_add];have:N+(15-N)=15:=by omega
  rw[this]
 have hp:=rK (15-N);exact Nat.le_of_mul_le_mul_right (by omega:nx l N*p2 (15-N)<=p2 N*p2 (15-N)) hp
theorem vg{l:List Int}{n:Int}{i:Nat}(hi:l.getD i 0=n):∀k,i<k->many l n i<many l n k:=by
 intro k hk;induction k with
 | zero=>omega
 | succ k ih=>
  by_cases e:i=k
  · subst e;simp only[many];rw[if_pos hi];omega
  ·
   have:=ih (by omega);simp only[many]
   split<;>omega
theorem kk{l:List Int}(h:inL l=true){i:Nat}(hi:i<l.length):0<=l.getD i 0/\l.getD i 0<=15:=by
 have:=List.all_eq_true.1 h (l.getD i 0) (by simp[List.getD,hi]);exact aD.1 this
theorem eD{l:List Int}(h:ap l=true):inL l=true:=by
 simp only[ap,Bool.and_eq_true]at h;exact h.1.1
theorem sY{l:List Int}(h:ap l=true){i:Nat}(hi:i<l.length)(hp:1<=l.getD i 0):dV l i<p2 (l.getD i 0).toNat/\dV l i<nx l (l.getD i 0).toNat:=by
 obtain⟨_,hb⟩:=kk (eD h) hi;obtain⟨n,hn⟩:∃n:Nat,l.getD i 0=(n:Int)+1:=⟨(l.getD i 0).toNat-1,by omega⟩;have hle:=Lr h (n+1) (by omega);have hm:=vg hn l.length hi;have e1:(l.getD i 0).toNat=n+1:=by omega
 unfold dV;rw[e1,hn];simp only[nx,Nat.add_sub_cancel]at hle ⊢;omega
theorem Cy{l:List Int}(h:ap l=true){i:Nat}(hi:i<l.length):(bB l 15).2.getD i 0=if 1<=l.getD i 0 then(dV l i:Int)else 0:=by
 rw[xL l 15 i hi];have:=(kk (eD h) hi).2;by_cases hp:1<=l.getD i 0
 · rw[if_pos hp,if_pos ⟨hp,by omega⟩]
 · rw[if_neg hp,if_neg (by omega)]
/-! Symbols in their order. -/
theorem nQ(l:List Int)(n:Int)(s:List Int)(k:Nat):(syms l n s k).length=s.length+many l n k:=by
 induction k with
 | zero=>rfl
 | succ k ih=>
  simp only[syms,many]
  split
  · simp[ih];omega
  · exact ih
theorem nP(l:List Int)(N:Nat):(cF l N).length=pl l N:=by
 induction N with
 | zero=>rfl
 | succ N ih=>simp only[cF,pl];rw[nQ,ih]
theorem I3(l:List Int)(n:Int)(s:List Int)(k j:Nat)(hj:j<s.length):(syms l n s k).getD j 0=s.getD j 0:=by
 induction k with
 | zero=>rfl
 | succ k ih=>
  simp only[syms]
  split
  ·
   have hl:j<(syms l n s k).length:=by rw[nQ];omega
   rw[←ih];simp only[List.getD];rw[List.getElem?_append_left hl]
  · exact ih
theorem I1(l:List Int)(n:Int)(s:List Int)(k i:Nat)(hi:i<k)(hn:l.getD i 0=n):(syms l n s k).getD (s.length+many l n i) 0=(i:Int):=by
 induction k with
 | zero=>omega
 | succ k ih=>
  simp only[syms];by_cases e:i=k
  · subst e;rw[if_pos hn];simp only[List.getD];rw[List.getElem?_append_right (by rw[nQ];omega),nQ];simp
  ·
   have hlt:=vg hn k (by omega)
   split
   ·
    have hl:s.length+many l n i<(syms l n s k).length:=by rw[nQ];omega
    rw[←ih (by omega)];simp only[List.getD];rw[List.getElem?_append_left hl]
   · exact ih (by omega)
theorem ub (l : List Int) (N n i : Nat) (hi : i < l.length) (hn : l.getD i 0 = (n : Int) + 1) (hN : n < N) : (cF l N).getD (pl l n + many l ((n : Int) + 1) i) 0 = (i : Int) := by
  induction N with
  | zero => omega
  | succ N ih =>
    by_cases e : n = N
    · subst e
      simp only [cF]
      rw [← nP]
      exact I1 l _ _ _ i hi hn
    · simp only [cF]
      have hlt := vg hn l.length hi
      have hmono : pl l (n + 1) ≤ pl l N := by
        have : ∀ a b, a ≤ b → pl l a ≤ pl l b := by
          intro a b hab
          induction b with
          | zero => have : a = 0 := by omega
                    rw [this]; exact Nat.le_refl _
          | succ b ihb =>
            by_cases e2 : a = b + 1
            · rw [e2]; exact Nat.le_refl _
            · have := ihb (by omega)
              simp only [pl]; omega
        exact this _ _ (by omega)
      have hp : pl l (n + 1) = pl l n + many l ((n : Int) + 1) l.length := rfl
      rw [I3 _ _ _ _ _ (by rw [nP]; omega)]
      exact ih (by omega)
theorem Ku(l:List Int)(n:Int)(k t:Nat)(h:t<many l n k):∃i,i<k/\l.getD i 0=n/\many l n i=t:=by
 induction k with
 | zero=>simp[many]at h
 | succ k ih=>
  simp only[many]at h
  split at h
  case isTrue hn=>
   by_cases e:t=many l n k
   · exact⟨k,Nat.lt_succ_self _,hn,e.symm⟩
   · obtain⟨i,hi,h1,h2⟩:=ih (by omega);exact⟨i,by omega,h1,h2⟩
  case isFalse=>
   obtain⟨i,hi,h1,h2⟩:=ih h;exact⟨i,by omega,h1,h2⟩
end Go.Proofs.YtkpfkgoiaicgbaaGreatDoor
namespace Go.Proofs.YtkpfkgoiaicgbaaGreatDoor
open Go.RowKit
def MD(i:Nat):Int:=if i<144 then 8 else if i<256 then 9 else if i<280 then 7 else 8
def dj(k:Nat):List Int:=(List.range k).map MD
theorem dH(k:Nat):(dj k).length=k:=by simp[dj]
def aV(t:TypeId)(w w':World):Prop:=∀(k:Nat) (c:Array Value) (f:Nat×Nat),w.heap[k]?=some (Obj.cells c t f)->w'.heap[k]?=some (Obj.cells c t f)
theorem aV.refl(t:TypeId)(w:World):aV t w w:=fun _ _ _ h=>h
theorem aV.trans{t:TypeId}{w w1 w2:World}(h:aV t w w1)(k:aV t w1 w2):aV t w w2:=fun j c f hj=>k j c f (h j c f hj)
theorem dm{w:World}{k:Nat}{o:Obj}(h:w.heap[k]?=some o):k<w.heap.size:=(Array.getElem?_eq_some_iff.1 h).1
theorem aV.below{t:TypeId}{w w':World}(h:Below w.heap.size w w'):aV t w w':=fun j _ _ hj=>(h.block j (dm hj)).trans hj
theorem aV.alloc{t:TypeId}{w w':World}(h:aV t w w')(o:Obj):aV t w (w'.alloc o):=fun j c f hj=>(Below.heap_alloc w' o j (dm (h j c f hj))).trans (h j c f hj)
theorem aV.drew{t:TypeId}{w w':World}(h:aV t w w'):aV t w w'.drew:=h
theorem aV.set{t t':TypeId}{w w':World}{g o:Nat}{c:Array Value}{f:Nat×Nat}(h:aV t w w')(hg:w'.heap[g]?=some (.cells c t' f))(hne:t≠t')(u:Value):aV t w (w'.setCell ⟨g,o,none⟩ u):=by
 intro j c' f' hj;have h1:=h j c' f' hj;rw[Below.heap_setCell w' ⟨g,o,none⟩ u j (by
  show j≠g;rintro rfl;rw[hg]at h1;simp only[Option.some.injEq,Obj.cells.injEq]at h1;exact hne h1.2.1.symm)]
 exact h1
theorem aV.own{t:TypeId}{w w':World}{base size n:Nat}{v:Value}{xs:List Value}(h:aV t w w')(ho:w.ownsRow base t size v n xs):w'.ownsRow base t size v n xs:=by
 refine⟨ho.1,?_⟩;rcases ho.2 with hn|⟨g,cap,cur,rfl,hbg,hgg,rest⟩
 · exact .inl hn
 · exact .inr ⟨g,cap,cur,rfl,hbg,h g _ _ hgg,rest⟩
theorem Ea{w:World}{base size n g cap:Nat}{e:TypeId}{a:Addr}{xs:List Value}(h:w.ownsRow base e size (.slice (some a) n cap) n xs)(ha:a=⟨g,0,none⟩):∃c,w.heap[g]?=some (.cells c e):=by
 subst ha;rcases h.2 with⟨hn,_⟩|⟨g',cap',cur,e',_,hgg,_⟩
 · cases hn
 · simp only[Value.slice.injEq,Option.some.injEq,Addr.mk.injEq,and_true]at e';obtain⟨rfl,_,_⟩:=e';exact⟨_,hgg⟩
theorem aV.touch{t t':TypeId}{w w':World}{g:Nat}{c:Array Value}{f:Nat×Nat}(hg:w.heap[g]?=some (.cells c t' f))(hne:t≠t')(ht:Touch (some ⟨g,0,none⟩) w w'):aV t w w':=by
 intro j c' f' hj;rw[ht.2 j (fun g' e=>by
  simp only[Option.some.injEq,Addr.mk.injEq,and_true]at e;subst e;rintro rfl;rw[hg]at hj;simp only[Option.some.injEq,Obj.cells.injEq]at hj;exact hne hj.2.1.symm)]
 exact hj
theorem aV.grown{t t':TypeId}{w w1 w2:World}{base size n:Nat}{v:Value}{xs:List Value}(h:aV t w w1)(ho:w1.ownsRow base t' size v n xs)(hne:t≠t')(hg:w1.grownBy w2 v.ownBlock):aV t w w2:=by
 intro j c f hj;have h1:=h j c f hj;rw[hg.block j (dm h1) (by
  intro e;rcases ho.2 with⟨rfl,_⟩|⟨g,cap,cur,rfl,_,hgg,_⟩
  · cases e
  · simp only[Value.ownBlock,Option.some.injEq]at e;subst e;rw[hgg]at h1;simp only[Option.some.injEq,Obj.cells.injEq]at h1;exact hne h1.2.1.symm)]
 exact h1
theorem wQ{w:World}{b:Nat}{x y z:Value}{t:TypeId}(h:w.heap[b]?=some (Obj.cells #[x,y,z] t)):w.cell? ⟨b,0,none⟩=some x/\w.cell? ⟨b,1,none⟩=some y/\w.cell? ⟨b,2,none⟩=some z/\b<w.heap.size:=
 ⟨by simp[World.cell?,h],by simp[World.cell?,h],by simp[World.cell?,h],(Array.getElem?_eq_some_iff.1 h).1⟩
theorem ci{w:World}{b:Nat}{x y:Value}{t:TypeId}(h:w.heap[b]?=some (Obj.cells #[x,y] t)):w.cell? ⟨b,0,none⟩=some x/\w.cell? ⟨b,1,none⟩=some y/\b<w.heap.size:=
 ⟨by simp[World.cell?,h],by simp[World.cell?,h],(Array.getElem?_eq_some_iff.1 h).1⟩
theorem alloc_at(w:World)(o:Obj):(w.alloc o).heap[w.heap.size]?=some o:=Array.getElem?_push_size
def fnd(L G num:Nat):Nat->Nat
 | 0=>0
 | k+1=>if num<(stF L G (k+1)).1 then fnd L G num k else k+1
theorem iL(L G num k:Nat):fnd L G num k<=k:=by
 induction k with
 | zero=>exact Nat.le_refl _
 | succ k ih=>simp only[fnd];split<;>omega
theorem Ge{L G num k:Nat}(h:num<(stF L G (k+1)).1):fnd L G num (k+1)=fnd L G num k:=by simp only[fnd];rw[if_pos h]
theorem Gf{L G num k:Nat}(h:¬ num<(stF L G k).1):fnd L G num k=k:=by
 cases k with
 | zero=>rfl
 | succ k=>simp only[fnd];rw[if_neg h]
theorem vt{L G k:Nat}(hL:L<=3)(hG:1<=G)(hG4:G<=4)(hk:k/G<=15):(stF L G k).1<=200000/\(stF L G k).2<=14:=by
 unfold stF
 split
 · simp only;omega
 ·
  have h1:p2 (k/G-1)<=p2 14:=Nat.pow_le_pow_right (by omega) (by omega);have h2:p2 14=16384:=by decide
  have h3:(G+k%G)*p2 (k/G-1)<=8*16384:=Nat.mul_le_mul (by have:=Nat.mod_lt k hG;omega) (by omega);simp only;omega
theorem oy{w:World}{b:Nat}{x y:Value}{t:TypeId}(h:w.heap[b]?=some (Obj.cells #[x,y] t))(u v:Value):((w.setCell ⟨b,0,none⟩ u).setCell ⟨b,1,none⟩ v).heap[b]?=some (Obj.cells #[u,v] t):=by
 have h1:(w.setCell ⟨b,0,none⟩ u).heap[b]?=some (Obj.cells #[u,y] t):=by
  show(w.heap.modify b _)[b]?=_;rw[Array.getElem?_modify,if_pos rfl,h];simp
 generalize w.setCell ⟨b,0,none⟩ u=W at *
 show(W.heap.modify b _)[b]?=_;rw[Array.getElem?_modify,if_pos rfl,h1];simp
theorem lm{w:World}{b:Nat}{x y:Value}{t:TypeId}(h:w.heap[b]?=some (Obj.cells #[x,y] t)):w.frozen? ⟨b,0,none⟩=false/\w.frozen? ⟨b,1,none⟩=false:=⟨by simp[World.frozen?,h],by simp[World.frozen?,h]⟩
set_option maxRecDepth 100000 in
theorem wm(L G M num:Nat)(w:World)(hL:L<=3)(hG:1<=G)(hG4:G<=4)(hM1:1<=M)(hM:M<=30)(hMG:(M-1)/G<=15)(hn0:L<=num)(hn:num<=1000) :
  Calls Tryz.prog 191 #[.agg #[.int .i64 (L:Nat),.int .i64 (G:Nat),.int .i64 (M:Nat)],.int .i64 (num:Nat)] w fun e w'=>e = .returned (.tuple #[.int .i64 (fnd L G num (M-1):Nat),.agg #[.int .i64 ((num:Int)-((stF L G (fnd L G num (M-1))).1:Int)),.int .i64 ((stF L G (fnd L G num (M-1))).2:Nat)]])/\Below w.heap.size w w':=by
 obtain⟨q,hq⟩:∃q,M-1=q:=⟨_,rfl⟩;have hqI:(M:Int)-1=(q:Int):=by omega
 have hMI:(M:Int)<=30:=by omega
 have hnI:(num:Int)<=1000:=by omega
 rw[hq]at hMG ⊢;have HS:=af (fun k (hk:k<=q) W=>yl L G M k W hL hG hG4 (Nat.le_trans (Nat.div_le_div_right hk) hMG) (by omega));have HB:=af (fun k (hk:k<=q)=>vt (L:=L) (G:=G) (k:=k) hL hG hG4 (Nat.le_trans (Nat.div_le_div_right hk) hMG));have H0:Hid ((stF L G 0).1=L):=by show _=_;unfold stF;rw[if_pos (by omega)];simp
 have HN:=af hn0;have hbx:Hid (((w.alloc (.cells #[.int .i64 (L:Nat),.int .i64 (G:Nat),.int .i64 (M:Nat)] 294)).alloc (.cells #[.int .i64 0,.int .i64 0] 180)).heap[w.heap.size]?=some (Obj.cells #[.int .i64 (L:Nat),.int .i64 (G:Nat),.int .i64 (M:Nat)] 294)):=(Below.heap_alloc _ _ _ (by simp)).trans (alloc_at _ _);have hby:Hid (((w.alloc (.cells #[.int .i64 (L:Nat),.int .i64 (G:Nat),.int .i64 (M:Nat)] 294)).alloc (.cells #[.int .i64 0,.int .i64 0] 180)).heap[w.heap.size+1]?=some (Obj.cells #[.int .i64 0,.int .i64 0] 180)):=by
  have e:(w.alloc (.cells #[.int .i64 (L:Nat),.int .i64 (G:Nat),.int .i64 (M:Nat)] 294)).heap.size=w.heap.size+1:=by simp
  have:=alloc_at (w.alloc (.cells #[.int .i64 (L:Nat),.int .i64 (G:Nat),.int .i64 (M:Nat)] 294)) (.cells #[.int .i64 0,.int .i64 0] 180);rw[e]at this;exact this
 have hB0:Hid (Below w.heap.size w ((w.alloc (.cells #[.int .i64 (L:Nat),.int .i64 (G:Nat),.int .i64 (M:Nat)] 294)).alloc (.cells #[.int .i64 0,.int .i64 0] 180))):=((Below.refl _ w).alloc (Nat.le_refl _) _).alloc (by simp) _;clear hL hG hG4 hM1 hM hMG hn0 hn hq;go_enter Tryz.func191,Tryz.ntmps191;go_wp2_with fail;refine(ae HS q (Nat.le_refl _) _).mono ?_;rintro e x1 ⟨rfl,hb1⟩;have hbx1:Hid (x1.heap[w.heap.size]?=some (Obj.cells #[.int .i64 (L:Nat),.int .i64 (G:Nat),.int .i64 (M:Nat)] 294)):=(hb1.block _ (dm (ae hbx))).trans (ae hbx);have hby1:Hid (x1.heap[w.heap.size+1]?=some (Obj.cells #[.int .i64 0,.int .i64 0] 180)):=(hb1.block _ (dm (ae hby))).trans (ae hby);have hB1:=af (aj (ae hB0) hb1);clear hb1;go_wp2_with fail
 go_loopw [6,7,8] (fun s f b wr=>∃k:Nat,k<=q/\s = .int .i64 k/\f = .int .i64 ((stF L G k).1:Nat)/\b = .int .i64 ((stF L G k).2:Nat)/\fnd L G num q=fnd L G num k/\Below x1.heap.size x1 wr) (fun s _ _ _=>(intOf s).toNat)
 case atStart=>exact⟨q,Nat.le_refl _,rfl,rfl,rfl,rfl,Below.refl _ _⟩
 case round=>
  obtain⟨k,hk,rfl,rfl,rfl,hf,hbel⟩:=hrel;have HF:=af hf;obtain⟨hb1,hb2⟩:=ae HB k hk;have hbx2:=(hbel.block _ (dm (ae hbx1))).trans (ae hbx1);have hby2:=(hbel.block _ (dm (ae hby1))).trans (ae hby1);obtain⟨c0,c1,c2,_⟩:=wQ hbx2;obtain⟨d0,d1,_⟩:=ci hby2;obtain⟨f0,f1⟩:=lm hby2;have hBw:=af (aj (ae hB1) hbel);clear hf;by_cases hlt:num<(stF L G k).1
  ·
   obtain⟨j,rfl⟩:∃j,k=j+1:=by
    cases k with
    | zero=>rw[ae H0]at hlt;have:=ae HN;omega
    | succ j=>exact⟨j,rfl⟩
   have hnx:=af (Ge hlt);have hltI:(num:Int)<((stF L G (j+1)).1:Int):=by omega
   have hj:j<=q:=by omega
   have HJ:=af (ae HS j hj);obtain⟨u,hu⟩:∃u:Nat,j+1=u:=⟨_,rfl⟩;have huI:(u:Int)-1=(j:Int):=by omega
   rw[hu]at hltI hnx HF hb1 hb2 ⊢;generalize stF L G u=E at *
   obtain⟨E1,E2⟩:=E;simp only at hltI hb1 hb2 ⊢;have hu31:(u:Int)<=31:=by omega
   clear hlt hu hb1 hb2 hk;go_wp2_with fail;refine(ae HJ _).mono ?_;rintro e x2 ⟨rfl,hb2⟩;go_wp2;go_roundw
   case rel=>exact⟨j,hj,by go_num,rfl,rfl,by rw[ae HF,ae hnx],aj hbel hb2⟩
   case measure=>simp[intOf];omega
  ·
   have hst:=af (Gf hlt);have hltI:((stF L G k).1:Int)<=(num:Int):=by omega
   have HFk:Hid (fnd L G num q=k):=by show _=_;rw[ae HF,ae hst]
   obtain⟨E1,E2,hE⟩:∃E1 E2,stF L G k=(E1,E2):=⟨_,_,rfl⟩;have HE:=af hE;rw[hE]at hltI hb1 hb2 ⊢;simp only at hltI hb1 hb2 ⊢;have hput:=af (oy hby2 (.int .i64 ((num:Int)-(E1:Int))) (.int .i64 (E2:Nat)));have hBf:Hid (Below w.heap.size w ((wr.setCell ⟨w.heap.size+1,0,none⟩ (.int .i64 ((num:Int)-(E1:Int)))).setCell ⟨w.heap.size+1,1,none⟩ (.int .i64 (E2:Nat)))):=((ae hBw).setCell (p:=⟨w.heap.size+1,0,none⟩) (Nat.le_succ _) _).setCell (p:=⟨w.heap.size+1,1,none⟩) (Nat.le_succ _) _;clear hlt hk HF hst hE hbx2 hby2;go_wp2;obtain⟨z0,z1,_⟩:=ci (ae hput);refine bodyPost_ret (v:=.tuple #[.int .i64 (k:Nat),.agg #[.int .i64 ((num:Int)-(E1:Int)),.int .i64 (E2:Nat)]]) (by simp[results,Tryz.results191,go_sem,z0,z1]) rfl ⟨?_,ae hBf⟩;rw[ae HFk,ae HE]
theorem lU(w:World) :
  Calls Tryz.prog 190 #[] w fun e w'=>e = .returned (.agg #[.int .i64 3,.int .i64 4,.int .i64 28])/\Below w.heap.size w w':=by
 go_enter Tryz.func190,Tryz.ntmps190;go_wp2;refine bodyPost_ret (v:=.agg #[.int .i64 3,.int .i64 4,.int .i64 28]) (by simp[results,Tryz.results190,go_sem]) rfl ⟨rfl,(Below.refl _ w).alloc (Nat.le_refl _) _⟩
theorem lP(w:World) :
  Calls Tryz.prog 192 #[] w fun e w'=>e = .returned (.agg #[.int .i64 1,.int .i64 2,.int .i64 30])/\Below w.heap.size w w':=by
 go_enter Tryz.func192,Tryz.ntmps192;go_wp2;refine bodyPost_ret (v:=.agg #[.int .i64 1,.int .i64 2,.int .i64 30]) (by simp[results,Tryz.results192,go_sem]) rfl ⟨rfl,(Below.refl _ w).alloc (Nat.le_refl _) _⟩
theorem uL(num:Nat)(w:World)(h0:3<=num)(h1:num<=60) :
  Calls Tryz.prog 191 #[.agg #[.int .i64 3,.int .i64 4,.int .i64 28],.int .i64 (num:Nat)] w fun e w'=>e = .returned (.tuple #[.int .i64 (fnd 3 4 num 27:Nat),.agg #[.int .i64 ((num:Int)-((stF 3 4 (fnd 3 4 num 27)).1:Int)),.int .i64 ((stF 3 4 (fnd 3 4 num 27)).2:Nat)]])/\Below w.heap.size w w':=
 wm 3 4 28 num w (by omega) (by omega) (by omega) (by omega) (by omega) (by decide) h0 (by omega)
theorem uK(num:Nat)(w:World)(h0:1<=num)(h1:num<=250) :
  Calls Tryz.prog 191 #[.agg #[.int .i64 1,.int .i64 2,.int .i64 30],.int .i64 (num:Nat)] w fun e w'=>e = .returned (.tuple #[.int .i64 (fnd 1 2 num 29:Nat),.agg #[.int .i64 ((num:Int)-((stF 1 2 (fnd 1 2 num 29)).1:Int)),.int .i64 ((stF 1 2 (fnd 1 2 num 29)).2:Nat)]])/\Below w.heap.size w w':=
 wm 1 2 30 num w (by omega) (by omega) (by omega) (by omega) (by omega) (by decide) h0 (by omega)
def rY(l:List ByteArray):List Value:=l.map Value.string
def cP(w:World)(base:Nat)(v:Value)(l:List ByteArray):Prop:=w.ownsRow base 9 1 v l.length (rY l)
theorem cP.form{w:World}{base:Nat}{v:Value}{l:List ByteArray}(h:cP w base v l):∃a cap,v = .slice a l.length cap:=by
 rcases h.2 with⟨e,h0⟩|⟨g,cap,_,e,_⟩
 · exact⟨none,0,by rw[e,h0]⟩
 · exact⟨_,cap,e⟩
theorem cP.formN{w:World}{base n:Nat}{v:Value}{l:List ByteArray}(hn:l.length=n)(h:cP w base v l):∃a cap,v = .slice a n cap:=by
 subst hn;exact h.form
theorem cP.own{w:World}{base n:Nat}{v:Value}{l:List ByteArray}(hn:l.length=n)(h:cP w base v l):w.ownsRow base 9 1 v n (rY l):=by
 subst hn;exact h
theorem cP.at{w:World}{base n:Nat}{a:Option Addr}{cap:Nat}{l:List ByteArray}(hn:l.length=n)(h:cP w base (.slice a n cap) l)(h0:0<n) :
  ∃g,a=some ⟨g,0,none⟩/\g<w.heap.size/\∀j,j<n->w.cell? ⟨g,j,none⟩=some (.string (l.getD j ByteArray.empty)):=by
 subst hn;rcases h.2 with⟨_,e⟩|⟨g,cap',cur,e,_⟩
 · omega
 · simp only[Value.slice.injEq]at e;obtain⟨rfl,_,rfl⟩:=e;refine⟨g,rfl,(World.ownsRow.lt h g rfl).2,fun j hj=>?_⟩;rw[World.ownsRow.cellAt h j (by omega)];simp[rY,hj,List.getD]
theorem cP.lit(w:World)(base:Nat)(hb:base<=w.heap.size):cP (w.alloc (.cells #[] 9)) base (.slice (some ⟨w.heap.size,0,none⟩) 0 0) []:=World.ownsRow_lit w #[] 0 hb (by unfold maxLen;omega) rfl
theorem i7{x:World}{base n:Nat}{v:Value}{l:List ByteArray}{b:ByteArray}(hn:l.length=n)(h:x.ownsRow base 9 1 v (n+1) (rY l++[.string b])):cP x base v (l++[b]):=by
 subst hn;show World.ownsRow _ _ _ _ _ (l++[b]).length _;simpa[rY]using h
theorem Tryz.infoStr:(Tryz.prog.info? 9).map (fun i=>(i.zero,i.size,i.bytes))=some (some (.string ByteArray.empty),1,16):=by kernel_rfl
theorem BM(x:ByteArray):∀u∈[Value.string x],u.oneCell'=true:=by
 intro u hu;simp at hu;subst hu;rfl
theorem zo(s:ByteArray)(w:World):∃(c:Nat) (x:World) (cs:Array Value) (f:Nat×Nat),(convert 9 22 (.string s)).run Tryz.prog w = .ok (.slice (some ⟨w.heap.size,0,none⟩) s.size c) x/\Below w.heap.size w x/\x.heap[w.heap.size]?=some (.cells cs 5 f)/\∀i (h:i<s.size),cs[i]?=some (.int .u8 (s[i].toNat:Int)):=by
 refine⟨_,_,bytesRow s (grownCap w s.size 0 5),((bytesRow s (grownCap w s.size 0 5)).size,(bytesRow s (grownCap w s.size 0 5)).size+1),run_bytes_of_string w _ _ _ s Tryz.underlying9 Tryz.underlying22 Tryz.underlying5,?_,?_,?_⟩
 · exact((Below.refl _ w).drew).alloc (by simp) _
 · exact Array.getElem?_push_size
 · intro i h;exact bytesRow_at s (grownCap w s.size 0 5) i h
theorem Et{w:World}{b i:Nat}{cs:Array Value}{t:TypeId}{f:Nat×Nat}{v:Value}(h:w.heap[b]?=some (.cells cs t f))(hc:cs[i]?=some v):w.cell? ⟨b,i,none⟩=some v:=by
 unfold World.cell?;rw[h];exact hc
def dU(l:List UInt8):List Value:=l.map fun x=>Value.int .u8 (x.toNat:Int)
def bH(w:World)(base:Nat)(v:Value)(l:List UInt8):Prop:=w.ownsRow base 5 1 v l.length (dU l)
theorem bH.form{w:World}{base:Nat}{v:Value}{l:List UInt8}(h:bH w base v l):∃a cap,v = .slice a l.length cap:=by
 rcases h.2 with⟨e,h0⟩|⟨g,cap,_,e,_⟩
 · exact⟨none,0,by rw[e,h0]⟩
 · exact⟨_,cap,e⟩
theorem bH.formN{w:World}{base n:Nat}{v:Value}{l:List UInt8}(hn:l.length=n)(h:bH w base v l):∃a cap,v = .slice a n cap:=by
 subst hn;exact h.form
theorem bH.own{w:World}{base n:Nat}{v:Value}{l:List UInt8}(hn:l.length=n)(h:bH w base v l):w.ownsRow base 5 1 v n (dU l):=by
 subst hn;exact h
theorem bH.later{w w':World}{base B:Nat}{v:Value}{l:List UInt8}(h:bH w base v l)(hb:Below B w w')(hB:w.heap.size<=B):bH w' base v l:=
 World.ownsRow.kept h (row:=none) ⟨hb.os,hb.tape,hb.output,hb.size,fun k hk _=>hb.block k (by omega)⟩ (by
  cases hv:v.ownBlock with
  | none=>exact .inl rfl
  | some k=>exact .inr (by simp))
theorem bH.mono{w:World}{base base':Nat}{v:Value}{l:List UInt8}(h:bH w base v l)(hb:base'<=base):bH w base' v l:=by
 refine⟨h.1,?_⟩;rcases h.2 with hn|⟨g,cap,cur,e,hbg,rest⟩
 · exact .inl hn
 · exact .inr ⟨g,cap,cur,e,Nat.le_trans hb hbg,rest⟩
theorem bH.somes{w:World}{base cap n:Nat}{a:Option Addr}{l:List UInt8}(h:bH w base (.slice a n cap) l)(hl:0<l.length):∃g,a=some ⟨g,0,none⟩:=by
 rcases h.2 with⟨_,e⟩|⟨g,cap',cur,e,_⟩
 · omega
 · simp only[Value.slice.injEq]at e;exact⟨g,e.1⟩
theorem bH.at{w:World}{base g cap n j:Nat}{l:List UInt8}(hn:l.length=n)(h:bH w base (.slice (some ⟨g,0,none⟩) n cap) l)(hj:j<n) :
  w.cell? ⟨g,j,none⟩=some (.int .u8 ((l.getD j 0).toNat:Int))/\base<=g/\g<w.heap.size:=by
 subst hn;refine⟨?_,World.ownsRow.lt h g rfl⟩;rw[World.ownsRow.cellAt h j (by omega)];simp[dU,hj,List.getD]
theorem bH.nil(w:World)(base:Nat):bH w base (.slice none 0 0) []:=World.ownsRow_nil _ _ _ _
theorem bH.lit(w:World)(base:Nat)(hb:base<=w.heap.size):bH (w.alloc (.cells #[] 5)) base (.slice (some ⟨w.heap.size,0,none⟩) 0 0) []:=World.ownsRow_lit w #[] 0 hb (by unfold maxLen;omega) rfl
theorem kW{x:World}{base n:Nat}{v:Value}{l:List UInt8}{b:UInt8}(hn:l.length=n)(h:x.ownsRow base 5 1 v (n+1) (dU l++[.int .u8 (b.toNat:Int)])):bH x base v (l++[b]):=by
 subst hn;show World.ownsRow _ _ _ _ _ (l++[b]).length _;simpa[dU]using h
theorem Tryz.infoU8:(Tryz.prog.info? 5).map (fun i=>(i.zero,i.size,i.bytes))=some (some (.int .u8 0),1,1):=by kernel_rfl
theorem one_byte(x:Int):∀u∈[Value.int .u8 x],u.oneCell'=true:=by
 intro u hu;simp at hu;subst hu;rfl
theorem bH.text{w:World}{base:Nat}{v:Value}{l:List UInt8}(h:bH w base v l) :
  (convert 22 9 v).run Tryz.prog w = .ok (.string ⟨l.toArray⟩) w:=by
 rcases h.2 with⟨e,h0⟩|⟨g,cap,cur,e,_⟩
 · have hl:l=[]:=List.eq_nil_of_length_eq_zero h0;subst hl;rw[e];rw[run_convert_bytes_string w _ _ _ none 0 0 Tryz.underlying22 Tryz.underlying5 Tryz.underlying9];rfl
 ·
  rw[e];exact run_convert_bytes_back w _ _ _ ⟨g,0,none⟩ cap l Tryz.underlying22 Tryz.underlying5 Tryz.underlying9 (fun j hj=>by
   have:=World.ownsRow.cells h (g:=g) (by rw[e];rfl) j (.int .u8 (l[j].toNat:Int)) (by simp[dU,hj]);exact this)
def l8(w:World)(a:Option Addr)(l:List (Int×Int)):Prop:=
 0<l.length->∃g o,a=some ⟨g,o,none⟩/\g<w.heap.size/\∀i,i<l.length->w.cell? ⟨g,o+i*2,none⟩=some (.int .i64 (l.getD i (0,0)).1)/\w.cell? ⟨g,o+i*2+1,none⟩=some (.int .i64 (l.getD i (0,0)).2)
theorem l8.later{w w':World}{a:Option Addr}{l:List (Int×Int)}(h:l8 w a l)(hb:Below w.heap.size w w'):l8 w' a l:=by
 intro h0;obtain⟨g,o,e,hlt,hc⟩:=h h0;refine⟨g,o,e,Nat.lt_of_lt_of_le hlt hb.size,fun i hi=>⟨?_,?_⟩⟩
 · exact(hb.cell (p:=⟨g,o+i*2,none⟩) hlt).trans (hc i hi).1
 · exact(hb.cell (p:=⟨g,o+i*2+1,none⟩) hlt).trans (hc i hi).2
def aL:List (Int×Int)->List Value
 | []=>[]
 | p :: l=>.int .i64 p.1 :: .int .i64 p.2 :: aL l
theorem jv(l:List (Int×Int)):(aL l).length=l.length*2:=by
 induction l with
 | nil=>rfl
 | cons p l ih=>simp only[aL,List.length_cons,ih];omega
theorem du(l m:List (Int×Int)):aL (l++m)=aL l++aL m:=by
 induction l with
 | nil=>rfl
 | cons p l ih=>simp[aL,ih]
theorem Ak(l:List (Int×Int))(i:Nat)(h:i<l.length):(aL l)[i*2]?=some (.int .i64 (l.getD i (0,0)).1)/\(aL l)[i*2+1]?=some (.int .i64 (l.getD i (0,0)).2):=by
 induction l generalizing i with
 | nil=>simp at h
 | cons p l ih=>
  cases i with
  | zero=>simp[aL]
  | succ i=>
   have:=ih i (by simpa using h);rw[show(i+1)*2=i*2+1+1 by omega];simpa[aL]using this
def Pcs(w:World)(base:Nat)(v:Value)(l:List (Int×Int)):Prop:=w.ownsRow base 180 2 v l.length (aL l)
theorem Pcs.form{w:World}{base:Nat}{v:Value}{l:List (Int×Int)}(h:Pcs w base v l):∃a cap,v = .slice a l.length cap:=by
 rcases h.2 with⟨e,h0⟩|⟨g,cap,_,e,_⟩
 · exact⟨none,0,by rw[e,h0]⟩
 · exact⟨_,cap,e⟩
theorem Pcs.row{w:World}{base:Nat}{a:Option Addr}{cap:Nat}{l:List (Int×Int)}(h:Pcs w base (.slice a l.length cap) l):l8 w a l:=by
 intro h0;rcases h.2 with⟨_,h1⟩|⟨g,cap',cur,e,hb,hg,hr⟩
 · omega
 · simp only[Value.slice.injEq]at e;obtain⟨rfl,_,rfl⟩:=e;refine⟨g,0,rfl,(Array.getElem?_eq_some_iff.1 hg).1,fun i hi=>?_⟩;have hp:=Ak l i hi;have c1:=World.ownsRow.cellAt h (i*2) (by omega);have c2:=World.ownsRow.cellAt h (i*2+1) (by omega);rw[Nat.zero_add];exact⟨c1.trans hp.1,c2.trans hp.2⟩
theorem Pcs.later{w w':World}{base B:Nat}{v:Value}{l:List (Int×Int)}(h:Pcs w base v l)(hb:Below B w w')(hB:w.heap.size<=B):Pcs w' base v l:=
 World.ownsRow.kept h (row:=none) ⟨hb.os,hb.tape,hb.output,hb.size,fun k hk _=>hb.block k (by omega)⟩ (by
  cases hv:v.ownBlock with
  | none=>exact .inl rfl
  | some k=>exact .inr (by simp))
theorem Tryz.infoPiece:(Tryz.prog.info? 180).map (fun i=>(i.zero,i.size,i.bytes))=some (some (.agg #[.int .i64 0,.int .i64 0]),2,16):=by kernel_rfl
theorem Pcs.news{w:World}{base g cap:Nat}{l:List (Int×Int)}(h:Pcs w base (.slice (some ⟨g,0,none⟩) l.length cap) l):∀j u,(aL l)[j]?=some u->w.cell? ((⟨g,0,none⟩:Addr).add j)=some u:=
 World.ownsRow.cells h rfl
theorem fH(l:List (Int×Int)):∀u∈aL l,u.oneCell'=true:=by
 induction l with
 | nil=>intro u hu;simp[aL]at hu
 | cons p l ih=>
  intro u hu;simp only[aL,List.mem_cons]at hu;rcases hu with rfl|rfl|hu
  · rfl
  · rfl
  · exact ih u hu
theorem kC{x:World}{base:Nat}{v:Value}{l:List (Int×Int)}{a b:Int}(h:x.ownsRow base 180 2 v (l.length+1) (aL l++[.int .i64 a,.int .i64 b])):Pcs x base v (l++[(a,b)]):=by
 show World.ownsRow _ _ _ _ _ (l++[(a,b)]).length _;rw[du];simpa[aL]using h
theorem Ek{x:World}{base n:Nat}{v:Value}{l:List (Int×Int)}{a b:Int}(hn:l.length=n)(h:x.ownsRow base 180 2 v (n+1) (aL l++[.int .i64 a,.int .i64 b])):Pcs x base v (l++[(a,b)]):=by
 subst hn;exact kC h
theorem Pcs.formN{w:World}{base n:Nat}{v:Value}{l:List (Int×Int)}(hn:l.length=n)(h:Pcs w base v l):∃a cap,v = .slice a n cap:=by
 subst hn;exact h.form
theorem Pcs.own{w:World}{base n:Nat}{v:Value}{l:List (Int×Int)}(hn:l.length=n)(h:Pcs w base v l):w.ownsRow base 180 2 v n (aL l):=by
 subst hn;exact h
theorem Pcs.rowN{w:World}{base n:Nat}{a:Option Addr}{cap:Nat}{l:List (Int×Int)}(hn:l.length=n)(h:Pcs w base (.slice a n cap) l):l8 w a l:=by
 subst hn;exact h.row
theorem Pcs.newsN{w:World}{base g cap n:Nat}{l:List (Int×Int)}(hn:l.length=n)(h:Pcs w base (.slice (some ⟨g,0,none⟩) n cap) l):∀j u,(aL l)[j]?=some u->w.cell? ((⟨g,0,none⟩:Addr).add j)=some u:=by
 subst hn;exact h.news
theorem qj(w:World)(x y:Value)(t:TypeId):∀(j:Nat) (u:Value),[x,y][j]?=some u->(w.alloc (.cells #[x,y] t)).cell? ((⟨w.heap.size,0,none⟩:Addr).add j)=some u:=by
 intro j u hj
 match j,hj with
 | 0,hj=>simp at hj;subst hj;simp[Addr.add]
 | 1,hj=>simp at hj;subst hj;simp[Addr.add]
theorem qi(x y:Int):∀u∈[Value.int .i64 x,Value.int .i64 y],u.oneCell'=true:=by
 intro u hu;simp at hu;rcases hu with rfl|rfl<;>rfl
end Go.Proofs.YtkpfkgoiaicgbaaGreatDoor
namespace Go.Proofs.YtkpfkgoiaicgbaaGreatDoor
open Go.RowKit Corb
def aN(l:List (Int×Int)):Bool:=l.all (fun p=>pOk p.1 p.2)
theorem y9(l:List (Int×Int))(k:Nat)(h:k<l.length):aN (l.take (k+1))=(aN (l.take k)&&pOk (l.getD k (0,0)).1 (l.getD k (0,0)).2):=by
 rw[List.take_succ_eq_append_getElem h,aN,List.all_append]
 congr 1
 simp[List.getD,h]
theorem sD{l:List (Int×Int)}{k:Nat}(h:aN (l.take k)=false):aN l=false:=by
 rw[←Bool.not_eq_true]at h ⊢;intro h2;apply h;simp only[aN,List.all_eq_true]at h2 ⊢;intro x hx;exact h2 x (List.mem_of_mem_take hx)
def bp(l:List (Int×Int)):Int:=(l.map (·.2)).sum
def lOk(l:List (Int×Int)):Bool:=aN l&&decide (l.length<=4000)
def nr(l:List (Int×Int)):Int:=if lOk l=true then bp l else -1
theorem tJ{l:List (Int×Int)}(h:lOk l=true):nr l=bp l:=if_pos h
theorem rq{l:List (Int×Int)}(h:lOk l=false):nr l = -1:=if_neg (by simp[h])
theorem I0(l:List (Int×Int))(k:Nat)(h:k<l.length):bp (l.take (k+1))=bp (l.take k)+(l.getD k (0,0)).2:=by
 rw[List.take_succ_eq_append_getElem h,bp,List.map_append,List.sum_append];simp[bp,List.getD,h]
theorem Ay{l:List (Int×Int)}(h:aN l=true):0<=bp l/\bp l<=16*(l.length:Int):=by
 induction l with
 | nil=>simp[bp]
 | cons p l ih=>
  simp only[aN,List.all_cons,Bool.and_eq_true]at h;have h1:=aW.1 h.1;have h2:=ih h.2;simp only[bp,List.map_cons,List.sum_cons,List.length_cons]at h2 ⊢;omega
theorem Ci{l:List (Int×Int)}(h:aN l=true)(k:Nat)(hk:k<l.length):pOk (l.getD k (0,0)).1 (l.getD k (0,0)).2=true:=by
 simp only[aN,List.all_eq_true]at h;have e:l.getD k (0,0)=l[k]:=by simp[List.getD,hk]
 rw[e];exact h _ (List.getElem_mem hk)
theorem jI{l:List (Int×Int)}(h:aN l=true)(k:Nat):aN (l.take k)=true:=by
 simp only[aN,List.all_eq_true]at h ⊢;exact fun x hx=>h x (List.mem_of_mem_take hx)
theorem fE(a:Option Addr)(cap:Nat)(l:List (Int×Int))(w:World)(h:l8 w a l)(hm:l.length<=1000000000) :
  Calls Tryz.prog 148 #[.slice a l.length cap] w fun e w'=>e = .returned (.int .i64 (nr l))/\Below w.heap.size w w':=by
 by_cases h4:(l.length:Int)<=4000
 ·
  go_enter Tryz.func148,Tryz.ntmps148;go_wp2_with fail
  go_loopw [3,5,11] (fun n _ i wr=>∃k:Nat,k<=l.length/\i = .int .i64 k/\n = .int .i64 (bp (l.take k))/\aN (l.take k)=true/\Below w.heap.size w wr) (fun _ _ i _=>l.length-(intOf i).toNat)
  case atStart=>exact⟨0,Nat.zero_le _,rfl,rfl,rfl,Below.refl _ _⟩
  case round=>
   obtain⟨k,hk,rfl,rfl,hall,hbel⟩:=hrel;obtain⟨s0,s1⟩:=Ay hall;have s2:((l.take k).length:Int)<=4000:=by simp;omega
   have s3:bp (l.take k)<=64000:=by omega
   by_cases hlt:k<l.length
   ·
    obtain⟨g,o,rfl,hg,hc⟩:=(h.later hbel) (by omega);obtain⟨c0,c1⟩:=hc k hlt;have hs:=af (I0 l k hlt);have ha:=af (y9 l k hlt);have hall':=af hall;clear hc h hall s1 s2;generalize (l.getD k (0,0)).1=x at *
    generalize (l.getD k (0,0)).2=y at *
    cases hp:pOk x y
    ·
     have HF:Hid (nr l = -1):=rq (by
      have:aN l=false:=sD (k:=k+1) (by rw[ae ha,hp];simp);simp[lOk,this])
     generalize bp (l.take k)=S at *
     go_wp2_with (go_at_call 179;refine(iy _ _ _).mono ?_;rintro e w1 ⟨rfl,hb1⟩);go_ret;exact⟨aR (ae HF).symm,(hbel.alloc hbel.size _).trans (hb1.mono (by have:=hbel.size;simp;omega))⟩
    ·
     obtain⟨⟨y0,y1⟩,_⟩:=aW.1 hp;generalize bp (l.take k)=S at *
     go_wp2_with (go_at_call 179;refine(iy _ _ _).mono ?_;rintro e w1 ⟨rfl,hb1⟩;have cy:w1.cell? ⟨wr.heap.size,1,none⟩=some (.int .i64 y):=(hb1.cell (p:=⟨wr.heap.size,1,none⟩) (by simp)).trans (by simp));go_roundw
     case rel=>exact⟨k+1,by omega,by go_num,by rw[ae hs],by rw[ae ha,ae hall',hp];rfl,(hbel.alloc hbel.size _).trans (hb1.mono (by have:=hbel.size;simp;omega))⟩
     case measure=>simp[intOf];omega
   ·
    have HE:Hid (nr l=bp (l.take k)):=by
     rw[List.take_of_length_le (by omega)]at hall ⊢;exact tJ (by simp[lOk,hall];omega)
    clear h hall;go_wp2;go_ret;exact⟨aR (ae HE).symm,hbel⟩
 · have HI:Hid (nr l = -1):=rq (by simp[lOk];omega);go_enter Tryz.func148,Tryz.ntmps148;go_wp2;go_ret;exact⟨aR (ae HI).symm,Below.refl _ _⟩
end Go.Proofs.YtkpfkgoiaicgbaaGreatDoor
namespace Go.Proofs.YtkpfkgoiaicgbaaGreatDoor
open Go.RowKit
structure dT (B:Nat) (w w':World):Prop where
 below:Below B w w'
 keep:∀k,k<w.heap.size->(∀cur fr,w.heap[k]?≠some (.cells cur 5 fr))->w'.heap[k]?=w.heap[k]?
theorem dT.refl(B:Nat)(w:World):dT B w w:=⟨Below.refl _ _,fun _ _ _=>rfl⟩
theorem dT.size{B:Nat}{w w':World}(h:dT B w w'):w.heap.size<=w'.heap.size:=h.1.size
theorem dT.trans{B:Nat}{w w1 w2:World}(h:dT B w w1)(k:dT B w1 w2):dT B w w2:=
 ⟨h.1.trans k.1,fun j hj hn=>(k.2 j (Nat.lt_of_lt_of_le hj h.size) (by rw[h.2 j hj hn];exact hn)).trans (h.2 j hj hn)⟩
theorem dT.alloc{B:Nat}{w w':World}(h:dT B w w')(hB:B<=w'.heap.size)(o:Obj):dT B w (w'.alloc o):=
 ⟨h.1.alloc hB o,fun j hj hn=>(Below.heap_alloc w' o j (Nat.lt_of_lt_of_le hj h.size)).trans (h.2 j hj hn)⟩
theorem dT.drew{B:Nat}{w w':World}(h:dT B w w'):dT B w w'.drew:=⟨h.1.drew,h.2⟩
theorem dT.later{B:Nat}{w w' w'':World}(h:dT B w w')(hb:Below w'.heap.size w' w'')(hB:B<=w'.heap.size):dT B w w'':=
 ⟨h.1.trans (hb.mono hB),fun j hj hn=>(hb.block j (Nat.lt_of_lt_of_le hj h.size)).trans (h.2 j hj hn)⟩
theorem oX{x y y':World}{o:Obj}{v:Value}{size n B base:Nat}{xs:List Value}(hg:(y.alloc o).grownBy y' v.ownBlock)(ho:y.ownsRow base 5 size v n xs)(hbb:B<=base)(hy:B<=y.heap.size)(hb:dT B x y):dT B x y':=by
 refine⟨aK hg ho hbb hy hb.1,fun j hj hn=>?_⟩;have h1:=hb.2 j hj hn;have hlt:j<y.heap.size:=Nat.lt_of_lt_of_le hj hb.size;rw[hg.block j (by simp;omega) ?_,Below.heap_alloc y o j hlt]
 · exact h1
 ·
  intro e;rcases ho.2 with⟨rfl,_⟩|⟨g,cap,cur,rfl,_,hgg,_⟩
  · cases e
  · simp only[Value.ownBlock,Option.some.injEq]at e;subst e;rw[hgg]at h1;exact hn _ _ h1.symm
theorem dT.grown{B:Nat}{x y y':World}{row:Option Nat}(h:dT B x y)(hg:y.grownBy y' row)(hB:B<=y.heap.size)(hr:∀g,row=some g->B<=g)(hu:∀g,row=some g->∃cur fr,y.heap[g]?=some (.cells cur 5 fr)):dT B x y':=by
 refine⟨h.1.grown hg hB hr,fun j hj hn=>?_⟩;have h1:=h.2 j hj hn;rw[hg.block j (Nat.lt_of_lt_of_le hj h.size) ?_]
 · exact h1
 · intro e;obtain⟨cur,fr,h2⟩:=hu j e.symm;rw[h2]at h1;exact hn _ _ h1.symm
theorem ext_list(s:ByteArray)(i j:Nat):(s.extract i j).data.toList=(s.data.toList.drop i).take (j-i):=by
 rw[ByteArray.data_extract,Array.toList_extract]
def four(a b c d:ByteArray):Nat->ByteArray
 | 0=>a | 1=>b | 2=>c|_=>d
def seven(a b c d e f g:ByteArray):Nat->ByteArray
 | 0=>a | 1=>b | 2=>c | 3=>d | 4=>e | 5=>f|_=>g
theorem wB(w:World)(a b c d:ByteArray)(t:TypeId):∀i,i<4->(w.alloc (.cells #[.string a,.string b,.string c,.string d] t)).cell? ⟨w.heap.size,0+i,none⟩=some (.string (four a b c d i)):=by
 intro i hi
 match i,hi with
 | 0,_=>simp[four]
 | 1,_=>simp[four]
 | 2,_=>simp[four]
 | 3,_=>simp[four]
theorem yg(w:World)(a b c d e f g:ByteArray)(t:TypeId):∀i,i<7->(w.alloc (.cells #[.string a,.string b,.string c,.string d,.string e,.string f,.string g] t)).cell? ⟨w.heap.size,0+i,none⟩=some (.string (seven a b c d e f g i)):=by
 intro i hi
 match i,hi with
 | 0,_=>simp[seven]
 | 1,_=>simp[seven]
 | 2,_=>simp[seven]
 | 3,_=>simp[seven]
 | 4,_=>simp[seven]
 | 5,_=>simp[seven]
 | 6,_=>simp[seven]
theorem Dq{a b c d:ByteArray}{n:Nat}(ha:a.size<=n)(hb:b.size<=n)(hc:c.size<=n)(hd:d.size<=n)(i:Nat):(four a b c d i).size<=n:=by
 match i with
 | 0=>exact ha
 | 1=>exact hb
 | 2=>exact hc
 | _+3=>exact hd
theorem Ar{a b c d e f g:ByteArray}{n:Nat}(ha:a.size<=n)(hb:b.size<=n)(hc:c.size<=n)(hd:d.size<=n)(he:e.size<=n)(hf:f.size<=n)(hg:g.size<=n)(i:Nat):(seven a b c d e f g i).size<=n:=by
 match i with
 | 0=>exact ha
 | 1=>exact hb
 | 2=>exact hc
 | 3=>exact hd
 | 4=>exact he
 | 5=>exact hf
 | _+6=>exact hg
theorem of_le(B b m lb lo n cap M:Nat)(v:Nat->ByteArray)(w:World)(h:Rd w B b m)(hm:m<=100000)(n1:0<n)(n2:n<=70000)(hlb:lb≠b)(hc:∀i,i<n->w.cell? ⟨lb,lo+i,none⟩=some (.string (v i)))(hv:∀i,(v i).size<=M) :
  Calls Tryz.prog 60 #[.pointer (some ⟨b,0,none⟩),.slice (some ⟨lb,lo,none⟩) n cap] w fun e w'=>∃t:ByteArray,t.size<=M/\e = .returned (.string t)/\Rd w' B b (m+1)/\mN b w w':=by
 refine(Ma B b m lb lo n cap v w h hm n1 n2 hlb hc).mono ?_;rintro e w' ⟨i,_,he,hr,ho⟩;exact⟨v i,hv i,he,hr,ho⟩
theorem zh{w:World}{g cap:Nat}{l:List UInt8}{base:Nat}(h:w.ownsRow base 5 1 (.slice (some ⟨g,0,none⟩) l.length cap) l.length (l.map fun x=>Value.int .u8 (x.toNat:Int))) :
  (convert 22 9 (.slice (some ⟨g,0,none⟩) l.length cap)).run Tryz.prog w = .ok (.string ⟨l.toArray⟩) w:=
 run_convert_bytes_back w _ _ _ ⟨g,0,none⟩ cap l Tryz.underlying22 Tryz.underlying5 Tryz.underlying9 (fun j hj=>by
  have:=h.cells (g:=g) rfl j (.int .u8 (l[j].toNat:Int)) (by simp[hj]);exact this)
theorem Tryz.infoByte:(Tryz.prog.info? 5).map (fun i=>(i.zero,i.size,i.bytes))=some (some (.int .u8 0),1,1):=by kernel_rfl
theorem byte_of(r:Int)(h0:0<=r)(h1:r<256):∃x:UInt8,(x.toNat:Int)=r:=by
 obtain⟨k,rfl⟩:=Int.eq_ofNat_of_zero_le h0;refine⟨UInt8.ofNat k,?_⟩;have:k%256=k:=Nat.mod_eq_of_lt (by omega);simp[this]
set_option maxRecDepth 100000
theorem Gz{b : Nat}{a w w' : World}{row : Option Nat}(h : Kn b a w)(hg : w.grownBy w' row)(hr : ∀j, row = some j -> a.heap.size <= j)(hb : b < a.heap.size) : Kn b a w' :=
  ⟨h.1.grown hg (Nat.le_trans (Nat.le_of_lt hb) h.2.2) (fun j hj => Nat.le_trans (Nat.le_of_lt hb) (hr j hj)),
   fun k hk hkb => (hg.block k (Nat.lt_of_lt_of_le hk h.2.2) (fun e => by have := hr k e.symm;omega)).trans (h.2.1 k hk hkb),
   Nat.le_trans h.2.2 hg.size⟩
theorem nh(B b m:Nat)(w:World)(h:Rd w B b m)(hm:m<=90000) :
  Calls Tryz.prog 59 #[.pointer (some ⟨b,0,none⟩)] w fun e w'=>(∃s:ByteArray,e = .returned (.string s)/\s.size<=400)/\Rd w' B b (m+50)/\Kn b w w':=by
 obtain⟨i0,hi,hz0,hz1,hz2⟩:=info_parts Tryz.infoByte;have hbw:=h.lt;go_enter Tryz.func59,Tryz.ntmps59;go_wp2_with fail;refine(dL B b m _ _ h (by omega) (by omega) (by omega)).mono ?_;rintro e w1 ⟨r,rfl,r0,r1,hrd1,hon1⟩;have hlt1:=hrd1.lt;by_cases h0:r=0
 · subst h0;go_wp2;go_ret;exact⟨⟨_,rfl,by decide⟩,hrd1.mono (by omega),hon1.kn⟩
 have g0:(r == 0)=false:=by simpa using h0
 by_cases h1:r=1
 · subst h1;clear h0 g0;go_wp2_with fail;refine(of_le B b (m+1) w1.heap.size 0 4 4 6 _ _ (hrd1.alloc _) (by omega) (by omega) (by omega) (Nat.ne_of_gt hlt1) (wB w1 _ _ _ _ _) (Dq (by decide) (by decide) (by decide) (by decide))).mono ?_;rintro e w2 ⟨t0,hsz,rfl,hrd2,hon2⟩;go_wp2_with fail;refine(dL B b (m+2) _ _ hrd2 (by omega) (by omega) (by omega)).mono ?_;rintro e w3 ⟨r',rfl,r0',r1',hrd3,hon3⟩;go_wp2_with fail;refine(ml _ _ _ (by omega) (by omega) (by omega)).mono ?_;rintro e w4 ⟨⟨t,rfl,ht⟩,rfl⟩;go_wp2;go_ret;refine⟨⟨t,rfl,?_⟩,hrd3.mono (by omega),((hon1.kn.trans (g8 w1 _ hlt1)).trans hon2.kn).trans hon3.kn⟩;rw[ht];have:=Nat.mul_le_mul hsz (show(1+r').toNat<=40 by omega);omega
 have g1:(r == 1)=false:=by simpa using h1
 by_cases h2:r=2
 ·
  subst h2;clear h0 h1 g0 g1;go_wp2_with fail;refine(dL B b (m+1) _ _ (hrd1.alloc _) (by omega) (by omega) (by omega)).mono ?_;rintro e w2 ⟨r',rfl,r0',r1',hrd2,hon2⟩;obtain⟨n0,rfl⟩:=Int.eq_ofNat_of_zero_le r0';have hown0:w2.ownsRow w.heap.size 5 1 (.slice (some ⟨w1.heap.size,0,none⟩) 0 0) 0 []:=
   tN (World.ownsRow_lit w1 #[] 0 hon1.kn.2.2 (by unfold maxLen;omega) rfl) hon2 hbw
  have hbel2:=(hon1.kn.trans (g8 w1 (.cells #[] 5) hlt1)).trans hon2.kn;go_wp2_with fail
  go_loopw [3,4] (fun o n wr=>∃(l:List UInt8) (k:Nat),n = .int .i64 k/\k<=39/\l.length+k<=39/\o ≠ .slice none 0 0/\wr.ownsRow w.heap.size 5 1 o l.length (l.map fun x=>Value.int .u8 (x.toNat:Int))/\Rd wr B b (m+42-k)/\Kn b w wr) (fun _ n _=>(intOf n).toNat)
  case atStart=>exact⟨[],n0,rfl,by omega,by simp;omega,by simp,hown0,hrd2.mono (by omega),hbel2⟩
  case round=>
   obtain⟨l,k,rfl,hk,hlk,hnn,hown,hrd,hbel⟩:=hrel;have hltr:=hrd.lt;have hk':(k:Int)<=39:=by omega
   have HL:=af hlk;clear hk hlk hrd1 hrd2 hon1 hon2 hbel2 hown0;by_cases hp:(0:Int)<(k:Int)
   ·
    go_wp2_with fail;refine(dL B b (m+42-k) _ _ hrd (by omega) (by omega) (by omega)).mono ?_;rintro e w3 ⟨q,rfl,q0,q1,hrd3,hon3⟩;obtain⟨x,rfl⟩:=byte_of q q0 q1;have hown3:=tN hown hon3 hbw;have hblk:∀j,u3.ownBlock=some j->w.heap.size<=j:=fun j hj=>(hown3.lt j hj).1;have hlt3:=hrd3.lt;have hbel3:=hbel.trans hon3.kn;clear hown hrd hon3;go_wp2_with (at_builtin;refine wpList_append_own _ rfl _ _ 22 rfl w.heap.size 5 i0 (.int .u8 0) 1 1 Tryz.underlying22 hi hz0 hz1 hz2 rfl (by decide) _ _ _ rfl (hown3.alloc _) ⟨w3.heap.size,0,none⟩ 1 1 [.int .u8 (x.toNat:Int)] rfl rfl ?c1 ?c2 ?c3 ?c4 ?c5 ?_)
    case c1=>
     intro j u hj
     match j,hj with
     | 0,hj=>simp at hj;subst hj;simp[Addr.add]
    case c2=>intro u hu;simp at hu;subst hu;rfl
    case c3=>have:=ae HL;unfold maxLen;omega
    case c4=>have:=ae HL;omega
    case c5=>have:=hbel3.2.2;simp;omega
    intro v' w4 hown4 hgrow hnil;have hb4:Rd w4 B b (m+42-k+1):=(hrd3.alloc _).grown hgrow (fun j hj=>Nat.lt_of_lt_of_le hbw (hblk j hj));have hbel4:Kn b w w4:=Gz (hbel3.trans (g8 w3 _ hlt3)) hgrow hblk hbw;have hnn4:v' ≠ .slice none 0 0:=hnil;have hown5:w4.ownsRow w.heap.size 5 1 v' (l++[x]).length ((l++[x]).map fun x=>Value.int .u8 (x.toNat:Int)):=by simpa using hown4
    clear hown4 hgrow hown3 hrd3 hbel3 hnil;go_wp2;go_roundw
    case rel=>exact⟨l++[x],k-1,by go_num,by omega,by have:=ae HL;simp;omega,hnn4,hown5,hb4.mono (by omega),hbel4⟩
    case measure=>simp[intOf];omega
   ·
    obtain⟨g,cap,rfl⟩:∃g cap,u3 = .slice (some ⟨g,0,none⟩) l.length cap:=by
     rcases hown.2 with⟨e,_⟩|⟨g,cap,_,e,_⟩
     · exact absurd e hnn
     · exact⟨g,cap,e⟩
    have hback:=zh hown;go_wp2;go_ret;exact⟨⟨_,rfl,by have:=ae HL;simp[ByteArray.size];omega⟩,hrd.mono (by omega),hbel⟩
 have g2:(r == 2)=false:=by simpa using h2
 by_cases h3:r=3
 · subst h3;clear h0 h1 h2 g0 g1 g2;go_wp2_with (go_at_call 61;refine(ml _ _ _ (by omega) (by omega) (by decide)).mono ?_;rintro e w' ⟨⟨t,rfl,ht⟩,rfl⟩);go_ret;exact⟨⟨t,rfl,by rw[ht];decide⟩,hrd1.mono (by omega),hon1.kn⟩
 have g3:(r == 3)=false:=by simpa using h3
 clear h0 h1 h2 h3;go_wp2_with fail;refine(dL B b (m+1) _ _ hrd1 (by omega) (by omega) (by omega)).mono ?_;rintro e w2 ⟨r',rfl,r0',r1',hrd2,hon2⟩;obtain⟨n0,rfl⟩:=Int.eq_ofNat_of_zero_le r0';have hbel2:=hon1.kn.trans hon2.kn;go_wp2_with fail
 go_loopw [5,6] (fun o n wr=>∃(s:ByteArray) (k:Nat),o = .string s/\n = .int .i64 k/\k<=11/\s.size+6*k<=66/\Rd wr B b (m+20-k)/\Kn b w wr) (fun _ n _=>(intOf n).toNat)
 case atStart=>exact⟨ByteArray.empty,n0,rfl,rfl,by omega,by show 0+6*n0<=66;omega,hrd2.mono (by omega),hbel2⟩
 case round=>
  obtain⟨s,k,rfl,rfl,hk,hsz,hrd,hbel⟩:=hrel;have hltr:=hrd.lt;have hk':(k:Int)<=11:=by omega
  have hsz':(s.size:Int)+6*k<=66:=by omega
  have HK:=af hk;clear hk hsz hrd1 hrd2 hon1 hon2 hbel2 hi hz0 hz1 hz2;by_cases hp:(0:Int)<(k:Int)
  ·
   go_wp2_with fail;refine(of_le B b (m+20-k) wr.heap.size 0 7 7 6 _ _ (hrd.alloc _) (by omega) (by omega) (by omega) (Nat.ne_of_gt hltr) (yg wr _ _ _ _ _ _ _ _) (Ar (by decide) (by decide) (by decide) (by decide) (by decide) (by decide) (by decide))).mono ?_;rintro e w3 ⟨t0,hsz0,rfl,hrd3,hon3⟩;go_wp2;go_roundw
   case rel=>exact⟨s++t0,k-1,rfl,by go_num,by omega,by rw[ByteArray.size_append];omega,hrd3.mono (by omega),(hbel.trans (g8 wr _ hltr)).trans hon3.kn⟩
   case measure=>simp[intOf];omega
  · go_wp2;go_ret;exact⟨⟨s,rfl,by omega⟩,hrd.mono (by omega),hbel⟩
theorem pQ(B b m:Nat)(w:World)(h:Rd w B b m)(hm:m<=80000) :
  Calls Tryz.prog 35 #[.pointer (some ⟨b,0,none⟩)] w fun e w'=>(∃s:ByteArray,e = .returned (.string s)/\s.size<=400)/\Rd w' B b (m+60)/\Kn b w w':=by
 go_enter Tryz.func35,Tryz.ntmps35;go_wp2_with fail;refine(dL B b m _ _ h (by omega) (by omega) (by omega)).mono ?_;rintro e w1 ⟨r,rfl,r0,r1,hrd1,hon1⟩;by_cases h0:r=0
 · subst h0;go_wp2_with (go_at_call 61;refine(ml _ _ _ (by omega) (by omega) (by decide)).mono ?_;rintro e w' ⟨⟨t,rfl,ht⟩,rfl⟩);go_ret;exact⟨⟨t,rfl,by rw[ht];decide⟩,hrd1.mono (by omega),hon1.kn⟩
 ·
  have g0:(r == 0)=false:=by simpa using h0
  clear h0;go_wp2_with (go_at_call 59;refine(nh B b (m+1) _ hrd1 (by omega)).mono ?_;rintro e w2 ⟨⟨s,rfl,hs⟩,hrd2,hbel2⟩);go_ret;exact⟨⟨s,rfl,hs⟩,hrd2.mono (by omega),hon1.kn.trans hbel2⟩
end Go.Proofs.YtkpfkgoiaicgbaaGreatDoor
namespace Go.Proofs.YtkpfkgoiaicgbaaGreatDoor
open Go.RowKit Corb
theorem Kz(l:List Int)(N d:Nat):nx l N*p2 d<=nx l (N+d):=by
 induction d with
 | zero=>simp[p2]
 | succ d ih=>
  have:nx l (N+d+1)=2*nx l (N+d)+many l (((N+d:Nat):Int)+1) l.length:=rfl;rw[jt,←Nat.mul_assoc,←Nat.add_assoc,this];omega
end Go.Proofs.YtkpfkgoiaicgbaaGreatDoor
