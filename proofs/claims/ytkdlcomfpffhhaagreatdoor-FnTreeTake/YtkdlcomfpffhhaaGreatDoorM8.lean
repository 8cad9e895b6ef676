/- Of what the proof is made: 23 texts, one behind the other. -/
import Derived.Test.YtkdlcomfpffhhaaGreatDoorM5
import Derived.Test.YtkdlcomfpffhhaaGreatDoorM3
import Derived.Deep.RegionHeld3
import Derived.Deep.DrawnRows
import Derived.Test.YtkdlcomfpffhhaaGreatDoorM6
import Derived.Lib.AppendZerosOnto
import Derived.Test.YtkdlcomfpffhhaaGreatDoorM7
import Derived.Laws.IdiomStrings
import Derived.Laws.OwnMore
import Derived.Deep.RegionWith
set_option maxRecDepth 100000
set_option linter.unusedSimpArgs false
set_option linter.unusedVariables false
set_option maxHeartbeats 3200000
namespace Go.Proofs.YtkdlcomfpffhhaaGreatDoor
open Go.Proofs.Tryz
open Go.RowKit Corb
variable {b p:Nat}{s:ByteArray}{v0 v1 v2:Value}{w w':World}
def Three(w:World)(b:Nat)(v0 v1 v2:Value):Prop:=
 w.cell? ⟨b,0,none⟩=some v0/\w.cell? ⟨b,1,none⟩=some v1/\w.cell? ⟨b,2,none⟩=some v2/\w.frozen? ⟨b,0,none⟩=false/\w.frozen? ⟨b,1,none⟩=false/\w.frozen? ⟨b,2,none⟩=false/\b<w.heap.size
theorem Three.set0(h:Three w b v0 v1 v2)(u:Value):Three (w.setCell ⟨b,0,none⟩ u) b u v1 v2:=by
 obtain⟨c0,c1,c2,f0,f1,f2,hb⟩:=h;refine⟨World.cell?_setCell_same _ _ _ c0,?_,?_,by simpa using f0,by simpa using f1,by simpa using f2,by simpa using hb⟩
 . rw[World.cell?_setCell_other _ _ _ _ (by simp)];exact c1
 . rw[World.cell?_setCell_other _ _ _ _ (by simp)];exact c2
theorem Three.set1(h:Three w b v0 v1 v2)(u:Value):Three (w.setCell ⟨b,1,none⟩ u) b v0 u v2:=by
 obtain⟨c0,c1,c2,f0,f1,f2,hb⟩:=h;refine⟨?_,World.cell?_setCell_same _ _ _ c1,?_,by simpa using f0,by simpa using f1,by simpa using f2,by simpa using hb⟩
 . rw[World.cell?_setCell_other _ _ _ _ (by simp)];exact c0
 . rw[World.cell?_setCell_other _ _ _ _ (by simp)];exact c2
theorem Three.set2(h:Three w b v0 v1 v2)(u:Value):Three (w.setCell ⟨b,2,none⟩ u) b v0 v1 u:=by
 obtain⟨c0,c1,c2,f0,f1,f2,hb⟩:=h;refine⟨?_,?_,World.cell?_setCell_same _ _ _ c2,by simpa using f0,by simpa using f1,by simpa using f2,by simpa using hb⟩
 . rw[World.cell?_setCell_other _ _ _ _ (by simp)];exact c0
 . rw[World.cell?_setCell_other _ _ _ _ (by simp)];exact c1
theorem Three.drew(h:Three w b v0 v1 v2):Three w.drew b v0 v1 v2:=h
theorem Three.kept(h:Three w b v0 v1 v2)(hb:Below (b+1) w w'):Three w' b v0 v1 v2:=by
 obtain⟨c0,c1,c2,f0,f1,f2,c⟩:=h;have a:=a0l b;exact⟨(hb.cell (p:=⟨b,0,none⟩) a).trans c0,(hb.cell (p:=⟨b,1,none⟩) a).trans c1,(hb.cell (p:=⟨b,2,none⟩) a).trans c2,(hb.frozen (p:=⟨b,0,none⟩) a).trans f0,(hb.frozen (p:=⟨b,1,none⟩) a).trans f1,(hb.frozen (p:=⟨b,2,none⟩) a).trans f2,a0i c hb.size⟩
theorem nX(k n:Nat)(h:k<=n):p2 k<=p2 n:=a0W (by omega) h
def ai(s:ByteArray):Nat:=db s.data.toList
structure aw (b:Nat) (w w':World):Prop where
 below:Below b w w'
 block:∀k,k<w.heap.size->k≠b->w'.heap[k]?=w.heap[k]?
 cells:∀j,3<=j->w'.cell? ⟨b,j,none⟩=w.cell? ⟨b,j,none⟩/\w'.frozen? ⟨b,j,none⟩=w.frozen? ⟨b,j,none⟩
theorem aw.refl(b:Nat)(w:World):aw b w w:=⟨a0c _ _,fun _ _ _=>rfl,fun _ _=>⟨rfl,rfl⟩⟩
theorem aw.trans{w1 w2:World}(h:aw b w w1)(k:aw b w1 w2):aw b w w2:=
 ⟨h.1.trans k.1,fun j a hb=>(k.2 j (a0i a h.1.size) hb).trans (h.2 j a hb),fun j a=>⟨(k.3 j a).1.trans (h.3 j a).1,(k.3 j a).2.trans (h.3 j a).2⟩⟩
theorem hH(w:World)(b o n:Nat)(u:Value)(d:o<3:=by omega):aw b w ((w.drewN n).setCell ⟨b,o,none⟩ u):=
 ⟨ap (below_drewN (a0c _ _) _) (a0a _) _,fun k _ a=>a0T (w.drewN n) ⟨b,o,none⟩ u k a,fun j c=>⟨by rw[World.cell?_setCell_other _ _ _ _ (by simp only[ne_eq,a0F,a1a,a2A];omega)];rfl,by simp⟩⟩
theorem aw.own{base:Nat}{e:TypeId}{size:Nat}{v:Value}{n:Nat}{xs:List Value}(h:aw b w w')(f:w.ownsRow base e size v n xs)(hb:b<base):w'.ownsRow base e size v n xs:=by
 refine⟨f.1,?_⟩;rcases f.2 with i|⟨g,cap,c,rfl,d,a,rest⟩
 . exact .inl i
 . refine .inr ⟨g,cap,c,rfl,d,?_,rest⟩;rw[h.2 g (Array.getElem?_eq_some_iff.1 a).1 (by omega)];exact a
def Rdr(w:World)(b:Nat)(s:ByteArray)(p:Nat):Prop:=
 Three w b (.string s) (.int .i64 (min p (8*s.size):Nat)) (.bool (decide (8*s.size<p)))
theorem lI(s:ByteArray)(p:Nat)(h:8*s.size<=p):ai s/2 ^ p%2=0:=
 GR _ _ (by simpa using h)
theorem su(s:ByteArray)(p:Nat)(h:p/8<s.size):(s[p/8]).toNat/2 ^ (p%8)%2=ai s/2 ^ p%2:=by
 rw[ai,←MW]
 congr 3
 rw[List.getD_eq_getElem?_getD];have a:p/8<s.data.toList.length:=by simpa using h
 rw[List.getElem?_eq_getElem a];simp;rfl
theorem Rdr.before(h:Rdr w b s p)(a:p<8*s.size):Three w b (.string s) (.int .i64 (p:Int)) (.bool false):=by
 unfold Rdr at h;rwa[a1s (by omega),a0j (by omega)]at h
theorem Rdr.next(h:Three w b (.string s) (.int .i64 ((p:Int)+1)) (.bool false))(a:p<8*s.size):Rdr w b s (p+1):=by
 unfold Rdr;rwa[a1s (by omega),a0j (by omega)]
theorem Rdr.past(h:Rdr w b s p)(a:8*s.size<=p):Three w b (.string s) (.int .i64 (8*s.size:Nat)) (.bool (decide (8*s.size<p))):=by
 unfold Rdr at h;rwa[a27 (by omega)]at h
theorem Rdr.bad(h:Three w b (.string s) (.int .i64 (8*s.size:Nat)) (.bool true))(a:8*s.size<=p):Rdr w b s (p+1):=by
 unfold Rdr;rwa[a27 (by omega),a0w (by omega)]
theorem LX(R a:Nat)(w:World)(b:R<=60)(h:p2 R=a) :
  Calls prog 252 #[.int .i64 (R:Int)] w fun e w'=>e = .returned (.int .i64 (a:Int))/\w'=w:=by
 have:=ej (R:Int) w (by omega);rw[a0x,h]at this;exact this
theorem Rdr.at(h:Rdr w b s p)(a:p<=8*s.size):Three w b (.string s) (.int .i64 (p:Int)) (.bool false):=by
 unfold Rdr at h;rwa[a1s (by omega),a0j (by omega)]at h
theorem Rdr.kept(h:Rdr w b s p)(hb:Below (b+1) w w'):Rdr w' b s p:=Three.kept h hb
theorem Rdr.alloc(h:Rdr w b s p)(o:Obj):Rdr (w.alloc o) b s p:=
 h.kept ((a0c _ _).alloc (by have:b<w.heap.size:=h.2.2.2.2.2.2;omega) _)
theorem Rdr.lt(h:Rdr w b s p):b<w.heap.size:=h.2.2.2.2.2.2
theorem aw.alloc(h:aw b w w')(hb:b<w'.heap.size)(o:Obj):aw b w (w'.alloc o):=
 ⟨h.1.alloc (a0y hb) o,fun j a c=>(a2m w' o j (a0i a h.1.size)).trans (h.2 j a c),fun j a=>by
  have d:Below w'.heap.size w' (w'.alloc o):=(a0c _ _).alloc (a0a _) o;exact⟨(d.cell (p:=⟨b,j,none⟩) hb).trans (h.3 j a).1,(d.frozen (p:=⟨b,j,none⟩) hb).trans (h.3 j a).2⟩⟩
theorem L0(w:World)(s:ByteArray)(t:TypeId):Rdr (w.alloc (.cells #[.string s,.int .i64 0,.bool false] t)) w.heap.size s 0:=by
 unfold Rdr;simp only[Nat.zero_min,Nat.not_lt_zero,a3B];exact⟨by simp,by simp,by simp,by simp,by simp,by simp,by simp⟩
attribute [local go_sem ↓] Go.wp_at_zero Go.wp_at_succ
theorem jY(b p:Nat)(s:ByteArray)(w:World)(h:Rdr w b s p)(r:s.size<=2000000) :
  Calls prog 231 #[.pointer (some ⟨b,0,none⟩)] w fun e w'=>e = .returned (.int .i64 (ai s/2 ^ p%2:Nat))/\Rdr w' b s (p+1)/\aw b w w':=by
 have u:(s.size:Int)<=2000000:=by omega
 by_cases g:p<8*s.size
 .
  have d:=h.before g;have hq:p/8<s.size:=by omega
  have hb:=su s p hq;generalize m:ai s/2 ^ p%2=N at *
  have l:=af g;have t:(p:Int)<8*(s.size:Int):=by omega
  have j:p2 (p%8)<=128:=nX (p%8) 7 (by omega);have i:=kS (p%8);have a:=af d;obtain⟨c0,c1,c2,f0,f1,f2,n⟩:=d;have c:(s[p/8]).toNat/p2 (p%8)%2=N:=hb;clear h m hb;obtain⟨Q,hQ⟩:∃Q,p/8=Q:=⟨_,rfl⟩;obtain⟨R,hR⟩:∃R,p%8=R:=⟨_,rfl⟩;simp only[hQ,hR]at c j i hq;have o:=(s[Q]).toNat_lt;generalize f:p2 R=PW at *
  have k:=af (fun W=>LX R PW W (by omega) f);have e1:IntKind.i64.wrap (Q:Int)=(Q:Int):=bp _ (by omega) (by omega);have e2:(p:Int)/8=(Q:Int):=by omega
  have e3:(p:Int)%8=(R:Int):=by omega
  have e4:Int.tmod (p:Int) 8=(R:Int):=by rw[a15 (by omega)];exact e3
  have e5:(Q:Int)<(s.size:Int):=by omega
  have e6:(0:Int)<=(Q:Int):=by omega
  have q:(s[Q]).toNat/PW<=(s[Q]).toNat:=a2k _ _;have e7:((s[Q]).toNat:Int)/(PW:Int)=(((s[Q]).toNat/PW:Nat):Int):=by simp
  have e0:(0:Int)<=((s[Q]).toNat:Int)/(PW:Int)/\((s[Q]).toNat:Int)/(PW:Int)<=255:=by rw[e7];exact⟨a3C _,by omega⟩
  have e8:IntKind.i64.wrap (((s[Q]).toNat:Int)/(PW:Int))=((s[Q]).toNat:Int)/(PW:Int):=bp _ (by omega) (by omega);have e10:((s[Q]).toNat:Int)/(PW:Int)%2=(N:Int):=by rw[e7];exact_mod_cast c
  have e9:Int.tmod (((s[Q]).toNat:Int)/(PW:Int)) 2=(N:Int):=by rw[a15 e0.1];exact e10
  have e14:IntKind.i64.wrap ((s[Q]).toNat:Int)=((s[Q]).toNat:Int):=bp _ (by omega) (by omega);have e12:¬ PW=0:=by omega
  clear r g hQ hR f c q o j i e7 e0;go_enter a3D,a3E;go_wp2
  go_quiet (fail)
  go_wp2
  go_region_held3 (fun W=>W.cell? ⟨b,0,none⟩=some (.string s)/\W.cell? ⟨b,1,none⟩=some (.int .i64 (p:Int))) (first|exact⟨c0,c1⟩|assumption) (first|(go_at_call 252;refine(ae k _).mono ?_;rintro e w' ⟨rfl,rfl⟩))
  all_goals
   go_wp2;go_ret;exact⟨rfl,Rdr.next (by exact(ae a).set1 _) (ae l),hH _ _ _ _ _⟩
 .
  have d:=h.past (by omega);have a:=af d;have l:=af g;have m:=af (lI s p (by omega));obtain⟨c0,c1,c2,f0,f1,f2,n⟩:=d;rw[a1I]at c1;clear h g r;go_enter a3D,a3E;go_wp2
  go_quiet (fail)
  go_wp2;go_ret;exact⟨aO (by rw[ae m];rfl),Rdr.bad ((ae a).set2 _) (by have:=ae l;omega),hH _ _ _ _ _⟩
theorem pf(b p:Nat)(s:ByteArray)(w:World)(h:Rdr w b s p)(l:s.size<=2000000) :
  Calls prog 198 #[.pointer (some ⟨b,0,none⟩)] w fun e w'=>e = .returned (.int .i64 (ai s/2 ^ p%2:Nat))/\Rdr w' b s (p+1)/\aw b w w':=by
 have o:(s.size:Int)<=2000000:=by omega
 by_cases d:p<8*s.size
 .
  have c:=h.before d;have hq:p/8<s.size:=by omega
  have hb:=su s p hq;generalize g:ai s/2 ^ p%2=N at *
  have f:=af d;have n:(p:Int)<8*(s.size:Int):=by omega
  have a:=af c;obtain⟨c0,c1,c2,f0,f1,f2,i⟩:=c;clear h g;obtain⟨Q,hQ⟩:∃Q,p/8=Q:=⟨_,rfl⟩;obtain⟨R,hR⟩:∃R,p%8=R:=⟨_,rfl⟩;simp only[hQ,hR]at hb hq;have j:=(s[Q]).toNat_lt;have m:(R:Int)<=7:=by omega
  have e1:IntKind.i64.wrap (Q:Int)=(Q:Int):=bp _ (by omega) (by omega);have e2:(p:Int)/8=(Q:Int):=by omega
  have e3:(p:Int)%8=(R:Int):=by omega
  have e4:Int.tmod (p:Int) 8=(R:Int):=by rw[a15 (by omega)];exact e3
  have e5:(Q:Int)<(s.size:Int):=by omega
  have e6:(0:Int)<=(Q:Int):=by omega
  have e7:((s[Q]).toNat:Int)/2 ^ R=(((s[Q]).toNat/2 ^ R:Nat):Int):=by simp
  have k:(s[Q]).toNat/2 ^ R<=(s[Q]).toNat:=a2k _ _;have e0:(0:Int)<=((s[Q]).toNat:Int)/2 ^ R/\((s[Q]).toNat:Int)/2 ^ R<=255:=by rw[e7];exact⟨a3C _,by omega⟩
  have e8:IntKind.i64.wrap (((s[Q]).toNat:Int)/2 ^ R)=((s[Q]).toNat:Int)/2 ^ R:=bp _ (by omega) (by omega);have e9:bits .and .i64 (((s[Q]).toNat:Int)/2 ^ R) 1=(N:Int):=by
   rw[pQ _ e0.1 (by omega),e7];exact_mod_cast hb
  have e14:IntKind.i64.wrap ((s[Q]).toNat:Int)=((s[Q]).toNat:Int):=bp _ (by omega) (by omega);clear l d hQ hR hb k j e7 e0;go_enter func198,ntmps198;go_wp2
  go_quiet (fail)
  go_wp2
  go_quiet (fail)
  go_wp2;go_ret;exact⟨rfl,Rdr.next (by exact(ae a).set1 _) (ae f),hH _ _ _ _ _⟩
 .
  have c:=h.past (by omega);have a:=af c;have f:=af d;have g:=af (lI s p (by omega));obtain⟨c0,c1,c2,f0,f1,f2,i⟩:=c;rw[a1I]at c1;have e1:((8:Nat):Int)*(s.size:Int)/8=(s.size:Int):=by omega
  have e2:(8:Int)*(s.size:Int)/8=(s.size:Int):=by omega
  have e3:IntKind.i64.wrap (s.size:Int)=(s.size:Int):=bp _ (by omega) (by omega);clear h d l;go_enter func198,ntmps198;go_wp2
  go_quiet (fail)
  go_wp2;go_ret;exact⟨aO (by rw[ae g];rfl),Rdr.bad ((ae a).set2 _) (by have:=ae f;omega),hH _ _ _ _ _⟩
end Go.Proofs.YtkdlcomfpffhhaaGreatDoor
namespace Go.Proofs.YtkdlcomfpffhhaaGreatDoor
open Go.Proofs.Tryz
open Go.RowKit Go.Lib
variable {P:Program}
theorem kg(z:Value)(k:Nat):Builtin.zeroCells #[z] k=(List.replicate k z).toArray:=by
 unfold Builtin.zeroCells;apply Array.ext';simp only[List.size_toArray,a1R,a1w,a2l];simp;rw[List.map_const',List.length_range]
theorem kp(w:World)(t tn ty e:TypeId)(i:TypeInfo)(z:Value)(B kn:IntKind)(v:P.underlying t=some (.slice e))(j:P.underlying tn=some (.int kn))(q:P.info? e=some i)(A:i.zero=some z)
  (g sLen sCap:Nat) (a:Array Value) (p:w.heap[g]?=some (.cells a e (0,0))) (k:Nat) (C:0<k) (s:i.size=1) (l:z.cells=#[z]) (m:z.oneCell'=true)
  (b:sLen+k<=sCap) (d:sLen+k<=a.size) (o:(k:Int)<=9223372036854775807) (n:k*i.bytes<=281474976710656) :
  (Builtin.append_ #[t,tn] ty #[.slice (some ⟨g,0,none⟩) sLen sCap,.int B k]).run P w =
   .ok (.slice (some ⟨g,0,none⟩) (sLen+k) sCap) (w.setRow g (a.toList.take sLen++List.replicate k z++a.toList.drop (sLen+k)).toArray):=by
 have r:k≠0:=by omega
 have y:IntKind.i64.wrap (k:Int)=k:=by rw[a00];omega
 have c:¬ (281474976710656<(k:Int)*(i.bytes:Int)):=by
  rw[←a1I];omega
 have f:¬ ((k:Int)<0):=by omega
 have h:=run_storeCells_at P g sLen e (List.replicate k z) 0 a w p (by simpa using d) (by intro u x;rw[List.eq_of_mem_replicate x];exact m);simp only[a1H,a0A]at h;simp[Builtin.append_,a1m v,a1m j,sizeOf,typeInfo,zeroValue,q,A,asInt,asIntOf,y,f,c,s,r,b,l,kg,Addr.add_lit,h]
theorem kX(w:World)(base:Nat)(t tn ty e:TypeId)(i:TypeInfo)(z:Value)(bytes:Nat)(A kn:IntKind)(G:P.underlying t=some (.slice e))(q:P.underlying tn=some (.int kn))(F:P.info? e=some i)(I:i.zero=some z)
  (K:i.size=1) (D:i.bytes=bytes) (r:z.cells=#[z]) (L:z.oneCell'=true) (v:Value) (n:Nat) (xs:List Value) (a:w.ownsRow base e 1 v n xs) (k:Nat) (B:0<k)
  (s:n+k<=maxLen) (b:(n+k)*bytes<=140737488355328) (l:base<=w.heap.size) :
  ∃v' w',(Builtin.append_ #[t,tn] ty #[v,.int A k]).run P w = .ok v' w'/\w'.ownsRow base e 1 v' (n+k) (xs++List.replicate k z)/\w.grownBy w' v.ownBlock:=by
 subst D;have y:n+k<=9223372036854775807:=by simp only[maxLen]at s;omega
 have c:(xs++List.replicate k z).length=(n+k)*1:=by rw[a0o,a.1,a0A];omega
 have o:k*i.bytes<=281474976710656:=by
  have:k*i.bytes<=(n+k)*i.bytes:=a2h _ (by omega);omega
 have grown:∀(old:Nat),old<n+k->∀(row:Option Nat),
   (w.drew.alloc (.cells (xs.toArray++Builtin.zeroCells z.cells k++Builtin.zeroCells z.cells (grownCap w (n+k) old e-(n+k))) e)).ownsRow base e 1
    (.slice (some ⟨w.heap.size,0,none⟩) (n+k) (grownCap w (n+k) old e)) (n+k) (xs++List.replicate k z) /\
   w.grownBy (w.drew.alloc (.cells (xs.toArray++Builtin.zeroCells z.cells k++Builtin.zeroCells z.cells (grownCap w (n+k) old e-(n+k))) e)) row:=by
  intro old S row;have E:=grownCap_ge w (n+k) old e;have m:grownCap w (n+k) old e<=maxLen:=a3H w (n+k) old e s;refine⟨⟨c,.inr ⟨w.heap.size,_,_,rfl,l,heap_alloc_new w.drew _,E,m,?_,?_⟩⟩,⟨rfl,rfl,rfl,by simp,fun j N _=>a2m w.drew _ j N⟩⟩
  . have:=a.1;simp only[a28,List.size_toArray,r,kg,a0A];omega
  . rw[r,kg,kg];simp only[a1B,a0U];rw[←a0U,←c];exact List.take_left
 rcases a.2 with⟨rfl,rfl⟩|⟨g,cap,h,rfl,C,J,Q,m,M,p⟩
 . have R:xs=[]:=a1P (by simpa using a.1);subst R;have x:=run_append_grow_zeros (P:=P) w t tn ty e i z A kn G q F I none 0 0 [] (run_firstCells_none w.drew i.size 0 0 0) k B (by omega) (by omega) (by omega) o (growslice_fits (by omega) (by simpa using b));have d:=grown 0 (by omega) (Value.ownBlock (.slice none 0 0));exact⟨_,_,x,d.1,d.2⟩
 .
  by_cases f:n+k<=cap
  .
   have x:=kp (P:=P) w t tn ty e i z A kn G q F I g n cap h J k B K r L f (by omega) (by omega) o;refine⟨_,_,x,⟨c,.inr ⟨g,cap,_,rfl,C,setRow_heap w g h _ e _ J,f,m,?_,?_⟩⟩,⟨rfl,rfl,rfl,by simp,fun k _ O=>setRow_other w g k _ (fun e=>O (by simp[Value.ownBlock,e]))⟩⟩
   . simp only[List.size_toArray,a0o,a0t,a01,a2n,a0A];omega
   .
    have H:h.toList.take n=xs:=by simpa using p
    rw[H,←c];exact List.take_left
  . have holds:∀j u,xs[j]?=some u->w.drew.cell? ((⟨g,0,none⟩:Addr).add j)=some u:=a.cells (g:=g) rfl;have x:=run_append_grow_zeros (P:=P) w t tn ty e i z A kn G q F I (some ⟨g,0,none⟩) n cap xs (run_firstCells_some (P:=P) w.drew i.size n ⟨g,0,none⟩ n cap xs (by rw[K];exact a.1) holds) k B (by omega) (by omega) (by omega) o (growslice_fits (by omega) b);have d:=grown cap (by omega) (Value.ownBlock (.slice (some ⟨g,0,none⟩) n cap));exact⟨_,_,x,d.1,d.2⟩
theorem gP(w:World){ops:Array Oper}{rest:List Oper}{o:Oper}{a:Act}{Q:Exit->Act->World->Prop}(j:o.guard=none)(s x:Operand)(t tn:TypeId)
  (C:o.op = .call { callee:=.builtin .append,args:=#[s,x],argTypes:=#[t,tn] })
  (base:Nat) (e:TypeId) (i:TypeInfo) (z:Value) (bytes:Nat) (q kn:IntKind) (F:P.underlying t=some (.slice e)) (m:P.underlying tn=some (.int kn)) (B:P.info? e=some i) (H:i.zero=some z)
  (l:i.size=1) (g:i.bytes=bytes) (p:z.cells=#[z]) (u:z.oneCell'=true) (v:Value) (n:Nat) (xs:List Value) (E:a.eval s=v) (d:w.ownsRow base e 1 v n xs) (k:Nat) (G:a.eval x = .int q (k:Int)) (r:0<k)
  (f:n+k<=maxLen) (b:(n+k)*bytes<=140737488355328) (c:base<=w.heap.size)
  (h:∀v' w',w'.ownsRow base e 1 v' (n+k) (xs++List.replicate k z)->w.grownBy w' v.ownBlock->wpList P ops Q rest (a.put o.dst v') w'):wpList P ops Q (o :: rest) a w:=by
 obtain⟨v',w',D,h2,y⟩:=kX (P:=P) w base t tn o.type e i z bytes q kn F m B H l g p u v n xs d k r f b c;refine wpList_plain j fun _ A=>?_;unfold Oper.wp execOp;simp only[C,resolve,invoke,builtin,a2M,Sem.run_pure,Result.andThen_ok,List.map_toArray,a0K,a2Q,E,G,D];exact A _ _ (h v' w' h2 y)
end Go.Proofs.YtkdlcomfpffhhaaGreatDoor
namespace Go.Proofs.YtkdlcomfpffhhaaGreatDoor
open Go.Proofs.Tryz
open Go.RowKit
variable {B g n o:Nat}{a:Option Addr}{l:List Int}{v:Value}{w w' x:World}
theorem Tryz.infoInt:(prog.info? 3).map (fun i=>(i.zero,i.size,i.bytes))=some (some (.int .i64 0),1,8):=by kernel_rfl
theorem dy(l:List Int)(k:Nat)(h:k<l.length):l.take (k+1)=l.take k++[l.getD k 0]:=by
 rw[a1i h]
 congr 1
 simp[List.getD,h]
def bn(w:World)(a:Option Addr)(l:List Int):Prop:=
 0<l.length->∃g o,a=some ⟨g,o,none⟩/\g<w.heap.size/\∀i,i<l.length->w.cell? ⟨g,o+i,none⟩=some (.int .i64 (l.getD i 0))
theorem bn.below(h:bn w a l)(j:w.heap.size<=B)(hb:Below B w w'):bn w' a l:=by
 intro b;obtain⟨g,o,e,d,c⟩:=h b;exact⟨g,o,e,a0i d hb.size,fun i f=>by rw[←c i f];exact hb.cell (p:=⟨g,o+i,none⟩) (by show g<B;omega)⟩
theorem bn.later(h:bn w a l)(hb:Below w.heap.size w w'):bn w' a l:=h.below (a0a _) hb
def ax(w:World)(base:Nat)(v:Value)(l:List Int):Prop:=w.ownsRow base 3 1 v l.length (l.map (Value.int .i64))
theorem ax.form{base:Nat}(h:ax w base v l):∃a cap,v = .slice a l.length cap:=by
 rcases h.2 with⟨e,b⟩|⟨g,cap,_,e,_⟩
 . exact⟨none,0,by rw[e,b]⟩
 . exact⟨_,cap,e⟩
theorem ax.row{base:Nat}{cap:Nat}(h:ax w base (.slice a l.length cap) l):bn w a l:=by
 intro k;rcases h.2 with⟨e,m⟩|⟨g,c,d,e,hb,f,_⟩
 . omega
 .
  simp only[a0O]at e;obtain⟨rfl,_,rfl⟩:=e;refine⟨g,0,rfl,(Array.getElem?_eq_some_iff.1 f).1,fun i j=>?_⟩;have:=a1Q h (g:=g) rfl i (.int .i64 (l.getD i 0)) (by simp[List.getD,j]);have b:(⟨g,0,none⟩:Addr).add i=⟨g,i,none⟩:=by unfold Addr.add;split<;>simp_all
  rw[b]at this;rw[a0B];exact this
theorem ax.later{base:Nat}(h:ax w base v l)(hb:Below B w w')(e:w.heap.size<=B):ax w' base v l:=by
 refine⟨h.1,?_⟩;rcases h.2 with d|⟨g,cap,b,rfl,c,a,rest⟩
 . exact .inl d
 . refine .inr ⟨g,cap,b,rfl,c,?_,rest⟩;have f:=(Array.getElem?_eq_some_iff.1 a).1;rw[hb.block g (by omega)];exact a
theorem ax.lit(w:World)(base:Nat)(hb:base<=w.heap.size):ax (w.alloc (.cells #[] 3)) base (.slice (some ⟨w.heap.size,0,none⟩) 0 0) []:=
 a0P w #[] 0 hb (by unfold maxLen;omega) rfl
theorem ax.nil(w:World)(base:Nat):ax w base (.slice none 0 0) []:=a1x _ _ _ _
theorem uv{base:Nat}{a:Int}(h:x.ownsRow base 3 1 v (l.length+1) (l.map (Value.int .i64)++[.int .i64 a])):ax x base v (l++[a]):=by
 unfold ax;simpa using h
theorem ax.mono{base base':Nat}(h:ax w base v l)(hb:base'<=base):ax w base' v l:=by
 refine⟨h.1,?_⟩;rcases h.2 with c|⟨g,cap,a,rfl,b,rest⟩
 . exact .inl c
 . exact .inr ⟨g,cap,a,rfl,by omega,rest⟩
theorem aI{y y':World}{o:Obj}{e:TypeId}{size base:Nat}{xs:List Value}(b:(y.alloc o).grownBy y' v.ownBlock)(d:y.ownsRow base e size v n xs)(a:B<=base)(f:B<=y.heap.size)(hb:Below B x y):Below B x y':=
 (hb.alloc f _).grown b (by simp;omega) (fun j c=>a0G a (a0p (d.alloc o) j c).1)
theorem ax.rowN{base:Nat}{cap:Nat}(b:l.length=n)(h:ax w base (.slice a n cap) l):bn w a l:=by
 subst b;exact h.row
theorem ax.formN{base:Nat}(b:l.length=n)(h:ax w base v l):∃a cap,v = .slice a n cap:=by
 subst b;exact h.form
theorem ax.own{base:Nat}(a:l.length=n)(h:ax w base v l):w.ownsRow base 3 1 v n (l.map (Value.int .i64)):=by
 subst a;exact h
theorem cF{base:Nat}{a:Int}(b:l.length=n)(h:x.ownsRow base 3 1 v (n+1) (l.map (Value.int .i64)++[.int .i64 a])):ax x base v (l++[a]):=by
 subst b;exact uv h
theorem ax.put{base cap j:Nat}(a:l.length=n)(h:ax w base (.slice (some ⟨g,0,none⟩) n cap) l)(x:Int) :
  ax (w.setCell ⟨g,j,none⟩ (.int .i64 x)) base (.slice (some ⟨g,0,none⟩) n cap) (l.set j x):=by
 subst a;have:=a1S h j (.int .i64 x);show World.ownsRow _ _ _ _ _ (l.set j x).length ((l.set j x).map (Value.int .i64));rw[a16];have e:(l.set j x).map (Value.int .i64)=(l.map (Value.int .i64)).set j (.int .i64 x):=by simp[List.map_set]
 rw[e];exact this.1
theorem ax.at{base cap j:Nat}(b:l.length=n)(h:ax w base (.slice (some ⟨g,0,none⟩) n cap) l)(a:j<n) :
  w.cell? ⟨g,j,none⟩=some (.int .i64 (l.getD j 0))/\w.frozen? ⟨g,j,none⟩=false/\base<=g/\g<w.heap.size:=by
 subst b;refine⟨?_,a2B h j,a0p h g rfl⟩;rw[a02 h j (by omega)];simp[a,List.getD]
theorem ax.somes{base cap:Nat}(h:ax w base (.slice a n cap) l)(d:0<l.length):∃g,a=some ⟨g,0,none⟩:=by
 rcases h.2 with⟨_,e⟩|⟨g,b,c,e,_⟩
 . omega
 . simp only[a0O]at e;exact⟨g,e.1⟩
theorem ax.below{base cap:Nat}(h:ax w base (.slice (some ⟨g,0,none⟩) n cap) l):base<=g/\g<w.heap.size:=a0p h g rfl
def Touch(a:Option Addr)(w w':World):Prop:=w'.heap.size=w.heap.size/\∀j,(∀g,a=some ⟨g,0,none⟩->j≠g)->w'.heap[j]?=w.heap[j]?
theorem Touch.refl(a:Option Addr)(w:World):Touch a w w:=⟨rfl,fun _ _=>rfl⟩
theorem Touch.set(h:Touch a w w')(c:a=some ⟨g,0,none⟩)(u:Value):Touch a w (w'.setCell ⟨g,o,none⟩ u):=
 ⟨by simpa using h.1,fun j b=>(a0T w' ⟨g,o,none⟩ u j (b g c)).trans (h.2 j b)⟩
theorem ax.touch{base:Nat}(h:ax w base v l)(j:Touch a w w')(f:∀g,a=some ⟨g,0,none⟩->g<base):ax w' base v l:=by
 refine⟨h.1,?_⟩;rcases h.2 with i|⟨g,cap,b,rfl,c,d,rest⟩
 . exact .inl i
 . refine .inr ⟨g,cap,b,rfl,c,?_,rest⟩;rw[j.2 g (fun g' e=>by have:=f g' e;omega)];exact d
theorem j9{d e e1 e2 s1 s2 n1 n2:Nat}{v1 v2:Value}{x1 x2:List Value}(h:w.ownsRow d e1 s1 v1 n1 x1)(h2:w.ownsRow e e2 s2 v2 n2 x2)(i:e1≠e2):v1.ownBlock=none∨v1.ownBlock≠v2.ownBlock:=by
 rcases h.2 with⟨rfl,_⟩|⟨g,cap,f,rfl,_,j,_⟩
 . exact .inl rfl
 .
  refine .inr ?_;rcases h2.2 with⟨rfl,_⟩|⟨g',b,c,rfl,_,a,_⟩
  . simp[Value.ownBlock]
  . simp only[Value.ownBlock,ne_eq,a0m];rintro rfl;rw[j]at a;simp only[a0m,a29]at a;exact i a.2.1
theorem av(h:B<=w.heap.size)(o:Obj):B<=(w.alloc o).heap.size:=by simp;omega
theorem bo(W:World)(g:Nat)(b:W.heap.size=g)(x:Value)(t:TypeId):∀(j:Nat) (u:Value),[x][j]?=some u->(W.alloc (.cells #[x] t)).cell? ((⟨g,0,none⟩:Addr).add j)=some u:=by
 subst b;intro j u a
 match j,a with
 | 0,a=>simp at a;subst a;simp[Addr.add]
theorem eZ(x:Int):∀u∈[Value.int .i64 x],u.oneCell'=true:=by
 intro u a;simp at a;subst a;rfl
theorem eq{w1:World}{base:Nat}(h:w1.ownsRow base 3 1 (.slice (some ⟨g,0,none⟩) n n) n (madeCells (Value.int .i64 0).cells (n*1)).toList):ax w1 base (.slice (some ⟨g,0,none⟩) n n) (List.replicate n 0):=by
 have e:(madeCells (Value.int .i64 0).cells (n*1)).toList=(List.replicate n (0:Int)).map (Value.int .i64):=by
  apply a3a
  . simp[madeCells]
  . intro i a h2;simp[madeCells,Value.cells,a1w]
 show World.ownsRow _ _ _ _ _ (List.replicate n (0:Int)).length _;rw[a0A,←e];exact h
theorem ax.setOther{base g' c:Nat}(h:ax w base (.slice (some ⟨g,0,none⟩) n c) l)(i:g'≠g)(u:Value):ax (w.setCell ⟨g',o,none⟩ u) base (.slice (some ⟨g,0,none⟩) n c) l:=by
 refine⟨h.1,?_⟩;rcases h.2 with f|⟨g1,cap,a,e,b,d,rest⟩
 . exact .inl f
 . refine .inr ⟨g1,cap,a,e,b,?_,rest⟩;simp only[a0O,a0m,a0F,a1a]at e;rw[a0T w ⟨g',o,none⟩ u g1 (by show g1≠g';omega)];exact d
theorem ax.under{base c:Nat}(h:ax w base (.slice (some ⟨g,0,none⟩) n c) l)(hb:Below B w w')(i:g<B):ax w' base (.slice (some ⟨g,0,none⟩) n c) l:=by
 refine⟨h.1,?_⟩;rcases h.2 with f|⟨g1,cap,a,e,b,d,rest⟩
 . exact .inl f
 . refine .inr ⟨g1,cap,a,e,b,?_,rest⟩;simp only[a0O,a0m,a0F,a1a]at e;rw[hb.block g1 (by omega)];exact d
theorem ax.setUnder{base b:Nat}(h:ax w base v l)(hb:b<base)(u:Value):ax (w.setCell ⟨b,o,none⟩ u) base v l:=
 ownsRow_setCell_below h (a:=⟨b,o,none⟩) hb u
section
variable {α : Type} {f : α → List Value} {c : Nat}
theorem cP(a:∀x,(f x).length=c)(l:List α):(l.flatMap f).length=l.length*c:=by
 induction l with
 | nil=>simp
 | cons x l ih=>simp only[a1c,a0o,a,ih,a0J];rw[a1F,a2R,a2H]
theorem flat_get(a:∀x,(f x).length=c)(l:List α)(d:α)(i j:Nat)(e:i<l.length)(g:j<c):(l.flatMap f)[i*c+j]?=(f (l.getD i d))[j]?:=by
 induction l generalizing i with
 | nil=>simp at e
 | cons x l ih=>
  simp only[a1c];cases i with
  | zero=>rw[Nat.zero_mul,a0B,List.getElem?_append_left (by rw[a];exact g)];simp
  | succ i=>
   have b:i<l.length:=by simpa using e
   have e1:(i+1)*c+j=c+(i*c+j):=by rw[a1F,a2R];omega
   rw[List.getElem?_append_right (by rw[a,e1];omega),a,e1,a2o,ih i b];simp
def setMany(w:World)(g:Nat):Nat->List Value->World
 | _,[]=>w
 | o,v :: vs=>setMany (w.setCell ⟨g,o,none⟩ v) g (o+1) vs
def sT(xs:List Value):Nat->List Value->List Value
 | _,[]=>xs
 | o,v :: vs=>sT (xs.set o v) (o+1) vs
theorem lO(vs xs:List Value)(o:Nat)(h:o+vs.length<=xs.length):sT xs o vs=xs.take o++vs++xs.drop (o+vs.length):=by
 induction vs generalizing xs o with
 | nil=>simp[sT]
 | cons v vs ih=>
  simp only[a0J]at h;rw[sT,ih _ _ (by rw[a16];omega)];have e1:(xs.set o v).take (o+1)=xs.take o++[v]:=by
   rw[List.take_set];apply List.ext_getElem?;intro i;by_cases b:i<o
   . simp[List.getElem?_set,List.getElem?_append,List.getElem?_take,b];rw[a0d (by omega),a0e (by omega),a0e (by omega)]
   .
    by_cases a:i=o
    . subst a;simp[List.getElem?_set,List.getElem?_append,a0t];rw[a0e (by omega),a0d (by omega),show i-min i xs.length=0 by omega];rfl
    . rw[List.getElem?_eq_none (by simp;omega),List.getElem?_eq_none (by simp;omega)]
  have e2:(xs.set o v).drop (o+1+vs.length)=xs.drop (o+(vs.length+1)):=by
   rw[List.drop_set,a0e (by omega)]
   congr 1;omega
  rw[e1,e2];simp
theorem Ib(a:∀x,(f x).length=c)(l:List α)(j:Nat)(x:α)(e:j<l.length):sT (l.flatMap f) (j*c) (f x)=(l.set j x).flatMap f:=by
 have b:j*c+c<=l.length*c:=by
  have:(j+1)*c<=l.length*c:=a2h c e;rw[a1F,a2R]at this;exact this
 rw[lO _ _ _ (by rw[cP a,a];exact b)];have g:l=l.take j++l[j] :: l.drop (j+1):=by rw[List.getElem_cons_drop,a13]
 have h:l.set j x=l.take j++x :: l.drop (j+1):=by rw[List.set_eq_take_append_cons_drop,a0e e]
 have d:(List.flatMap f (l.take j)).length=j*c:=by rw[cP a,a0t,a1s (by omega)]
 rw[h]
 conv=>lhs;rw[g]
 simp only[a3b,a1c];rw[a1J (by omega),a0D (by omega)];rw[←a0U,List.drop_append,a2p (by simp only[a0o,d,a];omega)];simp only[a0o,d,a,Nat.sub_self,a17,a1v,a0U]
def aN(T:TypeId)(c:Nat)(f:α->List Value)(w:World)(base:Nat)(v:Value)(l:List α):Prop:=w.ownsRow base T c v l.length (l.flatMap f)
variable {T : TypeId}
theorem aN.form{w:World}{base:Nat}{v:Value}{l:List α}(h:aN T c f w base v l):∃a cap,v = .slice a l.length cap/\l.length<=cap/\cap<=maxLen:=by
 rcases h.2 with⟨e,b⟩|⟨g,cap,_,e,_,_,d,h2,_⟩
 . exact⟨none,0,by rw[e,b],by omega,a0h _⟩
 . exact⟨_,cap,e,d,h2⟩
theorem aN.formN{w:World}{base n:Nat}{v:Value}{l:List α}(b:l.length=n)(h:aN T c f w base v l):∃a cap,v = .slice a n cap/\n<=cap/\cap<=maxLen:=by
 subst b;exact h.form
theorem aN.later{w w':World}{base B:Nat}{v:Value}{l:List α}(h:aN T c f w base v l)(hb:Below B w w')(a:w.heap.size<=B):aN T c f w' base v l:=
 a1y h (row:=none) ⟨hb.os,hb.tape,hb.output,hb.size,fun k b _=>hb.block k (by omega)⟩ (by
  cases d:v.ownBlock with
  | none=>exact .inl rfl
  | some k=>exact .inr (by simp))
theorem aN.mono{w:World}{base base':Nat}{v:Value}{l:List α}(h:aN T c f w base v l)(hb:base'<=base):aN T c f w base' v l:=by
 refine⟨h.1,?_⟩;rcases h.2 with d|⟨g,cap,a,e,b,rest⟩
 . exact .inl d
 . exact .inr ⟨g,cap,a,e,a0G hb b,rest⟩
theorem aN.own{w:World}{base n:Nat}{v:Value}{l:List α}(a:l.length=n)(h:aN T c f w base v l):w.ownsRow base T c v n (l.flatMap f):=by
 subst a;exact h
theorem aN.somes{w:World}{base cap n:Nat}{a:Option Addr}{l:List α}(h:aN T c f w base (.slice a n cap) l)(i:0<l.length):∃g,a=some ⟨g,0,none⟩:=by
 rcases h.2 with⟨_,e⟩|⟨g,b,d,e,_⟩
 . omega
 . simp only[a0O]at e;exact⟨g,e.1⟩
theorem aN.below{w:World}{base cap n g:Nat}{l:List α}(h:aN T c f w base (.slice (some ⟨g,0,none⟩) n cap) l):base<=g/\g<w.heap.size:=a0p h g rfl
theorem aN.at(b:∀x,(f x).length=c){w:World}{base g cap n:Nat}{l:List α}(d:α)(k:l.length=n)(h:aN T c f w base (.slice (some ⟨g,0,none⟩) n cap) l)(i j:Nat)(a:i<n)(e:j<c) :
  w.cell? ⟨g,i*c+j,none⟩=(f (l.getD i d))[j]?/\w.frozen? ⟨g,i*c+j,none⟩=false:=by
 subst k;refine⟨?_,a2B h _⟩;rw[←flat_get b l d i j a e];refine a02 h _ ?_;have:(i+1)*c<=l.length*c:=a2h c a;rw[a1F,a2R]at this;omega
theorem yU{w:World}{base g cap n:Nat}{xs:List Value}(vs:List Value)(o:Nat)(h:w.ownsRow base T c (.slice (some ⟨g,0,none⟩) n cap) n xs):(setMany w g o vs).ownsRow base T c (.slice (some ⟨g,0,none⟩) n cap) n (sT xs o vs):=by
 induction vs generalizing w o xs with
 | nil=>exact h
 | cons v vs ih=>exact ih (o+1) (a1S h o v).1
theorem aN.put(a:∀x,(f x).length=c){w:World}{base g cap n:Nat}{l:List α}(d:l.length=n)(h:aN T c f w base (.slice (some ⟨g,0,none⟩) n cap) l)(j:Nat)(b:j<n)(x:α) :
  aN T c f (setMany w g (j*c) (f x)) base (.slice (some ⟨g,0,none⟩) n cap) (l.set j x):=by
 subst d;have:=yU (f x) (j*c) h;rw[Ib a l j x b]at this;show World.ownsRow _ _ _ _ _ (l.set j x).length _;rw[a16];exact this
theorem aN.nil(w:World)(base:Nat):aN T c f w base (.slice none 0 0) []:=a1x _ _ _ _
theorem aN.snoc{x:World}{base n:Nat}{v:Value}{l:List α}{a:α}(b:l.length=n)(h:x.ownsRow base T c v (n+1) (l.flatMap f++f a)):aN T c f x base v (l++[a]):=by
 subst b;show World.ownsRow _ _ _ _ _ (l++[a]).length _;simpa using h
theorem j6(l:List α)(d:α)(k:Nat)(h:k<l.length):l.take (k+1)=l.take k++[l.getD k d]:=by
 rw[a1i h]
 congr 2
 simp[List.getD,h]
end
end Go.Proofs.YtkdlcomfpffhhaaGreatDoor
namespace Go.Proofs.YtkdlcomfpffhhaaGreatDoor
open Go.Proofs.Tryz
open Go.RowKit
variable {B b g i k n:Nat}{a:Option Addr}{f:Nat×Nat}{l:List (Int×Int)}{m:Nat->Nat}{t t':TypeId}{v vc vl vs:Value}{w w' w1 w2 x:World}{xs:List Value}
def bW(l:List UInt8):List Value:=l.map fun x=>Value.int .u8 (x.toNat:Int)
def aK(w:World)(base:Nat)(v:Value)(l:List UInt8):Prop:=w.ownsRow base 5 1 v l.length (bW l)
theorem aK.form{base:Nat}{l:List UInt8}(h:aK w base v l):∃a cap,v = .slice a l.length cap:=by
 rcases h.2 with⟨e,b⟩|⟨g,cap,_,e,_⟩
 . exact⟨none,0,by rw[e,b]⟩
 . exact⟨_,cap,e⟩
theorem aK.formN{base:Nat}{l:List UInt8}(b:l.length=n)(h:aK w base v l):∃a cap,v = .slice a n cap:=by
 subst b;exact h.form
theorem aK.own{base:Nat}{l:List UInt8}(a:l.length=n)(h:aK w base v l):w.ownsRow base 5 1 v n (bW l):=by
 subst a;exact h
theorem aK.later{base:Nat}{l:List UInt8}(h:aK w base v l)(hb:Below B w w')(a:w.heap.size<=B):aK w' base v l:=
 a1y h (row:=none) ⟨hb.os,hb.tape,hb.output,hb.size,fun k b _=>hb.block k (by omega)⟩ (by
  cases c:v.ownBlock with
  | none=>exact .inl rfl
  | some k=>exact .inr (by simp))
theorem aK.mono{base base':Nat}{l:List UInt8}(h:aK w base v l)(hb:base'<=base):aK w base' v l:=by
 refine⟨h.1,?_⟩;rcases h.2 with c|⟨g,cap,a,e,b,rest⟩
 . exact .inl c
 . exact .inr ⟨g,cap,a,e,a0G hb b,rest⟩
theorem aK.somes{base cap:Nat}{l:List UInt8}(h:aK w base (.slice a n cap) l)(d:0<l.length):∃g,a=some ⟨g,0,none⟩:=by
 rcases h.2 with⟨_,e⟩|⟨g,b,c,e,_⟩
 . omega
 . simp only[a0O]at e;exact⟨g,e.1⟩
theorem aK.at{base cap j:Nat}{l:List UInt8}(b:l.length=n)(h:aK w base (.slice (some ⟨g,0,none⟩) n cap) l)(a:j<n) :
  w.cell? ⟨g,j,none⟩=some (.int .u8 ((l.getD j 0).toNat:Int))/\base<=g/\g<w.heap.size:=by
 subst b;refine⟨?_,a0p h g rfl⟩;rw[a02 h j (by omega)];simp[bW,a,List.getD]
theorem aK.nil(w:World)(base:Nat):aK w base (.slice none 0 0) []:=a1x _ _ _ _
theorem aK.lit(w:World)(base:Nat)(hb:base<=w.heap.size):aK (w.alloc (.cells #[] 5)) base (.slice (some ⟨w.heap.size,0,none⟩) 0 0) []:=a0P w #[] 0 hb (by unfold maxLen;omega) rfl
theorem bO{base:Nat}{l:List UInt8}{b:UInt8}(a:l.length=n)(h:x.ownsRow base 5 1 v (n+1) (bW l++[.int .u8 (b.toNat:Int)])):aK x base v (l++[b]):=by
 subst a;show World.ownsRow _ _ _ _ _ (l++[b]).length _;simpa[bW]using h
theorem Tryz.infoU8:(prog.info? 5).map (fun i=>(i.zero,i.size,i.bytes))=some (some (.int .u8 0),1,1):=by kernel_rfl
theorem one_byte(x:Int):∀u∈[Value.int .u8 x],u.oneCell'=true:=by
 intro u a;simp at a;subst a;rfl
theorem aK.text{base:Nat}{l:List UInt8}(h:aK w base v l) :
  (convert 22 9 v).run prog w = .ok (.string ⟨l.toArray⟩) w:=by
 rcases h.2 with⟨e,b⟩|⟨g,cap,a,e,_⟩
 . have d:l=[]:=a1P b;subst d;rw[e];rw[run_convert_bytes_string w _ _ _ none 0 0 a0S a2C a1T];rfl
 .
  rw[e];exact a3J w _ _ _ ⟨g,0,none⟩ cap l a0S a2C a1T (fun j c=>by
   have:=a1Q h (g:=g) (by rw[e];rfl) j (.int .u8 (l[j].toNat:Int)) (by simp[bW,c]);exact this)
def mr(w:World)(a:Option Addr)(l:List (Int×Int)):Prop:=
 0<l.length->∃g o,a=some ⟨g,o,none⟩/\g<w.heap.size/\∀i,i<l.length->w.cell? ⟨g,o+i*2,none⟩=some (.int .i64 (l.getD i (0,0)).1)/\w.cell? ⟨g,o+i*2+1,none⟩=some (.int .i64 (l.getD i (0,0)).2)
theorem mr.later(h:mr w a l)(hb:Below w.heap.size w w'):mr w' a l:=by
 intro f;obtain⟨g,o,e,b,c⟩:=h f;refine⟨g,o,e,a0i b hb.size,fun i d=>⟨?_,?_⟩⟩
 . exact(hb.cell (p:=⟨g,o+i*2,none⟩) b).trans (c i d).1
 . exact(hb.cell (p:=⟨g,o+i*2+1,none⟩) b).trans (c i d).2
def fI:List (Int×Int)->List Value
 | []=>[]
 | p :: l=>.int .i64 p.1 :: .int .i64 p.2 :: fI l
theorem tN(l m:List (Int×Int)):fI (l++m)=fI l++fI m:=by
 induction l with
 | nil=>rfl
 | cons p l ih=>simp[fI,ih]
theorem BB(l:List (Int×Int))(i:Nat)(h:i<l.length):(fI l)[i*2]?=some (.int .i64 (l.getD i (0,0)).1)/\(fI l)[i*2+1]?=some (.int .i64 (l.getD i (0,0)).2):=by
 induction l generalizing i with
 | nil=>simp at h
 | cons p l ih=>
  cases i with
  | zero=>simp[fI]
  | succ i=>
   have:=ih i (by simpa using h);rw[show(i+1)*2=i*2+1+1 by omega];simpa[fI]using this
def Pcs(w:World)(base:Nat)(v:Value)(l:List (Int×Int)):Prop:=w.ownsRow base 173 2 v l.length (fI l)
theorem Pcs.form{base:Nat}(h:Pcs w base v l):∃a cap,v = .slice a l.length cap:=by
 rcases h.2 with⟨e,b⟩|⟨g,cap,_,e,_⟩
 . exact⟨none,0,by rw[e,b]⟩
 . exact⟨_,cap,e⟩
theorem Pcs.row{base:Nat}{cap:Nat}(h:Pcs w base (.slice a l.length cap) l):mr w a l:=by
 intro k;rcases h.2 with⟨_,m⟩|⟨g,b,d,e,hb,f,n⟩
 . omega
 . simp only[a0O]at e;obtain⟨rfl,_,rfl⟩:=e;refine⟨g,0,rfl,(Array.getElem?_eq_some_iff.1 f).1,fun i j=>?_⟩;have c:=BB l i j;have c1:=a02 h (i*2) (by omega);have c2:=a02 h (i*2+1) (by omega);rw[a0B];exact⟨c1.trans c.1,c2.trans c.2⟩
theorem Pcs.later{base:Nat}(h:Pcs w base v l)(hb:Below B w w')(a:w.heap.size<=B):Pcs w' base v l:=
 a1y h (row:=none) ⟨hb.os,hb.tape,hb.output,hb.size,fun k b _=>hb.block k (by omega)⟩ (by
  cases c:v.ownBlock with
  | none=>exact .inl rfl
  | some k=>exact .inr (by simp))
theorem Tryz.infoPiece:(prog.info? 173).map (fun i=>(i.zero,i.size,i.bytes))=some (some (.agg #[.int .i64 0,.int .i64 0]),2,16):=by kernel_rfl
theorem Pcs.news{base cap:Nat}(h:Pcs w base (.slice (some ⟨g,0,none⟩) l.length cap) l):∀j u,(fI l)[j]?=some u->w.cell? ((⟨g,0,none⟩:Addr).add j)=some u:=
 a1Q h rfl
theorem yZ{base:Nat}{a b:Int}(h:x.ownsRow base 173 2 v (l.length+1) (fI l++[.int .i64 a,.int .i64 b])):Pcs x base v (l++[(a,b)]):=by
 show World.ownsRow _ _ _ _ _ (l++[(a,b)]).length _;rw[tN];simpa[fI]using h
theorem Pcs.formN{base:Nat}(b:l.length=n)(h:Pcs w base v l):∃a cap,v = .slice a n cap:=by
 subst b;exact h.form
theorem Pcs.own{base:Nat}(a:l.length=n)(h:Pcs w base v l):w.ownsRow base 173 2 v n (fI l):=by
 subst a;exact h
theorem Pcs.rowN{base:Nat}{cap:Nat}(b:l.length=n)(h:Pcs w base (.slice a n cap) l):mr w a l:=by
 subst b;exact h.row
theorem Mm(w:World)(x y:Value)(t:TypeId):∀(j:Nat) (u:Value),[x,y][j]?=some u->(w.alloc (.cells #[x,y] t)).cell? ((⟨w.heap.size,0,none⟩:Addr).add j)=some u:=by
 intro j u a
 match j,a with
 | 0,a=>simp at a;subst a;simp[Addr.add]
 | 1,a=>simp at a;subst a;simp[Addr.add]
theorem Mk(x y:Int):∀u∈[Value.int .i64 x,Value.int .i64 y],u.oneCell'=true:=by
 intro u a;simp at a;rcases a with rfl|rfl<;>rfl
open Corb
def bm(l:List (Int×Int)):Bool:=l.all (fun p=>pOk p.1 p.2)
theorem Ah(l:List (Int×Int))(k:Nat)(h:k<l.length):bm (l.take (k+1))=(bm (l.take k)&&pOk (l.getD k (0,0)).1 (l.getD k (0,0)).2):=by
 rw[a1i h,bm,a18]
 congr 1
 simp[List.getD,h]
theorem tu(h:bm (l.take k)=false):bm l=false:=by
 rw[←a2Y]at h ⊢;intro h2;apply h;simp only[bm,a06]at h2 ⊢;intro x a;exact h2 x (a19 a)
def bJ(l:List (Int×Int)):Int:=(l.map (·.2)).sum
def lOk(l:List (Int×Int)):Bool:=bm l&&decide (l.length<=4000)
def nS(l:List (Int×Int)):Int:=if lOk l=true then bJ l else -1
theorem uI(h:lOk l=true):nS l=bJ l:=a0e h
theorem si(h:lOk l=false):nS l = -1:=a0d (by simp[h])
theorem JS(l:List (Int×Int))(k:Nat)(h:k<l.length):bJ (l.take (k+1))=bJ (l.take k)+(l.getD k (0,0)).2:=by
 rw[a1i h,bJ,a1d,List.sum_append];simp[bJ,List.getD,h]
theorem BU(h:bm l=true):0<=bJ l/\bJ l<=16*(l.length:Int):=by
 induction l with
 | nil=>simp[bJ]
 | cons p l ih=>
  simp only[bm,a2q,a0n]at h;have a:=aV.1 h.1;have h2:=ih h.2;simp only[bJ,a0K,a0V,a0J]at h2 ⊢;omega
theorem DO(h:bm l=true)(k:Nat)(a:k<l.length):pOk (l.getD k (0,0)).1 (l.getD k (0,0)).2=true:=by
 simp only[bm,a06]at h;have e:l.getD k (0,0)=l[k]:=by simp[List.getD,a]
 rw[e];exact h _ (a1A a)
theorem kh(h:bm l=true)(k:Nat):bm (l.take k)=true:=by
 simp only[bm,a06]at h ⊢;exact fun x a=>h x (a19 a)
theorem fX(a:Option Addr)(cap:Nat)(l:List (Int×Int))(w:World)(h:mr w a l)(D:l.length<=1000000000) :
  CD 158 #[.slice a l.length cap] w (.int .i64 (nS l)):=by
 by_cases A:(l.length:Int)<=4000
 .
  go_enter func158,ntmps158;go_wp2_with fail
  go_loopw [3,5,11] (fun n _ i wr=>∃k:Nat,k<=l.length/\i = .int .i64 k/\n = .int .i64 (bJ (l.take k))/\bm (l.take k)=true/\Below w.heap.size w wr) (fun _ _ i _=>l.length-(intOf i).toNat)
  case atStart=>exact⟨0,a0h _,rfl,rfl,rfl,a0c _ _⟩
  case round=>
   obtain⟨k,C,rfl,rfl,c,b⟩:=hrel;obtain⟨s0,s1⟩:=BU c;have s2:((l.take k).length:Int)<=4000:=by simp;omega
   have s3:bJ (l.take k)<=64000:=by omega
   by_cases j:k<l.length
   .
    obtain⟨g,o,rfl,B,r⟩:=(h.later b) (by omega);obtain⟨c0,c1⟩:=r k j;have v:=af (JS l k j);have q:=af (Ah l k j);have f:=af c;clear r h c s1 s2;generalize (l.getD k (0,0)).1=x at *
    generalize (l.getD k (0,0)).2=y at *
    cases m:pOk x y
    .
     have t:Hid (nS l = -1):=si (by
      have:bm l=false:=tu (k:=k+1) (by rw[ae q,m];simp);simp[lOk,this])
     generalize bJ (l.take k)=S at *
     go_wp2_with (go_at_call 196;refine(p7 _ _ _).mono ?_;rintro e w1 ⟨rfl,d⟩);go_ret;exact⟨aO (ae t).symm,(b.alloc b.size _).trans (d.mono (by have:=b.size;simp;omega))⟩
    .
     obtain⟨⟨y0,y1⟩,_⟩:=aV.1 m;generalize bJ (l.take k)=S at *
     go_wp2_with (go_at_call 196;refine(p7 _ _ _).mono ?_;rintro e w1 ⟨rfl,d⟩;have z:w1.cell? ⟨wr.heap.size,1,none⟩=some (.int .i64 y):=(d.cell (p:=⟨wr.heap.size,1,none⟩) (by simp)).trans (by simp));go_roundw
     case rel=>exact⟨k+1,by omega,by go_num,by rw[ae v],by rw[ae q,ae f,m];rfl,(b.alloc b.size _).trans (d.mono (by have:=b.size;simp;omega))⟩
     case measure=>simp[intOf];omega
   .
    have s:Hid (nS l=bJ (l.take k)):=by
     rw[a0D (by omega)]at c ⊢;exact uI (by simp[lOk,c];omega)
    clear h c;go_wp2;go_ret;exact⟨aO (ae s).symm,b⟩
 . have u:Hid (nS l = -1):=si (by simp[lOk];omega);go_enter func158,ntmps158;go_wp2;go_ret;exact⟨aO (ae u).symm,a0c _ _⟩
def cf(t:TypeId)(w w':World):Prop:=∀(k:Nat) (c:Array Value) (f:Nat×Nat),w.heap[k]?=some (Obj.cells c t f)->w'.heap[k]?=some (Obj.cells c t f)
theorem cf.refl(t:TypeId)(w:World):cf t w w:=fun _ _ _ h=>h
theorem cf.trans(h:cf t w w1)(k:cf t w1 w2):cf t w w2:=fun j c f a=>k j c f (h j c f a)
theorem lC{o:Obj}(h:w.heap[k]?=some o):k<w.heap.size:=(Array.getElem?_eq_some_iff.1 h).1
theorem cf.below(h:Below w.heap.size w w'):cf t w w':=fun j _ _ a=>(h.block j (lC a)).trans a
theorem cf.alloc(h:cf t w w')(o:Obj):cf t w (w'.alloc o):=fun j c f a=>(a2m w' o j (lC (h j c f a))).trans (h j c f a)
theorem cf.drew(h:cf t w w'):cf t w w'.drew:=h
theorem cf.set{o:Nat}{c:Array Value}(h:cf t w w')(e:w'.heap[g]?=some (.cells c t' f))(b:t≠t')(u:Value):cf t w (w'.setCell ⟨g,o,none⟩ u):=by
 intro j d f' i;have a:=h j d f' i;rw[a0T w' ⟨g,o,none⟩ u j (by
  show j≠g;rintro rfl;rw[e]at a;simp only[a0m,a29]at a;exact b a.2.1.symm)]
 exact a
theorem cf.own{base size:Nat}(h:cf t w w')(d:w.ownsRow base t size v n xs):w'.ownsRow base t size v n xs:=by
 refine⟨d.1,?_⟩;rcases d.2 with e|⟨g,cap,a,rfl,b,c,rest⟩
 . exact .inl e
 . exact .inr ⟨g,cap,a,rfl,b,h g _ _ c,rest⟩
theorem cf.touch{c:Array Value}(d:w.heap[g]?=some (.cells c t' f))(b:t≠t')(h:Touch (some ⟨g,0,none⟩) w w'):cf t w w':=by
 intro j i f' a;rw[h.2 j (fun g' e=>by
  simp only[a0m,a0F,a1a]at e;subst e;rintro rfl;rw[d]at a;simp only[a0m,a29]at a;exact b a.2.1.symm)]
 exact a
theorem cf.grown{base size:Nat}(h:cf t w w1)(m:w1.ownsRow base t' size v n xs)(d:t≠t')(k:w1.grownBy w2 v.ownBlock):cf t w w2:=by
 intro j c f l;have a:=h j c f l;rw[k.block j (lC a) (by
  intro e;rcases m.2 with⟨rfl,_⟩|⟨g,cap,i,rfl,_,b,_⟩
  . cases e
  . simp only[Value.ownBlock,a0m]at e;subst e;rw[b]at a;simp only[a0m,a29]at a;exact d a.2.1.symm)]
 exact a
theorem rH{x y z:Value}(h:w.heap[b]?=some (Obj.cells #[x,y,z] t)):w.cell? ⟨b,0,none⟩=some x/\w.cell? ⟨b,1,none⟩=some y/\w.cell? ⟨b,2,none⟩=some z/\b<w.heap.size:=
 ⟨by simp[World.cell?,h],by simp[World.cell?,h],by simp[World.cell?,h],(Array.getElem?_eq_some_iff.1 h).1⟩
theorem xS{x y:Value}(h:w.heap[b]?=some (Obj.cells #[x,y] t)):w.cell? ⟨b,0,none⟩=some x/\w.cell? ⟨b,1,none⟩=some y/\b<w.heap.size:=
 ⟨by simp[World.cell?,h],by simp[World.cell?,h],(Array.getElem?_eq_some_iff.1 h).1⟩
theorem alloc_at(w:World)(o:Obj):(w.alloc o).heap[w.heap.size]?=some o:=Array.getElem?_push_size
def krN(b:Int):Nat:=if 0<b then p2 (15-b).toNat else 0
def kr(l:List Int):Nat:=(l.map krN).sum
def us(l:List Int):Nat:=(l.map (fun b=>if 0<b then 1 else 0)).sum
def inL(l:List Int):Bool:=l.all (fun b=>inB b 0 15)
def kc(l:List Int):Bool:=decide (kr l=32768) || (decide (us l=1)&&decide (kr l=16384))
def ay(l:List Int):Bool:=inL l&&decide (l.length<=300)&&kc l
theorem vZ(l:List Int)(k:Nat)(h:k<l.length):kr (l.take (k+1))=kr (l.take k)+krN (l.getD k 0):=by
 rw[dy l k h];simp[kr]
theorem qT(l:List Int)(k:Nat)(h:k<l.length):us (l.take (k+1))=us (l.take k)+(if 0<l.getD k 0 then 1 else 0):=by
 rw[dy l k h];simp[us]
theorem xR(l:List Int)(k:Nat)(h:k<l.length):inL (l.take (k+1))=(inL (l.take k)&&inB (l.getD k 0) 0 15):=by
 rw[dy l k h];simp[inL]
theorem AY(b:Int):krN b<=32768:=by
 unfold krN
 split
 . have h2:2 ^ (15-b).toNat<=2 ^ 15:=a0W (by omega) (by omega);have a:p2 (15-b).toNat=2 ^ (15-b).toNat:=rfl;omega
 . omega
theorem MD(l:List Int):kr l<=32768*l.length:=by
 induction l with
 | nil=>simp[kr]
 | cons b l ih=>
  have:=AY b;simp only[kr,a0K,a0V,a0J]at ih ⊢;omega
theorem zN(l:List Int):us l<=l.length:=by
 induction l with
 | nil=>simp[us]
 | cons b l ih=>
  simp only[us,a0K,a0V,a0J]at ih ⊢
  split<;>omega
theorem vX{l:List Int}(h:k<l.length)(a:inB (l.getD k 0) 0 15=false):inL l=false:=by
 rcases hb:inL l with _|_
 . rfl
 . have:=a06.1 hb (l.getD k 0) (by simp[List.getD,h]);rw[a]at this;exact absurd this (by simp)
theorem rU(a:Option Addr)(cap n:Nat)(l:List Int)(w:World)(v:l.length=n)(h:bn w a l)(s:n<=1048576) :
  Calls prog 265 #[.slice a n cap] w fun e w'=>e = .returned (.int .i64 (us l:Nat))/\w'=w:=by
 subst v;have t:(l.length:Int)<=1048576:=by omega
 clear s;go_enter func265,ntmps265;go_wp2_with fail
 go_loop [3,4] (fun n i=>∃k:Nat,k<=l.length/\i = .int .i64 k/\n = .int .i64 (us (l.take k):Nat)) (fun _ i=>l.length-(intOf i).toNat)
 case atStart=>exact⟨0,a0h _,rfl,rfl⟩
 case round=>
  obtain⟨k,r,rfl,rfl⟩:=hrel;by_cases c:k<l.length
  .
   obtain⟨g,o,rfl,x,m⟩:=h (by omega);have c0:=m k c;have d:=af (qT l k c);have j:=zN (l.take k);have p:(us (l.take k):Int)<=1048576:=by
    have:(l.take k).length<=l.length:=by simp;omega
    omega
   clear m r h j;generalize l.getD k 0=y at *
   generalize us (l.take k)=u at *
   by_cases q:0<y
   .
    have b:Hid (us (l.take (k+1))=u+1):=by have:=ae d;rw[a0e q]at this;exact this
    go_wp2
    go_round
    case rel=>exact⟨k+1,by omega,by go_num,by rw[ae b];go_num⟩
    case measure=>simp[intOf];omega
   .
    have b:Hid (us (l.take (k+1))=u):=by have:=ae d;rw[a0d q]at this;exact this
    go_wp2
    go_round
    case rel=>exact⟨k+1,by omega,by go_num,by rw[ae b]⟩
    case measure=>simp[intOf];omega
  . have f:Hid (l.take k=l):=a0D (by omega);clear h;go_wp2;go_ret;exact⟨aO (by rw[ae f]),rfl⟩
theorem lF{l:List Int}(h:inL l=false∨300<l.length):ay l=false:=by
 unfold ay;rcases h with h|h
 . simp[h]
 . rw[a0j (by omega)];simp
theorem r9{l:List Int}(h:inL l=true)(a:l.length<=300):ay l=kc l:=by
 simp[ay,h,a]
theorem iC(a:Option Addr)(cap n:Nat)(l:List Int)(w:World)(G:l.length=n)(h:bn w a l)(M:n<=1048576) :
  Calls prog 257 #[.slice a n cap] w fun e w'=>e = .returned (.bool (ay l))/\w'=w:=by
 subst G;have Q:(l.length:Int)<=1048576:=by omega
 have I:=af M;clear M;go_enter func257,ntmps257;go_wp2_with fail
 go_loopw [3,4] (fun n i wr=>∃k:Nat,k<=l.length/\i = .int .i64 k/\n = .int .i64 (kr (l.take k):Nat)/\inL (l.take k)=true/\wr=w) (fun _ i _=>l.length-(intOf i).toNat)
 case atStart=>exact⟨0,a0h _,rfl,rfl,rfl,rfl⟩
 case round=>
  obtain⟨k,P,rfl,rfl,d,rfl⟩:=hrel;have r:=af d;have E:=MD (l.take k);have F:(l.take k).length<=l.length:=by simp;omega
  have D:(kr (l.take k):Int)<=34359738368:=by have:=ae I;omega
  clear d E F;by_cases j:k<l.length
  .
   obtain⟨g,o,rfl,R,J⟩:=h (by omega);have c0:=J k j;have B:=af (vZ l k j);have hit:=af (xR l k j);have A:=af (fun G=>vX j G);clear J P h;generalize l.getD k 0=y at *
   generalize kr (l.take k)=u at *
   cases t:inB y 0 15
   . have m:=af (lF (a0I (ae A t)));go_wp2_with fail;refine(aE _ _ _ _).mono ?_;rintro e x1 ⟨rfl,rfl⟩;rw[t];go_wp2;go_ret;exact⟨aj (ae m).symm,rfl⟩
   .
    obtain⟨y0,y1⟩:=aG.1 t;have p:Hid (inL (l.take (k+1))=true):=by show inL (l.take (k+1))=true;rw[ae hit,ae r,t];rfl
    by_cases N:0<y
    .
     have f:Hid (krN y=p2 (15-y).toNat):=a0e N;have z:=AY y;rw[ae f]at z;have H:=af (fun W=>ej (15-y) W (by omega));generalize p2 (15-y).toNat=PW at *
     have O:(PW:Int)<=32768:=by omega
     clear z;go_wp2_with fail;refine(aE _ _ _ _).mono ?_;rintro e x1 ⟨rfl,rfl⟩;rw[t];go_wp2_with fail;refine(ae H _).mono ?_;rintro e x2 ⟨rfl,rfl⟩;go_wp2;go_roundw
     case rel=>exact⟨k+1,by omega,by go_num,by rw[ae B,ae f];go_num,ae p,by first|rfl|trivial⟩
     case measure=>simp[intOf];omega
    .
     have f:Hid (krN y=0):=a0d N;go_wp2_with fail;refine(aE _ _ _ _).mono ?_;rintro e x1 ⟨rfl,rfl⟩;rw[t];go_wp2;go_roundw
     case rel=>exact⟨k+1,by omega,by go_num,by rw[ae B,ae f];rfl,ae p,by first|rfl|trivial⟩
     case measure=>simp[intOf];omega
  .
   have s:l.take k=l:=a0D (by omega);rw[s]at D ⊢;have d:inL l=true:=by have:=ae r;rw[s]at this;exact this
   have e14:p2 (14:Int).toNat=16384:=by decide
   have e15:p2 (15:Int).toNat=32768:=by decide
   have E14:=af e14;have E15:=af e15;have v:=af d;clear s r d e14 e15;have C:=af (rU a cap l.length l wr rfl h (ae I));by_cases L:(l.length:Int)<=300
   .
    have q:=af (r9 (ae v) (by omega));clear h;by_cases c:us l=1
    .
     have b:Hid (ay l=(decide (kr l=32768) || decide (kr l=16384))):=by
      show ay l=_;rw[ae q,kc,a0w c,Bool.true_and]
     go_wp2_with fail;refine(ae C).mono ?_;rintro e x1 ⟨rfl,rfl⟩;rw[c];go_wp2_with fail;refine(ej 14 _ (by omega)).mono ?_;rintro e x2 ⟨rfl,rfl⟩;rw[ae E14];go_wp2_with fail;refine(ej 15 _ (by omega)).mono ?_;rintro e x3 ⟨rfl,rfl⟩;rw[ae E15];generalize kr l=K at *
     by_cases x:K=32768
     . subst x;go_wp2;go_ret;exact⟨aj (by rw[ae b];rfl),rfl⟩
     .
      have g1:((K:Int) == 32768)=false:=by simp;omega
      by_cases h2:K=16384
      . subst h2;go_wp2;go_ret;exact⟨aj (by rw[ae b];rfl),rfl⟩
      .
       have g2:((K:Int) == 16384)=false:=by simp;omega
       go_wp2;go_ret;exact⟨aj (by rw[ae b];simp[x,h2]),rfl⟩
    .
     have g0:((us l:Int) == 1)=false:=by simp;omega
     have b:Hid (ay l=decide (kr l=32768)):=by
      show ay l=_;rw[ae q,kc,a0j c,Bool.false_and,Bool.or_false]
     go_wp2_with fail;refine(ae C).mono ?_;rintro e x1 ⟨rfl,rfl⟩;go_wp2_with fail;refine(ej 15 _ (by omega)).mono ?_;rintro e x3 ⟨rfl,rfl⟩;rw[ae E15];generalize kr l=K at *
     by_cases x:K=32768
     . subst x;go_wp2;go_ret;exact⟨aj (by rw[ae b];rfl),rfl⟩
     .
      have g1:((K:Int) == 32768)=false:=by simp;omega
      go_wp2;go_ret;exact⟨aj (by rw[ae b];simp[x]),rfl⟩
   .
    have m:=af (lF (l:=l) (Or.inr (by omega)));clear h;by_cases c:us l=1
    . go_wp2_with fail;refine(ae C).mono ?_;rintro e x1 ⟨rfl,rfl⟩;rw[c];go_wp2_with fail;refine(ej 14 _ (by omega)).mono ?_;rintro e x2 ⟨rfl,rfl⟩;rw[ae E14];go_wp2;go_ret;exact⟨aj (by rw[ae m]),rfl⟩
    .
     have g0:((us l:Int) == 1)=false:=by simp;omega
     go_wp2_with fail;refine(ae C).mono ?_;rintro e x1 ⟨rfl,rfl⟩;go_wp2;go_ret;exact⟨aj (by rw[ae m]),rfl⟩
theorem tI(a:Option Addr)(cap n:Nat)(l:List Int)(w:World)(O:l.length=n)(h:bn w a l)(p:inL l=true)(H:n<=300) :
  Calls prog 291 #[.slice a n cap] w fun e w'=>e = .returned (.bool (kc l))/\w'=w:=by
 subst O;have N:(l.length:Int)<=300:=by omega
 have J:=af H;have z:=af p;clear H p;go_enter func291,ntmps291;go_wp2_with fail
 go_loop [3,4,6,9] (fun u n _ i=>∃k:Nat,k<=l.length/\i = .int .i64 k/\u = .int .i64 (us (l.take k):Nat)/\n = .int .i64 (kr (l.take k):Nat)) (fun _ _ _ i=>l.length-(intOf i).toNat)
 case atStart=>exact⟨0,a0h _,rfl,rfl,rfl⟩
 case round=>
  obtain⟨k,M,rfl,rfl,rfl⟩:=hrel;have C:=MD (l.take k);have F:=zN (l.take k);have D:(l.take k).length<=l.length:=by simp;omega
  have B:(kr (l.take k):Int)<=9830400:=by have:=ae J;omega
  have E:(us (l.take k):Int)<=300:=by omega
  clear C D F;by_cases f:k<l.length
  .
   obtain⟨g,o,rfl,T,m⟩:=h (by omega);have c0:=m k f;have s:=af (vZ l k f);have t:=af (qT l k f);have S:inB (l.getD k 0) 0 15=true:=by
    rcases hb:inB (l.getD k 0) 0 15 with _|_
    . have:=vX f hb;rw[ae z]at this;exact absurd this (by simp)
    . rfl
   clear m M h;generalize l.getD k 0=y at *
   generalize kr (l.take k)=u at *
   generalize us (l.take k)=q at *
   obtain⟨y0,y1⟩:=aG.1 S;by_cases x:0<y
   .
    obtain⟨c,m⟩:∃c:Nat,15-y=(c:Int):=⟨(15-y).toNat,by omega⟩;have d:Hid (krN y=p2 c):=by
     show krN y=p2 c;unfold krN;rw[a0e x,m,a0x]
    have j:=AY y;rw[ae d]at j;have b:Hid (us (l.take (k+1))=q+1):=by have:=ae t;rw[a0e x]at this;exact this
    have P:(1:Int)*2 ^ c=(p2 c:Int):=by rw[Int.one_mul,pd]
    have I:(2:Int) ^ c=(p2 c:Int):=(pd c).symm;generalize p2 c=PW at *
    have L:(PW:Int)<=32768:=by omega
    have Q:IntKind.i64.wrap (15-y)=(c:Int):=by rw[m];exact bp _ (by omega) (by omega)
    have R:IntKind.i64.wrap (PW:Int)=(PW:Int):=bp _ (by omega) (by omega);clear j;go_wp2
    go_round
    case rel=>exact⟨k+1,by omega,by go_num,by rw[ae b];go_num,by rw[ae s,ae d];go_num⟩
    case measure=>simp[intOf];omega
   .
    have d:Hid (krN y=0):=a0d x;have b:Hid (us (l.take (k+1))=q):=by have:=ae t;rw[a0d x]at this;exact this
    go_wp2
    go_round
    case rel=>exact⟨k+1,by omega,by go_num,by rw[ae b],by rw[ae s,ae d];rfl⟩
    case measure=>simp[intOf];omega
  .
   have r:l.take k=l:=a0D (by omega);rw[r]at B E ⊢;have v:Hid (kc l=(decide (kr l=32768) || (decide (us l=1)&&decide (kr l=16384)))):=rfl;clear h r;generalize kr l=K at *
   generalize us l=U at *
   by_cases A:K=32768
   . subst A;go_wp2;go_ret;exact⟨aj (by rw[ae v];rfl),rfl⟩
   .
    have g1:((K:Int) == 32768)=false:=by simp;omega
    by_cases G:U=1
    .
     subst G;by_cases h2:K=16384
     . subst h2;go_wp2;go_ret;exact⟨aj (by rw[ae v];rfl),rfl⟩
     .
      have g2:((K:Int) == 16384)=false:=by simp;omega
      go_wp2;go_ret;exact⟨aj (by rw[ae v];simp[A,h2]),rfl⟩
    .
     have g3:((U:Int) == 1)=false:=by simp;omega
     go_wp2;go_ret;exact⟨aj (by rw[ae v];simp[A,G]),rfl⟩
theorem rD(a:Option Addr)(cap n:Nat)(l:List Int)(w:World)(s:l.length=n)(h:bn w a l)(v:n<=1048576) :
  Calls prog 284 #[.slice a n cap] w fun e w'=>e = .returned (.bool (ay l))/\w'=w:=by
 subst s;by_cases u:(l.length:Int)<=300
 .
  clear v;go_enter func284,ntmps284;go_wp2_with fail
  go_loopw [4,10] (fun _ i wr=>∃k:Nat,k<=l.length/\i = .int .i64 k/\inL (l.take k)=true/\wr=w) (fun _ i _=>l.length-(intOf i).toNat)
  case atStart=>exact⟨0,a0h _,rfl,rfl,rfl⟩
  case round=>
   obtain⟨k,A,rfl,b,rfl⟩:=hrel;have f:=af b;clear b;by_cases d:k<l.length
   .
    obtain⟨g,o,rfl,C,t⟩:=h (by omega);have c0:=t k d;have hit:=af (xR l k d);have j:=af (fun s=>vX d s);clear t A h;generalize l.getD k 0=y at *
    cases r:inB y 0 15
    .
     have c:=af (lF (a0I (ae j r)));rcases dK.1 r with z|z
     . go_wp2;go_ret;exact⟨aj (ae c).symm,rfl⟩
     .
      have B:¬ y<0:=by omega
      go_wp2;go_ret;exact⟨aj (ae c).symm,rfl⟩
    .
     obtain⟨y0,y1⟩:=aG.1 r;have m:Hid (inL (l.take (k+1))=true):=by show inL (l.take (k+1))=true;rw[ae hit,ae f,r];rfl
     go_wp2;go_roundw
     case rel=>exact⟨k+1,by omega,by go_num,ae m,by first|rfl|trivial⟩
     case measure=>simp[intOf];omega
   .
    have p:l.take k=l:=a0D (by omega);have b:inL l=true:=by have:=ae f;rw[p]at this;exact this
    have q:=af (r9 b (by omega));have x:=af (tI a cap l.length l wr rfl h b (by omega));clear p b h;go_wp2_with fail;refine(ae x).mono ?_;rintro e x1 ⟨rfl,rfl⟩;go_wp2;go_ret;exact⟨aj (ae q).symm,rfl⟩
 . have c:=af (lF (l:=l) (Or.inr (by omega)));clear v h;go_enter func284,ntmps284;go_wp2;go_ret;exact⟨aj (ae c).symm,rfl⟩
def inn(l:List Int)(n:Int)(s:Nat×List Int):Nat->Nat×List Int
 | 0=>s
 | k+1=>if l.getD k 0=n then((inn l n s k).1+1,(inn l n s k).2.set k ((inn l n s k).1:Int))else inn l n s k
def a8(l:List Int):Nat->Nat×List Int
 | 0=>(0,List.replicate l.length 0)
 | N+1=>inn l ((N:Int)+1) (2*(a8 l N).1,(a8 l N).2) l.length
theorem qL(l:List Int)(n:Int)(s:Nat×List Int)(k:Nat):(inn l n s k).2.length=s.2.length:=by
 induction k with
 | zero=>rfl
 | succ k ih=>
  simp only[inn]
  split
  . simpa using ih
  . exact ih
theorem bK(l:List Int)(N:Nat):(a8 l N).2.length=l.length:=by
 induction N with
 | zero=>simp[a8]
 | succ N ih=>simp only[a8];rw[qL];exact ih
theorem AR(l:List Int)(n:Int)(s:Nat×List Int)(k:Nat):(inn l n s k).1<=s.1+k:=by
 induction k with
 | zero=>exact a0a _
 | succ k ih=>
  simp only[inn]
  split
  . simp only;omega
  . omega
theorem LK(l:List Int)(N:Nat):(a8 l N).1+l.length<=2 ^ N*l.length:=by
 induction N with
 | zero=>simp[a8]
 | succ N ih=>
  simp only[a8];have h:=AR l ((N:Int)+1) (2*(a8 l N).1,(a8 l N).2) l.length;simp only at h;have e:2 ^ (N+1)*l.length=2*(2 ^ N*l.length):=by rw[a12,a1E (2 ^ N),a2x]
  omega
theorem qQ(l:List Int)(N:Nat)(a:N<=15)(b:l.length<=300):(a8 l N).1<=9830400:=by
 have h:=LK l N;have h2:2 ^ N<=2 ^ 15:=a0W (by omega) a;have c:2 ^ N*l.length<=32768*300:=a2z h2 b;omega
theorem dp(a:Option Addr)(cap n:Nat)(l:List Int)(w:World)(U:l.length=n)(h:bn w a l)(X:n<=300) :
  Calls prog 253 #[.slice a n cap] w fun e w'=>e = .returned (.slice (some ⟨w.heap.size,0,none⟩) n n)/\ax w' w.heap.size (.slice (some ⟨w.heap.size,0,none⟩) n n) (a8 l 15).2/\Below w.heap.size w w':=by
 have ab:(n:Int)<=300:=by omega
 obtain⟨i0,W,G,H,I⟩:=a0s Tryz.infoInt;have u:=af U;have L:=af X;go_enter func253,ntmps253;go_wp2_with (at_make;refine a2a _ rfl _ _ 146 rfl w.heap.size 3 i0 (.int .i64 0) 1 a0L W G H .i64 .i64 _ _ n rfl rfl rfl rfl (by rw[I];omega) (by unfold maxLen;omega) (a0a _) ?_;intro w1 s p);have D:ax w1 w.heap.size (.slice (some ⟨w.heap.size,0,none⟩) n n) (a8 l 0).2:=by
  show ax w1 w.heap.size (.slice (some ⟨w.heap.size,0,none⟩) n n) (List.replicate l.length 0);rw[U];exact eq s
 have z:Below w.heap.size w w1:=(a0c _ _).grown p (a0a _) (fun k h=>by cases h);clear s p W G H I X U
 go_loopw [4,5,6] (fun c m _ wr=>∃N:Nat,N<=15/\m = .int .i64 ((N:Int)+1)/\c = .int .i64 (2*(a8 l N).1:Nat)/\ax wr w.heap.size (.slice (some ⟨w.heap.size,0,none⟩) n n) (a8 l N).2/\Below w.heap.size w wr) (fun _ m _ _=>16-(intOf m).toNat)
 case atStart=>exact⟨0,by omega,rfl,rfl,D,z⟩
 case round=>
  obtain⟨N,Y,rfl,rfl,J,f⟩:=hrel;clear D z;have P:=qQ l N Y (by rw[ae u];exact ae L);have O:((2*(a8 l N).1:Nat):Int)<=19660800:=by omega
  have Z:(N:Int)<=15:=by omega
  by_cases aa:N<15
  .
   have q:Hid ((a8 l N).2.length=n):=(bK l N).trans (ae u);have A:Hid (a8 l (N+1)=inn l ((N:Int)+1) (2*(a8 l N).1,(a8 l N).2) l.length):=rfl;have t:=af (qQ l (N+1) (by omega) (by rw[ae u];exact ae L));generalize M:((2*(a8 l N).1,(a8 l N).2):Nat×List Int)=S at *
   have v:2*(a8 l N).1=S.1:=by rw[←M]
   have x:(a8 l N).2=S.2:=by rw[←M]
   rw[v]at O ⊢;rw[x]at J q;clear M v x P;go_wp2_with fail
   go_loopw [4,6] (fun c i wr=>∃k:Nat,k<=n/\i = .int .i64 k/\c = .int .i64 ((inn l ((N:Int)+1) S k).1:Nat)/\ax wr w.heap.size (.slice (some ⟨w.heap.size,0,none⟩) n n) (inn l ((N:Int)+1) S k).2/\Below w.heap.size w wr) (fun _ i _=>n-(intOf i).toNat)
   case atStart=>exact⟨0,a0h _,rfl,rfl,J,f⟩
   case round=>
    obtain⟨k,hk,rfl,rfl,hq,hb⟩:=hrel;clear J f;have r:Hid ((inn l ((N:Int)+1) S k).2.length=n):=(qL _ _ _ _).trans (ae q);have R:=AR l ((N:Int)+1) S k;have C:((inn l ((N:Int)+1) S k).1:Int)<=19661100:=by have:=ae L;omega
    clear R;by_cases B:k<n
    .
     obtain⟨g,o,rfl,hg,V⟩:=(h.later hb) (by rw[ae u];omega);have c0:=V k (by rw[ae u];exact B);obtain⟨d0,f0,_,_⟩:=hq.at (ae r) B;have F:Hid (inn l ((N:Int)+1) S (k+1)=if l.getD k 0=(N:Int)+1 then((inn l ((N:Int)+1) S k).1+1,(inn l ((N:Int)+1) S k).2.set k ((inn l ((N:Int)+1) S k).1:Int))else inn l ((N:Int)+1) S k):=rfl;clear V hk h;generalize l.getD k 0=y at *
     generalize inn l ((N:Int)+1) S k=T at *
     by_cases K:y=(N:Int)+1
     .
      have b:Hid (inn l ((N:Int)+1) S (k+1)=(T.1+1,T.2.set k (T.1:Int))):=by have:=ae F;rw[a0e K]at this;exact this
      have E:=af (hq.put (j:=k) (ae r) (T.1:Int));subst K;generalize T.2.getD k 0=d at *
      go_wp2;go_roundw
      case rel=>exact⟨k+1,by omega,by go_num,by rw[ae b];go_num,by rw[ae b];exact ae E,ap hb (a0a _) _⟩
      case measure=>simp[intOf];omega
     .
      have b:Hid (inn l ((N:Int)+1) S (k+1)=T):=by have:=ae F;rw[a0d K]at this;exact this
      have g1:(y == (N:Int)+1)=false:=by simpa using K
      go_wp2;go_roundw
      case rel=>exact⟨k+1,by omega,by go_num,by rw[ae b],by rw[ae b];exact hq,hb⟩
      case measure=>simp[intOf];omega
    .
     have Q:k=l.length:=by have:=ae u;omega
     subst Q;rw[←ae A]at hq C ⊢;have ac:((a8 l (N+1)).1:Int)<=9830400:=by have:=ae t;omega
     go_wp2;go_roundw
     case rel=>exact⟨N+1,by omega,by go_num,by go_num,hq,hb⟩
     case measure=>simp[intOf];omega
  .
   obtain rfl:N=15:=by omega
   go_wp2;go_ret;exact⟨rfl,J,f⟩
def many(l:List Int)(n:Int):Nat->Nat
 | 0=>0
 | k+1=>if l.getD k 0=n then many l n k+1 else many l n k
def syms(l:List Int)(n:Int)(s:List Int):Nat->List Int
 | 0=>s
 | k+1=>if l.getD k 0=n then syms l n s k++[(k:Int)]else syms l n s k
def cK(l:List Int):Nat->List Int
 | 0=>[]
 | N+1=>syms l ((N:Int)+1) (cK l N) l.length
def fF(l:List Int)(N j:Nat):Nat:=if 1<=j/\j<=N then many l (j:Int) l.length else 0
def fe(w:World)(b:Nat)(vl vc vs:Value)(m:Nat->Nat):Prop:=
 w.cell? ⟨b,0,none⟩=some vl/\w.cell? ⟨b,1,none⟩=some vc/\(∀j,j<16->w.cell? ⟨b,2+j,none⟩=some (.int .i64 (m j:Nat)))/\w.cell? ⟨b,18,none⟩=some vs/\(∀o,w.frozen? ⟨b,o,none⟩=false)/\b<w.heap.size
theorem fe.kept(h:fe w b vl vc vs m)(hb:Below (b+1) w w'):fe w' b vl vc vs m:=by
 obtain⟨c0,c1,c2,c3,f,c⟩:=h;have a:=a0l b;exact⟨(hb.cell (p:=⟨b,0,none⟩) a).trans c0,(hb.cell (p:=⟨b,1,none⟩) a).trans c1,fun j d=>(hb.cell (p:=⟨b,2+j,none⟩) a).trans (c2 j d),(hb.cell (p:=⟨b,18,none⟩) a).trans c3,fun o=>(hb.frozen (p:=⟨b,o,none⟩) a).trans (f o),a0i c hb.size⟩
theorem fe.other{o:Nat}(h:fe w b vl vc vs m)(d:g≠b)(u:Value):fe (w.setCell ⟨g,o,none⟩ u) b vl vc vs m:=by
 obtain⟨c0,c1,c2,c3,f,a⟩:=h;refine⟨?_,?_,fun j c=>?_,?_,fun o=>by simpa using f o,by simpa using a⟩
 . rw[World.cell?_setCell_other _ _ _ _ (by simp only[ne_eq,a0F];omega)];exact c0
 . rw[World.cell?_setCell_other _ _ _ _ (by simp only[ne_eq,a0F];omega)];exact c1
 . rw[World.cell?_setCell_other _ _ _ _ (by simp only[ne_eq,a0F];omega)];exact c2 j c
 . rw[World.cell?_setCell_other _ _ _ _ (by simp only[ne_eq,a0F];omega)];exact c3
theorem fe.many{x:Nat}(h:fe w b vl vc vs m)(d:i<16):fe (w.setCell ⟨b,2+i,none⟩ (.int .i64 (x:Nat))) b vl vc vs (fun j=>if j=i then x else m j):=by
 obtain⟨c0,c1,c2,c3,f,a⟩:=h;refine⟨?_,?_,fun j c=>?_,?_,fun o=>by simpa using f o,by simpa using a⟩
 . rw[World.cell?_setCell_other _ _ _ _ (by simp only[ne_eq,a0F];omega)];exact c0
 . rw[World.cell?_setCell_other _ _ _ _ (by simp only[ne_eq,a0F];omega)];exact c1
 .
  by_cases e:j=i
  . subst e;rw[World.cell?_setCell_same _ _ _ (c2 j c)];simp
  . rw[World.cell?_setCell_other _ _ _ _ (by simp only[ne_eq,a0F];omega)];simp only[a0d e];exact c2 j c
 . rw[World.cell?_setCell_other _ _ _ _ (by simp only[ne_eq,a0F];omega)];exact c3
theorem fe.sorted(h:fe w b vl vc vs m)(u:Value):fe (w.setCell ⟨b,18,none⟩ u) b vl vc u m:=by
 obtain⟨c0,c1,c2,c3,f,a⟩:=h;refine⟨?_,?_,fun j c=>?_,World.cell?_setCell_same _ _ _ c3,fun o=>by simpa using f o,by simpa using a⟩
 . rw[World.cell?_setCell_other _ _ _ _ (by simp only[ne_eq,a0F];omega)];exact c0
 . rw[World.cell?_setCell_other _ _ _ _ (by simp only[ne_eq,a0F];omega)];exact c1
 . rw[World.cell?_setCell_other _ _ _ _ (by simp only[ne_eq,a0F];omega)];exact c2 j c
theorem IU(l:List Int)(n:Int)(k:Nat):many l n k<=k:=by
 induction k with
 | zero=>exact a0a _
 | succ k ih=>simp only[many];split<;>omega
theorem Bq(l:List Int)(N:Nat):(fun j=>if j=N+1 then many l ((N:Int)+1) l.length else fF l N j)=fF l (N+1):=by
 funext j
 unfold fF;by_cases e:j=N+1
 .
  subst e;rw[a0e rfl,a0e ⟨by omega,by omega⟩]
  congr 1
 .
  rw[a0d e];by_cases h:1<=j/\j<=N
  . rw[a0e h,a0e ⟨h.1,by omega⟩]
  . rw[a0d h,a0d (by omega)]
theorem Br(l:List Int)(N:Nat):(fun j=>if j=N+1 then many l ((N:Int)+1) 0 else fF l N j)=fF l N:=by
 funext j
 by_cases e:j=N+1
 . subst e;rw[a0e rfl];unfold fF;rw[a0d (by omega)];rfl
 . rw[a0d e]
theorem uX(l:List Int)(n:Int)(s:List Int)(k:Nat):(syms l n s k).length<=s.length+k:=by
 induction k with
 | zero=>exact a0a _
 | succ k ih=>
  simp only[syms]
  split
  . simp;omega
  . omega
theorem s9(l:List Int)(N:Nat):(cK l N).length<=N*l.length:=by
 induction N with
 | zero=>simp[cK]
 | succ N ih=>
  have:=uX l ((N:Int)+1) (cK l N) l.length;simp only[cK];rw[a1F,a2R];omega
def nx(l:List Int):Nat->Nat
 | 0=>0
 | N+1=>2*nx l N+many l ((N:Int)+1) l.length
def pl(l:List Int):Nat->Nat
 | 0=>0
 | N+1=>pl l N+many l ((N:Int)+1) l.length
theorem Da(l:List Int)(n:Int)(s:Nat×List Int)(k:Nat):(inn l n s k).1=s.1+many l n k:=by
 induction k with
 | zero=>rfl
 | succ k ih=>
  simp only[inn,many]
  split
  . simp only[ih];omega
  . exact ih
theorem Jc(l:List Int)(N:Nat):(a8 l N).1=nx l N:=by
 induction N with
 | zero=>rfl
 | succ N ih=>simp only[a8,nx];rw[Da,ih]
theorem Lg(l:List Int)(n:Int)(s:Nat×List Int)(k i:Nat)(b:i<s.2.length):(inn l n s k).2.getD i 0=if i<k/\l.getD i 0=n then((s.1+many l n i:Nat):Int)else s.2.getD i 0:=by
 induction k with
 | zero=>simp[inn]
 | succ k ih=>
  simp only[inn]
  split
  case isTrue h=>
   by_cases e:i=k
   .
    subst e;have c:i<(inn l n s i).2.length:=by rw[qL];exact b
    rw[a0e ⟨a0l _,h⟩];simp only[List.getD,List.getElem?_set_self c,a1q];rw[Da]
   .
    have e2:((inn l n s k).2.set k ((inn l n s k).1:Int)).getD i 0=(inn l n s k).2.getD i 0:=by
     simp only[List.getD];rw[List.getElem?_set_ne (Ne.symm e)]
    simp only;rw[e2,ih];by_cases h2:i<k
    . simp[h2,Nat.lt_succ_of_lt h2]
    . rw[a0d (by omega),a0d (by omega)]
  case isFalse h=>
   rw[ih];by_cases e:i=k
   . subst e;rw[a0d (by omega),a0d (fun a=>h a.2)]
   .
    by_cases h2:i<k
    . simp[h2,Nat.lt_succ_of_lt h2]
    . rw[a0d (by omega),a0d (by omega)]
def cY(l:List Int)(i:Nat):Nat:=2*nx l ((l.getD i 0).toNat-1)+many l (l.getD i 0) i
theorem Jd(l:List Int)(N i:Nat)(a:i<l.length):(a8 l N).2.getD i 0=if 1<=l.getD i 0/\l.getD i 0<=(N:Int)then(cY l i:Int)else 0:=by
 induction N with
 | zero=>
  rw[a0d (by omega)];simp[a8,List.getD,a]
 | succ N ih=>
  simp only[a8];rw[Lg _ _ _ _ _ (by simp only[bK];exact a)];simp only;by_cases e:l.getD i 0=(N:Int)+1
  .
   rw[a0e ⟨a,e⟩,a0e ⟨by omega,by omega⟩,Jc];unfold cY;rw[e];have:((N:Int)+1).toNat-1=N:=by omega
   rw[this]
  .
   rw[a0d (fun b=>e b.2),ih];by_cases h2:1<=l.getD i 0/\l.getD i 0<=(N:Int)
   . rw[a0e h2,a0e ⟨h2.1,by omega⟩]
   . rw[a0d h2,a0d (by omega)]
/-! Kraft's sum, by lengths. -/
def krU(N:Nat)(l:List Int):Nat:=(l.map (fun b=>if 0<b/\b<=(N:Int)then p2 (15-b).toNat else 0)).sum
theorem M8(N:Nat)(l:List Int):krU N l<=kr l:=by
 induction l with
 | nil=>exact a0a _
 | cons b l ih=>
  simp only[krU,kr,krN,a0K,a0V]at ih ⊢
  split<;>split<;>omega
theorem Fb(b:Int)(l:List Int)(n:Int)(k:Nat):many (b :: l) n (k+1)=(if b=n then 1 else 0)+many l n k:=by
 induction k with
 | zero=>simp[many]
 | succ k ih=>
  have e:many (b :: l) n (k+1+1)=if (b :: l).getD (k+1) 0=n then many (b :: l) n (k+1)+1 else many (b :: l) n (k+1):=rfl
  have e2:(b :: l).getD (k+1) 0=l.getD k 0:=by simp[List.getD]
  rw[e,e2,ih];simp only[many]
  split<;>split<;>omega
theorem Iw(N:Nat)(a:N<15)(l:List Int):krU (N+1) l=krU N l+many l ((N:Int)+1) l.length*p2 (14-N):=by
 induction l with
 | nil=>simp[krU,many]
 | cons b l ih=>
  rw[a0J,Fb,a1F];simp only[krU,a0K,a0V]at ih ⊢;rw[ih];by_cases e:b=(N:Int)+1
  .
   rw[a0e (by omega),a0d (by omega),a0e e];have:(15-b).toNat=14-N:=by omega
   rw[this];omega
  .
   rw[a0d e];by_cases h:0<b/\b<=(N:Int)
   . rw[a0e h,a0e (by omega)];omega
   . rw[a0d h,a0d (by omega)];omega
theorem NY(l:List Int)(N:Nat)(a:N<=15):nx l N*p2 (15-N)=krU N l:=by
 induction N with
 | zero=>
  have:krU 0 l=0:=by
   induction l with
   | nil=>rfl
   | cons b l ih=>
    simp only[krU,a0K,a0V]at ih ⊢;rw[ih,a0d (by omega)]
  rw[this];simp[nx]
 | succ N ih=>
  rw[Iw N (by omega),←ih (by omega)];have e1:15-N=(14-N)+1:=by omega
  have e2:15-(N+1)=14-N:=by omega
  rw[e1,e2,lM];simp only[nx];rw[a1F,a1E 2,a2x,a1E 2]
theorem NV{l:List Int}(h:ay l=true):kr l<=32768:=by
 simp only[ay,kc,a0n,a1U,a20]at h;omega
theorem MG{l:List Int}(h:ay l=true)(N:Nat)(a:N<=15):nx l N<=p2 N:=by
 have c:=NY l N a;have h2:=M8 N l;have d:=NV h;have e:p2 N*p2 (15-N)=32768:=by
  unfold p2;rw[←a07];have:N+(15-N)=15:=by omega
  rw[this]
 have b:=kS (15-N);exact Nat.le_of_mul_le_mul_right (by omega:nx l N*p2 (15-N)<=p2 N*p2 (15-N)) b
theorem nT{l:List Int}{n:Int}(a:l.getD i 0=n):∀k,i<k->many l n i<many l n k:=by
 intro k b;induction k with
 | zero=>omega
 | succ k ih=>
  by_cases e:i=k
  . subst e;simp only[many];rw[a0e a];omega
  .
   have:=ih (by omega);simp only[many]
   split<;>omega
theorem oO{l:List Int}(h:inL l=true)(a:i<l.length):0<=l.getD i 0/\l.getD i 0<=15:=by
 have:=a06.1 h (l.getD i 0) (by simp[List.getD,a]);exact aG.1 this
theorem hJ{l:List Int}(h:ay l=true):inL l=true:=by
 simp only[ay,a0n]at h;exact h.1.1
theorem tY{l:List Int}(h:ay l=true)(b:i<l.length)(d:1<=l.getD i 0):cY l i<p2 (l.getD i 0).toNat/\cY l i<nx l (l.getD i 0).toNat:=by
 obtain⟨_,hb⟩:=oO (hJ h) b;obtain⟨n,hn⟩:∃n:Nat,l.getD i 0=(n:Int)+1:=⟨(l.getD i 0).toNat-1,by omega⟩;have a:=MG h (n+1) (by omega);have c:=nT hn l.length b;have e1:(l.getD i 0).toNat=n+1:=by omega
 unfold cY;rw[e1,hn];simp only[nx,a3K]at a ⊢;omega
theorem ub{l:List Int}(h:ay l=true)(b:i<l.length):(a8 l 15).2.getD i 0=if 1<=l.getD i 0 then(cY l i:Int)else 0:=by
 rw[Jd l 15 i b];have:=(oO (hJ h) b).2;by_cases a:1<=l.getD i 0
 . rw[a0e a,a0e ⟨a,by omega⟩]
 . rw[a0d a,a0d (by omega)]
/-! Symbols in their order. -/
theorem oo(l:List Int)(n:Int)(s:List Int)(k:Nat):(syms l n s k).length=s.length+many l n k:=by
 induction k with
 | zero=>rfl
 | succ k ih=>
  simp only[syms,many]
  split
  . simp[ih];omega
  . exact ih
theorem om(l:List Int)(N:Nat):(cK l N).length=pl l N:=by
 induction N with
 | zero=>rfl
 | succ N ih=>simp only[cK,pl];rw[oo,ih]
theorem JW(l:List Int)(n:Int)(s:List Int)(k j:Nat)(b:j<s.length):(syms l n s k).getD j 0=s.getD j 0:=by
 induction k with
 | zero=>rfl
 | succ k ih=>
  simp only[syms]
  split
  .
   have a:j<(syms l n s k).length:=by rw[oo];omega
   rw[←ih];simp only[List.getD];rw[List.getElem?_append_left a]
  . exact ih
theorem JU(l:List Int)(n:Int)(s:List Int)(k i:Nat)(d:i<k)(a:l.getD i 0=n):(syms l n s k).getD (s.length+many l n i) 0=(i:Int):=by
 induction k with
 | zero=>omega
 | succ k ih=>
  simp only[syms];by_cases e:i=k
  . subst e;rw[a0e a];simp only[List.getD];rw[List.getElem?_append_right (by rw[oo];omega),oo];simp
  .
   have c:=nT a k (by omega)
   split
   .
    have b:s.length+many l n i<(syms l n s k).length:=by rw[oo];omega
    rw[←ih (by omega)];simp only[List.getD];rw[List.getElem?_append_left b]
   . exact ih (by omega)
theorem FU (l : List Int) (N n i : Nat) (hi : i < l.length) (hn : l.getD i 0 = (n : Int) + 1) (hN : n < N) : (cK l N).getD (pl l n + many l ((n : Int) + 1) i) 0 = (i : Int) := by
  induction N with
  | zero => omega
  | succ N ih =>
    by_cases e : n = N
    . subst e
      simp only [cK]
      rw [← om]
      exact JU l _ _ _ i hi hn
    . simp only [cK]
      have hlt := nT hn l.length hi
      have hmono : pl l (n + 1) ≤ pl l N := by
        have : ∀ a b, a ≤ b → pl l a ≤ pl l b := by
          intro a b hab
          induction b with
          | zero => have : a = 0 := by omega
                    rw [this]; exact a0a _
          | succ b ihb =>
            by_cases e2 : a = b + 1
            . rw [e2]; exact a0a _
            . have := ihb (by omega)
              simp only [pl]; omega
        exact this _ _ (by omega)
      have hp : pl l (n + 1) = pl l n + many l ((n : Int) + 1) l.length := rfl
      rw [JW _ _ _ _ _ (by rw [om]; omega)]
      exact ih (by omega)
theorem Lq(l:List Int)(n:Int)(k t:Nat)(h:t<many l n k):∃i,i<k/\l.getD i 0=n/\many l n i=t:=by
 induction k with
 | zero=>simp[many]at h
 | succ k ih=>
  simp only[many]at h
  split at h
  case isTrue hn=>
   by_cases e:t=many l n k
   . exact⟨k,a0l _,hn,e.symm⟩
   . obtain⟨i,b,a,h2⟩:=ih (by omega);exact⟨i,by omega,a,h2⟩
  case isFalse=>
   obtain⟨i,b,a,h2⟩:=ih h;exact⟨i,by omega,a,h2⟩
def fnd(L G num:Nat):Nat->Nat
 | 0=>0
 | k+1=>if num<(stF L G (k+1)).1 then fnd L G num k else k+1
theorem iZ(L G num k:Nat):fnd L G num k<=k:=by
 induction k with
 | zero=>exact a0a _
 | succ k ih=>simp only[fnd];split<;>omega
theorem sX{L G:Nat}(e:L<=3)(a:1<=G)(b:G<=4)(f:k/G<=15):(stF L G k).1<=200000/\(stF L G k).2<=14:=by
 unfold stF
 split
 . simp only;omega
 .
  have c:p2 (k/G-1)<=p2 14:=a0W (by omega) (by omega);have h2:p2 14=16384:=by decide
  have d:(G+k%G)*p2 (k/G-1)<=8*16384:=a2z (by have:=a05 k a;omega) (by omega);simp only;omega
def me(i:Nat):Int:=if i<144 then 8 else if i<256 then 9 else if i<280 then 7 else 8
def c9(k:Nat):List Int:=(List.range k).map me
theorem df(k:Nat):(c9 k).length=k:=by simp[c9]
theorem ly(k:Nat):c9 (k+1)=c9 k++[me k]:=by simp[c9,List.range_succ]
theorem pV(w:World) :
  Calls prog 236 #[] w fun e w'=>∃v,e = .returned v/\ax w' w.heap.size v (List.replicate 32 5)/\Below w.heap.size w w':=by
 obtain⟨i0,x,q,r,s⟩:=a0s Tryz.infoInt;have o:Hid (ax (w.alloc (.cells #[] 3)) w.heap.size (.slice (some ⟨w.heap.size,0,none⟩) 0 0) []):=ax.lit _ _ (a0a _);have m:Hid (Below w.heap.size w (w.alloc (.cells #[] 3))):=(a0c _ _).alloc (a0a _) _;go_enter func236,ntmps236;go_wp2_with fail
 go_loopw [1,2] (fun v i wr=>∃k:Nat,k<=32/\i = .int .i64 k/\ax wr w.heap.size v (List.replicate k 5)/\Below w.heap.size w wr) (fun _ i _=>32-(intOf i).toNat)
 case atStart=>exact⟨0,a0h _,rfl,ae o,ae m⟩
 case round=>
  obtain⟨k,A,rfl,hq,a⟩:=hrel;have c:Hid ((List.replicate k (5:Int)).length=k):=a0A;obtain⟨va,vc,rfl⟩:=hq.formN (ae c);have y:(k:Int)<=32:=by omega
  by_cases z:k<32
  .
   have u:(k:Int)<32:=by omega
   have p:Hid (List.replicate k (5:Int)++[5]=List.replicate (k+1) 5):=by show _=_;rw[a3c]
   have t:Hid (k+1<=maxLen/\(k+1)*8<=140737488355328):=by show _/\_;unfold maxLen;omega
   have l:=af (hq.own (ae c));have g:=a.size;have f:=af a;clear hq a;go_wp2_with (at_builtin;refine a0v _ rfl _ _ 146 rfl w.heap.size 3 i0 (.int .i64 0) 1 8 a0L x q r s rfl (by decide) (.slice va k vc) _ _ rfl (a0k (ae l) _) ⟨wr.heap.size,0,none⟩ 1 1 [.int .i64 5] rfl rfl (bo _ _ rfl _ _) (eZ _) (ae t).1 (ae t).2 (av g _) ?_;intro v' x2 d b h;clear h);have n:=aI (v:=.slice va k vc) b (ae l) (a0a _) g (ae f);have j:=cF (ae c) d;rw[ae p]at j;clear d b;go_wp2;go_roundw
   case rel=>exact⟨k+1,by omega,by go_num,j,n⟩
   case measure=>simp[intOf];omega
  .
   obtain rfl:k=32:=by omega
   go_wp2;go_ret;exact⟨_,rfl,hq,a⟩
theorem pW(w:World) :
  Calls prog 235 #[] w fun e w'=>∃v,e = .returned v/\ax w' w.heap.size v (c9 288)/\Below w.heap.size w w':=by
 obtain⟨i0,t,p,q,r⟩:=a0s Tryz.infoInt;have x:Hid (ax (w.alloc (.cells #[] 3)) w.heap.size (.slice (some ⟨w.heap.size,0,none⟩) 0 0) (c9 0)):=ax.lit _ _ (a0a _);have u:Hid (Below w.heap.size w (w.alloc (.cells #[] 3))):=(a0c _ _).alloc (a0a _) _;go_enter func235,ntmps235;go_wp2_with fail
 go_loopw [1,2] (fun v i wr=>∃k:Nat,k<=288/\i = .int .i64 k/\ax wr w.heap.size v (c9 k)/\Below w.heap.size w wr) (fun _ i _=>288-(intOf i).toNat)
 case atStart=>exact⟨0,a0h _,rfl,ae x,ae u⟩
 case round=>
  obtain⟨k,D,rfl,hq,o⟩:=hrel;have f:=af (df k);obtain⟨va,vc,rfl⟩:=hq.formN (ae f);have z:(k:Int)<=288:=by omega
  by_cases A:k<288
  .
   have y:(k:Int)<288:=by omega
   have s:Hid (k+1<=maxLen/\(k+1)*8<=140737488355328):=by show _/\_;unfold maxLen;omega
   have h:=af (hq.own (ae f));have g:=o.size;have n:=af o;clear hq o;by_cases B:(k:Int)<144
   .
    have j:Hid (me k=8):=by show _=_;unfold me;rw[a0e (by omega)]
    have m:Hid (c9 k++[8]=c9 (k+1)):=by show _=_;rw[ly,ae j]
    go_wp2_with (at_builtin;refine a0v _ rfl _ _ 146 rfl w.heap.size 3 i0 (.int .i64 0) 1 8 a0L t p q r rfl (by decide) (.slice va k vc) _ _ rfl (a0k (ae h) _) ⟨wr.heap.size,0,none⟩ 1 1 [.int .i64 8] rfl rfl (bo _ _ rfl _ _) (eZ _) (ae s).1 (ae s).2 (av g _) ?_;intro v' x2 b a c;clear c);have l:=aI (v:=.slice va k vc) a (ae h) (a0a _) g (ae n);have d:=cF (ae f) b;rw[ae m]at d;clear b a;go_wp2;go_roundw
    case rel=>exact⟨k+1,by omega,by go_num,d,l⟩
    case measure=>simp[intOf];omega
   .
    by_cases h2:(k:Int)<256
    .
     have j:Hid (me k=9):=by show _=_;unfold me;rw[a0d (by omega),a0e (by omega)]
     have m:Hid (c9 k++[9]=c9 (k+1)):=by show _=_;rw[ly,ae j]
     go_wp2_with (at_builtin;refine a0v _ rfl _ _ 146 rfl w.heap.size 3 i0 (.int .i64 0) 1 8 a0L t p q r rfl (by decide) (.slice va k vc) _ _ rfl (a0k (ae h) _) ⟨wr.heap.size,0,none⟩ 1 1 [.int .i64 9] rfl rfl (bo _ _ rfl _ _) (eZ _) (ae s).1 (ae s).2 (av g _) ?_;intro v' x2 b a c;clear c);have l:=aI (v:=.slice va k vc) a (ae h) (a0a _) g (ae n);have d:=cF (ae f) b;rw[ae m]at d;clear b a;go_wp2;go_roundw
     case rel=>exact⟨k+1,by omega,by go_num,d,l⟩
     case measure=>simp[intOf];omega
    .
     by_cases C:(k:Int)<280
     .
      have j:Hid (me k=7):=by show _=_;unfold me;rw[a0d (by omega),a0d (by omega),a0e (by omega)]
      have m:Hid (c9 k++[7]=c9 (k+1)):=by show _=_;rw[ly,ae j]
      go_wp2_with (at_builtin;refine a0v _ rfl _ _ 146 rfl w.heap.size 3 i0 (.int .i64 0) 1 8 a0L t p q r rfl (by decide) (.slice va k vc) _ _ rfl (a0k (ae h) _) ⟨wr.heap.size,0,none⟩ 1 1 [.int .i64 7] rfl rfl (bo _ _ rfl _ _) (eZ _) (ae s).1 (ae s).2 (av g _) ?_;intro v' x2 b a c;clear c);have l:=aI (v:=.slice va k vc) a (ae h) (a0a _) g (ae n);have d:=cF (ae f) b;rw[ae m]at d;clear b a;go_wp2;go_roundw
      case rel=>exact⟨k+1,by omega,by go_num,d,l⟩
      case measure=>simp[intOf];omega
     .
      have j:Hid (me k=8):=by show _=_;unfold me;rw[a0d (by omega),a0d (by omega),a0d (by omega)]
      have m:Hid (c9 k++[8]=c9 (k+1)):=by show _=_;rw[ly,ae j]
      go_wp2_with (at_builtin;refine a0v _ rfl _ _ 146 rfl w.heap.size 3 i0 (.int .i64 0) 1 8 a0L t p q r rfl (by decide) (.slice va k vc) _ _ rfl (a0k (ae h) _) ⟨wr.heap.size,0,none⟩ 1 1 [.int .i64 8] rfl rfl (bo _ _ rfl _ _) (eZ _) (ae s).1 (ae s).2 (av g _) ?_;intro v' x2 b a c;clear c);have l:=aI (v:=.slice va k vc) a (ae h) (a0a _) g (ae n);have d:=cF (ae f) b;rw[ae m]at d;clear b a;go_wp2;go_roundw
      case rel=>exact⟨k+1,by omega,by go_num,d,l⟩
      case measure=>simp[intOf];omega
  .
   obtain rfl:k=288:=by omega
   go_wp2;go_ret;exact⟨_,rfl,hq,o⟩
theorem tJ(w:World) :
  CD 211 #[] w (.agg #[.int .i64 3,.int .i64 4,.int .i64 28]):=by
 go_enter func211,ntmps211;go_wp2;refine a0R (v:=.agg #[.int .i64 3,.int .i64 4,.int .i64 28]) (by simp[results,results211,go_sem]) rfl ⟨rfl,(a0c _ w).alloc (a0a _) _⟩
theorem tw(w:World) :
  CD 213 #[] w (.agg #[.int .i64 1,.int .i64 2,.int .i64 30]):=by
 go_enter func213,ntmps213;go_wp2;refine a0R (v:=.agg #[.int .i64 1,.int .i64 2,.int .i64 30]) (by simp[results,results213,go_sem]) rfl ⟨rfl,(a0c _ w).alloc (a0a _) _⟩
def sS(l:List ByteArray):List Value:=l.map Value.string
def cS(w:World)(base:Nat)(v:Value)(l:List ByteArray):Prop:=w.ownsRow base 9 1 v l.length (sS l)
theorem cS.form{base:Nat}{l:List ByteArray}(h:cS w base v l):∃a cap,v = .slice a l.length cap:=by
 rcases h.2 with⟨e,b⟩|⟨g,cap,_,e,_⟩
 . exact⟨none,0,by rw[e,b]⟩
 . exact⟨_,cap,e⟩
theorem cS.formN{base:Nat}{l:List ByteArray}(b:l.length=n)(h:cS w base v l):∃a cap,v = .slice a n cap:=by
 subst b;exact h.form
theorem cS.own{base:Nat}{l:List ByteArray}(a:l.length=n)(h:cS w base v l):w.ownsRow base 9 1 v n (sS l):=by
 subst a;exact h
theorem cS.at{base:Nat}{cap:Nat}{l:List ByteArray}(f:l.length=n)(h:cS w base (.slice a n cap) l)(i:0<n) :
  ∃g,a=some ⟨g,0,none⟩/\g<w.heap.size/\∀j,j<n->w.cell? ⟨g,j,none⟩=some (.string (l.getD j ByteArray.empty)):=by
 subst f;rcases h.2 with⟨_,e⟩|⟨g,b,c,e,_⟩
 . omega
 . simp only[a0O]at e;obtain⟨rfl,_,rfl⟩:=e;refine⟨g,rfl,(a0p h g rfl).2,fun j d=>?_⟩;rw[a02 h j (by omega)];simp[sS,d,List.getD]
theorem cS.lit(w:World)(base:Nat)(hb:base<=w.heap.size):cS (w.alloc (.cells #[] 9)) base (.slice (some ⟨w.heap.size,0,none⟩) 0 0) []:=a0P w #[] 0 hb (by unfold maxLen;omega) rfl
theorem jv{base:Nat}{l:List ByteArray}{b:ByteArray}(a:l.length=n)(h:x.ownsRow base 9 1 v (n+1) (sS l++[.string b])):cS x base v (l++[b]):=by
 subst a;show World.ownsRow _ _ _ _ _ (l++[b]).length _;simpa[sS]using h
theorem Tryz.infoStr:(prog.info? 9).map (fun i=>(i.zero,i.size,i.bytes))=some (some (.string ByteArray.empty),1,16):=by kernel_rfl
theorem Dn(x:ByteArray):∀u∈[Value.string x],u.oneCell'=true:=by
 intro u a;simp at a;subst a;rfl
theorem Ay(s:ByteArray)(w:World):∃(c:Nat) (x:World) (cs:Array Value) (f:Nat×Nat),(convert 9 22 (.string s)).run prog w = .ok (.slice (some ⟨w.heap.size,0,none⟩) s.size c) x/\Below w.heap.size w x/\x.heap[w.heap.size]?=some (.cells cs 5 f)/\∀i (h:i<s.size),cs[i]?=some (.int .u8 (s[i].toNat:Int)):=by
 refine⟨_,_,bytesRow s (grownCap w s.size 0 5),((bytesRow s (grownCap w s.size 0 5)).size,(bytesRow s (grownCap w s.size 0 5)).size+1),run_bytes_of_string w _ _ _ s a1T a0S a2C,?_,?_,?_⟩
 . exact((a0c _ w).drew).alloc (by simp) _
 . exact Array.getElem?_push_size
 . intro i h;exact bytesRow_at s (grownCap w s.size 0 5) i h
theorem FM{a:Array Value}(h:w.heap[b]?=some (.cells a t f))(c:a[i]?=some v):w.cell? ⟨b,i,none⟩=some v:=by
 unfold World.cell?;rw[h];exact c
structure bZ (B:Nat) (w w':World):Prop where
 below:Below B w w'
 keep:∀k,k<w.heap.size->(∀cur fr,w.heap[k]?≠some (.cells cur 5 fr))->w'.heap[k]?=w.heap[k]?
theorem bZ.refl(B:Nat)(w:World):bZ B w w:=⟨a0c _ _,fun _ _ _=>rfl⟩
theorem bZ.size(h:bZ B w w'):w.heap.size<=w'.heap.size:=h.1.size
theorem bZ.trans(h:bZ B w w1)(k:bZ B w1 w2):bZ B w w2:=
 ⟨h.1.trans k.1,fun j a b=>(k.2 j (a0i a h.size) (by rw[h.2 j a b];exact b)).trans (h.2 j a b)⟩
theorem bZ.alloc(h:bZ B w w')(b:B<=w'.heap.size)(o:Obj):bZ B w (w'.alloc o):=
 ⟨h.1.alloc b o,fun j a c=>(a2m w' o j (a0i a h.size)).trans (h.2 j a c)⟩
theorem bZ.drew(h:bZ B w w'):bZ B w w'.drew:=⟨h.1.drew,h.2⟩
theorem bZ.later{w'':World}(h:bZ B w w')(hb:Below w'.heap.size w' w'')(b:B<=w'.heap.size):bZ B w w'':=
 ⟨h.1.trans (hb.mono b),fun j a c=>(hb.block j (a0i a h.size)).trans (h.2 j a c)⟩
theorem gn{y y':World}{o:Obj}{size base:Nat}(f:(y.alloc o).grownBy y' v.ownBlock)(k:y.ownsRow base 5 size v n xs)(b:B<=base)(m:B<=y.heap.size)(hb:bZ B x y):bZ B x y':=by
 refine⟨aI f k b m hb.1,fun j h i=>?_⟩;have a:=hb.2 j h i;have d:j<y.heap.size:=a0i h hb.size;rw[f.block j (by simp;omega) ?_,a2m y o j d]
 . exact a
 .
  intro e;rcases k.2 with⟨rfl,_⟩|⟨g,cap,l,rfl,_,c,_⟩
  . cases e
  . simp only[Value.ownBlock,a0m]at e;subst e;rw[c]at a;exact i _ _ a.symm
theorem Bv{base size:Nat}(h:w.ownsRow base 5 size v n xs):∀g,v.ownBlock=some g->∃a fr,w.heap[g]?=some (.cells a 5 fr):=by
 intro g e;rcases h.2 with⟨rfl,_⟩|⟨g',cap,a,rfl,_,b,_⟩
 . cases e
 . simp only[Value.ownBlock,a0m]at e;subst e;exact⟨_,_,b⟩
theorem bZ.grown{y y':World}{row:Option Nat}(h:bZ B x y)(c:y.grownBy y' row)(i:B<=y.heap.size)(k:∀g,row=some g->B<=g)(l:∀g,row=some g->∃a fr,y.heap[g]?=some (.cells a 5 fr)):bZ B x y':=by
 refine⟨h.1.grown c i k,fun j d f=>?_⟩;have b:=h.2 j d f;rw[c.block j (a0i d h.size) ?_]
 . exact b
 . intro e;obtain⟨a,fr,h2⟩:=l j e.symm;rw[h2]at b;exact f _ _ b.symm
theorem ext_list(s:ByteArray)(i j:Nat):(s.extract i j).data.toList=(s.data.toList.drop i).take (j-i):=by
 rw[ByteArray.data_extract,Array.toList_extract]
theorem rk(s t:ByteArray):(s++t).data.toList=s.data.toList++t.data.toList:=by simp
theorem yi(s:ByteArray):s.data.toList.length=s.size:=by simp
theorem rl(s t:ByteArray):(s++t).size=s.size+t.size:=by simp
theorem DW(s t:ByteArray)(k:Nat):(s.extract 0 k++t++s.extract (k+1) s.size).data.toList=s.data.toList.take k++(t.data.toList++s.data.toList.drop (k+1)):=by
 rw[rk,rk,ext_list,ext_list,a17,a3L,a0U]
 congr 2
 rw[a0D];rw[a01,yi];exact a0a _
def qV(s t:ByteArray):Prop:=t=s∨(∃k b,k<s.size/\t.data.toList=s.data.toList.set k b)∨(∃k,k<s.size/\t.data.toList=s.data.toList.take k)∨∃x,t.data.toList=s.data.toList++x
theorem GP(s:ByteArray)(k:Nat)(a:k<s.size)(y:UInt8):qV s (s.extract 0 k++(⟨[y].toArray⟩:ByteArray)++s.extract (k+1) s.size):=by
 refine .inr (.inl ⟨k,y,a,?_⟩);rw[DW,List.set_eq_take_append_cons_drop,a0e (by rw[yi];exact a)];rfl
theorem GN(s:ByteArray)(k:Nat)(a:k<s.size):qV s (s.extract 0 k):=.inr (.inr (.inl ⟨k,a,by rw[ext_list,a17,a3L]⟩))
theorem GM(s x:ByteArray):qV s (s++x):=.inr (.inr (.inr ⟨x.data.toList,rk s x⟩))
theorem oy(s:ByteArray):qV s s:=.inl rfl
theorem Ap(x:World)(n:Nat)(c:n<256) :
  (convert 22 9 (.slice (some ⟨x.heap.size,0,none⟩) 1 1)).run prog (x.alloc (.cells #[.int .u8 (n:Int)] 5)) =
   .ok (.string ⟨[UInt8.ofNat n].toArray⟩) (x.alloc (.cells #[.int .u8 (n:Int)] 5)):=by
 refine a3J _ _ _ 5 ⟨x.heap.size,0,none⟩ 1 [UInt8.ofNat n] a0S a2C a1T (fun j b=>?_);have a:j=0:=by simpa using b
 subst a;have e:((UInt8.ofNat n).toNat:Int)=(n:Int):=by
  rw[a3M];omega
 rw[←e];simp[Addr.add]
def four(a b c d:ByteArray):Nat->ByteArray
 | 0=>a | 1=>b | 2=>c|_=>d
def seven(a b c d e f g:ByteArray):Nat->ByteArray
 | 0=>a | 1=>b | 2=>c | 3=>d | 4=>e | 5=>f|_=>g
theorem xD(w:World)(a b c d:ByteArray)(t:TypeId):∀i,i<4->(w.alloc (.cells #[.string a,.string b,.string c,.string d] t)).cell? ⟨w.heap.size,0+i,none⟩=some (.string (four a b c d i)):=by
 intro i e
 match i,e with
 | 0,_=>simp[four]
 | 1,_=>simp[four]
 | 2,_=>simp[four]
 | 3,_=>simp[four]
theorem zh(w:World)(a b c d e f g:ByteArray)(t:TypeId):∀i,i<7->(w.alloc (.cells #[.string a,.string b,.string c,.string d,.string e,.string f,.string g] t)).cell? ⟨w.heap.size,0+i,none⟩=some (.string (seven a b c d e f g i)):=by
 intro i h
 match i,h with
 | 0,_=>simp[seven]
 | 1,_=>simp[seven]
 | 2,_=>simp[seven]
 | 3,_=>simp[seven]
 | 4,_=>simp[seven]
 | 5,_=>simp[seven]
 | 6,_=>simp[seven]
theorem Es{a b c d:ByteArray}(e:a.size<=n)(hb:b.size<=n)(f:c.size<=n)(hd:d.size<=n)(i:Nat):(four a b c d i).size<=n:=by
 match i with
 | 0=>exact e
 | 1=>exact hb
 | 2=>exact f
 | _+3=>exact hd
theorem BJ{a b c d e f g:ByteArray}(h:a.size<=n)(hb:b.size<=n)(j:c.size<=n)(hd:d.size<=n)(k:e.size<=n)(l:f.size<=n)(m:g.size<=n)(i:Nat):(seven a b c d e f g i).size<=n:=by
 match i with
 | 0=>exact h
 | 1=>exact hb
 | 2=>exact j
 | 3=>exact hd
 | 4=>exact k
 | 5=>exact l
 | _+6=>exact m
theorem of_le(B b m lb lo n cap M:Nat)(v:Nat->ByteArray)(w:World)(h:Rd w B b m)(f:m<=100000)(n1:0<n)(n2:n<=70000)(a:lb≠b)(c:∀i,i<n->w.cell? ⟨lb,lo+i,none⟩=some (.string (v i)))(k:∀i,(v i).size<=M) :
  Calls prog 74 #[.pointer (some ⟨b,0,none⟩),.slice (some ⟨lb,lo,none⟩) n cap] w fun e w'=>∃t:ByteArray,t.size<=M/\e = .returned (.string t)/\Rd w' B b (m+1)/\kw b w w':=by
 refine(Nh B b m lb lo n cap v w h f n1 n2 a c).mono ?_;rintro e w' ⟨i,_,d,j,g⟩;exact⟨v i,k i,d,j,g⟩
theorem Ar{cap:Nat}{l:List UInt8}{base:Nat}(h:w.ownsRow base 5 1 (.slice (some ⟨g,0,none⟩) l.length cap) l.length (l.map fun x=>Value.int .u8 (x.toNat:Int))) :
  (convert 22 9 (.slice (some ⟨g,0,none⟩) l.length cap)).run prog w = .ok (.string ⟨l.toArray⟩) w:=
 a3J w _ _ _ ⟨g,0,none⟩ cap l a0S a2C a1T (fun j a=>by
  have:=h.cells (g:=g) rfl j (.int .u8 (l[j].toNat:Int)) (by simp[a]);exact this)
theorem Tryz.infoByte:(prog.info? 5).map (fun i=>(i.zero,i.size,i.bytes))=some (some (.int .u8 0),1,1):=by kernel_rfl
theorem byte_of(r:Int)(a:0<=r)(b:r<256):∃x:UInt8,(x.toNat:Int)=r:=by
 obtain⟨k,rfl⟩:=a0r a;refine⟨UInt8.ofNat k,?_⟩;have:k%256=k:=a1u (by omega);simp[this]
theorem xW{a: World}{row : Option Nat}(h : Kn b a w)(c : w.grownBy w' row)(g : ∀j, row = some j -> a.heap.size <= j)(hb : b < a.heap.size) : Kn b a w' :=
  ⟨h.1.grown c (a0G (a0y hb) h.2.2) (fun j i => a0G (a0y hb) (g j i)),
   fun k f d => (c.block k (a0i f h.2.2) (fun e => by have := g k e.symm;omega)).trans (h.2.1 k f d),
   a0G h.2.2 c.size⟩
theorem jQ(B b m:Nat)(w:World)(h:Rd w B b m)(hm:m<=90000) :
  Calls prog 83 #[.pointer (some ⟨b,0,none⟩)] w fun e w'=>(∃s:ByteArray,e = .returned (.string s)/\s.size<=400)/\Rd w' B b (m+50)/\Kn b w w':=by
 obtain⟨i0,hi,W,X,Y⟩:=a0s Tryz.infoByte;have J:=h.lt;go_enter func83,ntmps83;go_wp2_with fail;refine(bi B b m _ _ h (by omega) (by omega) (by omega)).mono ?_;rintro e w1 ⟨r,rfl,r0,r1,d,a⟩;have F:=d.lt;by_cases R:r=0
 . subst R;go_wp2;go_ret;exact⟨⟨_,rfl,by decide⟩,d.mono (by omega),a.kn⟩
 have g0:(r == 0)=false:=by simpa using R
 by_cases S:r=1
 . subst S;clear R g0;go_wp2_with fail;refine(of_le B b (m+1) w1.heap.size 0 4 4 6 _ _ (d.alloc _) (by omega) (by omega) (by omega) (a14 F) (xD w1 _ _ _ _ _) (Es (by decide) (by decide) (by decide) (by decide))).mono ?_;rintro e w2 ⟨t0,Q,rfl,p,c⟩;go_wp2_with fail;refine(bi B b (m+2) _ _ p (by omega) (by omega) (by omega)).mono ?_;rintro e w3 ⟨r',rfl,K,Z,v,i⟩;go_wp2_with fail;refine(mG _ _ _ (by omega) (by omega) (by omega)).mono ?_;rintro e w4 ⟨⟨t,rfl,ht⟩,rfl⟩;go_wp2;go_ret;refine⟨⟨t,rfl,?_⟩,v.mono (by omega),((a.kn.trans (dE w1 _ F)).trans c.kn).trans i.kn⟩;rw[ht];have:=a2z Q (show(1+r').toNat<=40 by omega);omega
 have g1:(r == 1)=false:=by simpa using S
 by_cases h2:r=2
 .
  subst h2;clear R S g0 g1;go_wp2_with fail;refine(bi B b (m+1) _ _ (d.alloc _) (by omega) (by omega) (by omega)).mono ?_;rintro e w2 ⟨r',rfl,K,Z,p,c⟩;obtain⟨n0,rfl⟩:=a0r K;have H:w2.ownsRow w.heap.size 5 1 (.slice (some ⟨w1.heap.size,0,none⟩) 0 0) 0 []:=
   uM (a0P w1 #[] 0 a.kn.2.2 (by unfold maxLen;omega) rfl) c J
  have f:=(a.kn.trans (dE w1 (.cells #[] 5) F)).trans c.kn;go_wp2_with fail
  go_loopw [3,4] (fun o n wr=>∃(l:List UInt8) (k:Nat),n = .int .i64 k/\k<=39/\l.length+k<=39/\o ≠ .slice none 0 0/\wr.ownsRow w.heap.size 5 1 o l.length (l.map fun x=>Value.int .u8 (x.toNat:Int))/\Rd wr B b (m+42-k)/\Kn b w wr) (fun _ n _=>(intOf n).toNat)
  case atStart=>exact⟨[],n0,rfl,by omega,by simp;omega,by simp,H,p.mono (by omega),f⟩
  case round=>
   obtain⟨l,k,rfl,hk,T,ad,E,z,y⟩:=hrel;have G:=z.lt;have ac:(k:Int)<=39:=by omega
   have HL:=af T;clear hk T d p a c f H;by_cases hp:(0:Int)<(k:Int)
   .
    go_wp2_with fail;refine(bi B b (m+42-k) _ _ z (by omega) (by omega) (by omega)).mono ?_;rintro e w3 ⟨q,rfl,q0,q1,v,i⟩;obtain⟨x,rfl⟩:=byte_of q q0 q1;have D:=uM E i J;have L:∀j,u3.ownBlock=some j->w.heap.size<=j:=fun j M=>(D.lt j M).1;have U:=v.lt;have A:=y.trans i.kn;clear E z i;go_wp2_with (at_builtin;refine a0v _ rfl _ _ 22 rfl w.heap.size 5 i0 (.int .u8 0) 1 1 a0S hi W X Y rfl (by decide) _ _ _ rfl (D.alloc _) ⟨w3.heap.size,0,none⟩ 1 1 [.int .u8 (x.toNat:Int)] rfl rfl ?c1 ?c2 ?c3 ?c4 ?c5 ?_)
    case c1=>
     intro j u M
     match j,M with
     | 0,M=>simp at M;subst M;simp[Addr.add]
    case c2=>intro u hu;simp at hu;subst hu;rfl
    case c3=>have:=ae HL;unfold maxLen;omega
    case c4=>have:=ae HL;omega
    case c5=>have:=A.2.2;simp;omega
    intro v' w4 I C N;have aa:Rd w4 B b (m+42-k+1):=(v.alloc _).grown C (fun j M=>a0i J (L j M));have O:Kn b w w4:=xW (A.trans (dE w3 _ U)) C L J;have V:v' ≠ .slice none 0 0:=N;have P:w4.ownsRow w.heap.size 5 1 v' (l++[x]).length ((l++[x]).map fun x=>Value.int .u8 (x.toNat:Int)):=by simpa using I
    clear I C D v A N;go_wp2;go_roundw
    case rel=>exact⟨l++[x],k-1,by go_num,by omega,by have:=ae HL;simp;omega,V,P,aa.mono (by omega),O⟩
    case measure=>simp[intOf];omega
   .
    obtain⟨g,cap,rfl⟩:∃g cap,u3 = .slice (some ⟨g,0,none⟩) l.length cap:=by
     rcases E.2 with⟨e,_⟩|⟨g,cap,_,e,_⟩
     . exact absurd e ad
     . exact⟨g,cap,e⟩
    have ab:=Ar E;go_wp2;go_ret;exact⟨⟨_,rfl,by have:=ae HL;simp[ByteArray.size];omega⟩,z.mono (by omega),y⟩
 have g2:(r == 2)=false:=by simpa using h2
 by_cases h3:r=3
 . subst h3;clear R S h2 g0 g1 g2;go_wp2_with (go_at_call 84;refine(mG _ _ _ (by omega) (by omega) (by decide)).mono ?_;rintro e w' ⟨⟨t,rfl,ht⟩,rfl⟩);go_ret;exact⟨⟨t,rfl,by rw[ht];decide⟩,d.mono (by omega),a.kn⟩
 have g3:(r == 3)=false:=by simpa using h3
 clear R S h2 h3;go_wp2_with fail;refine(bi B b (m+1) _ _ d (by omega) (by omega) (by omega)).mono ?_;rintro e w2 ⟨r',rfl,K,Z,p,c⟩;obtain⟨n0,rfl⟩:=a0r K;have f:=a.kn.trans c.kn;go_wp2_with fail
 go_loopw [5,6] (fun o n wr=>∃(s:ByteArray) (k:Nat),o = .string s/\n = .int .i64 k/\k<=11/\s.size+6*k<=66/\Rd wr B b (m+20-k)/\Kn b w wr) (fun _ n _=>(intOf n).toNat)
 case atStart=>exact⟨ByteArray.empty,n0,rfl,rfl,by omega,by show 0+6*n0<=66;omega,p.mono (by omega),f⟩
 case round=>
  obtain⟨s,k,rfl,rfl,hk,Q,z,y⟩:=hrel;have G:=z.lt;have ac:(k:Int)<=11:=by omega
  have al:(s.size:Int)+6*k<=66:=by omega
  have HK:=af hk;clear hk Q d p a c f hi W X Y;by_cases hp:(0:Int)<(k:Int)
  .
   go_wp2_with fail;refine(of_le B b (m+20-k) wr.heap.size 0 7 7 6 _ _ (z.alloc _) (by omega) (by omega) (by omega) (a14 G) (zh wr _ _ _ _ _ _ _ _) (BJ (by decide) (by decide) (by decide) (by decide) (by decide) (by decide) (by decide))).mono ?_;rintro e w3 ⟨t0,an,rfl,v,i⟩;go_wp2;go_roundw
   case rel=>exact⟨s++t0,k-1,rfl,by go_num,by omega,by rw[a0N];omega,v.mono (by omega),(y.trans (dE wr _ G)).trans i.kn⟩
   case measure=>simp[intOf];omega
  . go_wp2;go_ret;exact⟨⟨s,rfl,by omega⟩,z.mono (by omega),y⟩
theorem qz(B b m:Nat)(w:World)(h:Rd w B b m)(k:m<=80000) :
  Calls prog 53 #[.pointer (some ⟨b,0,none⟩)] w fun e w'=>(∃s:ByteArray,e = .returned (.string s)/\s.size<=400)/\Rd w' B b (m+60)/\Kn b w w':=by
 go_enter func53,ntmps53;go_wp2_with fail;refine(bi B b m _ _ h (by omega) (by omega) (by omega)).mono ?_;rintro e w1 ⟨r,rfl,l,n,c,a⟩;by_cases g:r=0
 . subst g;go_wp2_with (go_at_call 84;refine(mG _ _ _ (by omega) (by omega) (by decide)).mono ?_;rintro e w' ⟨⟨t,rfl,j⟩,rfl⟩);go_ret;exact⟨⟨t,rfl,by rw[j];decide⟩,c.mono (by omega),a.kn⟩
 .
  have g0:(r == 0)=false:=by simpa using g
  clear g;go_wp2_with (go_at_call 83;refine(jQ B b (m+1) _ c (by omega)).mono ?_;rintro e w2 ⟨⟨s,rfl,i⟩,f,d⟩);go_ret;exact⟨⟨s,rfl,i⟩,f.mono (by omega),a.kn.trans d⟩
end Go.Proofs.YtkdlcomfpffhhaaGreatDoor
