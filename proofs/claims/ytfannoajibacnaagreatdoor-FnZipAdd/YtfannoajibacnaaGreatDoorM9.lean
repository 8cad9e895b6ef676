/- Texts. -/
import Derived.Deep.RegionHeld3
import Derived.Deep.DrawnRows
import Derived.Test.YtfannoajibacnaaGreatDoorM7
import Derived.Lib.AppendZerosOnto
import Derived.Test.YtfannoajibacnaaGreatDoorM8
set_option linter.all false
set_option maxRecDepth 100000
set_option maxHeartbeats 3200000
namespace Go.Proofs.YtfannoajibacnaaGreatDoor
open Go.Proofs.Tryz
open Go.RowKit Corb
variable {b p:Nat}{s:ByteArray}{v0 v1 v2:Value}{w w':World}
def aq{P:Program}{ops:Array Oper}{Q:Exit->Act->World->Prop}{md:Region.Mode}{S:World->Prop}(i:Nat)(v:Value){o:Oper}{f:Nat}{l:Array Bool}{a:Act}{w:World}(g:ops[i]? = some o)(y:YieldsIf P ops S o v a)(s:S w)(h:wpAnyH P md ops Q S f (l.setIfInBounds i true) (a.put o.dst v) w)(b:(Region.noSelect ops && Region.free md ops l i && (Region.ready md ops l).contains i)=true:=by kernel_rfl)(e:∀c a w,Q (.panic c) (a.put o.dst v) w->Q (.panic c) a w:=by exact fun _ _ _ h=>h):wpAnyH P md ops Q S (f+1) l a w:=by
 simp only[a0k]at b;exact wpAnyH_take g b.1.1 b.1.2 b.2 e y s h
def ag{P:Program}{ops:Array Oper}{Q:Exit->Act->World->Prop}{md:Region.Mode}{S:World->Prop}(i:Nat)(v:Value){o:Oper}{f:Nat}{l:Array Bool}{a:Act}{w:World}(g:ops[i]? = some o)(d:∀w,S w->(execOp a.eval o).run P w = .ok (.value v) w)(s:S w)(h:wpAnyH P md ops Q S f (l.setIfInBounds i true) (a.put o.dst v) w)(b:(Region.noSelect ops && Region.free md ops l i && (Region.ready md ops l).contains i)=true:=by kernel_rfl)(e:∀c a w,Q (.panic c) (a.put o.dst v) w->Q (.panic c) a w:=by exact fun _ _ _ h=>h)(r:Region.wanted o (yielded ops a.tmps)=true:=by exact rfl):wpAnyH P md ops Q S (f+1) l a w:=aq i v g (Or.inl ⟨r,d⟩) s h b e
def ah{P:Program}{ops:Array Oper}{Q:Exit->Act->World->Prop}{md:Region.Mode}{S:World->Prop}(i:Nat){o:Oper}{f:Nat}{l:Array Bool}{a:Act}{w:World}(h:∀K':Act->World->Prop,Shut (∀a w,S w->(S w->wpAnyH P md ops Q S f (l.setIfInBounds i true) a w)->K' a w)->if Region.wanted o (yielded ops a.tmps)=true then Oper.wp P o a w K' Q else K' (a.put o.dst undef) w)(b:ops[i]? = some o:=by exact rfl)(c:Region.ready md ops l=[i]:=by kernel_rfl):wpAnyH P md ops Q S (f+1) l a w:=wpAnyH_ready c (by simp) (AllReadyH.cons b h AllReadyH.nil)
def Three(w:World)(b:Nat)(v0 v1 v2:Value):Prop:=
 w.cell? ⟨b,0,none⟩=some v0/\w.cell? ⟨b,1,none⟩=some v1/\w.cell? ⟨b,2,none⟩=some v2/\w.frozen? ⟨b,0,none⟩=false/\w.frozen? ⟨b,1,none⟩=false/\w.frozen? ⟨b,2,none⟩=false/\b<w.heap.size
def Three.set0(h:Three w b v0 v1 v2)(u:Value):Three (w.setCell ⟨b,0,none⟩ u) b u v1 v2:=by
 obtain⟨c0,c1,c2,f0,f1,f2,hb⟩:=h;refine⟨World.cell?_setCell_same _ _ _ c0,?_,?_,by simpa using f0,by simpa using f1,by simpa using f2,by simpa using hb⟩
 . rw[World.cell?_setCell_other _ _ _ _ (by simp)];exact c1
 . rw[World.cell?_setCell_other _ _ _ _ (by simp)];exact c2
def Three.set1(h:Three w b v0 v1 v2)(u:Value):Three (w.setCell ⟨b,1,none⟩ u) b v0 u v2:=by
 obtain⟨c0,c1,c2,f0,f1,f2,hb⟩:=h;refine⟨?_,World.cell?_setCell_same _ _ _ c1,?_,by simpa using f0,by simpa using f1,by simpa using f2,by simpa using hb⟩
 . rw[World.cell?_setCell_other _ _ _ _ (by simp)];exact c0
 . rw[World.cell?_setCell_other _ _ _ _ (by simp)];exact c2
def Three.set2(h:Three w b v0 v1 v2)(u:Value):Three (w.setCell ⟨b,2,none⟩ u) b v0 v1 u:=by
 obtain⟨c0,c1,c2,f0,f1,f2,hb⟩:=h;refine⟨?_,?_,World.cell?_setCell_same _ _ _ c2,by simpa using f0,by simpa using f1,by simpa using f2,by simpa using hb⟩
 . rw[World.cell?_setCell_other _ _ _ _ (by simp)];exact c0
 . rw[World.cell?_setCell_other _ _ _ _ (by simp)];exact c1
def Three.drew(h:Three w b v0 v1 v2):Three w.drew b v0 v1 v2:=h
def Three.kept(h:Three w b v0 v1 v2)(hb:Below (b+1) w w'):Three w' b v0 v1 v2:=by
 obtain⟨c0,c1,c2,f0,f1,f2,c⟩:=h;have a:=a0j b;exact⟨(hb.cell (p:=⟨b,0,none⟩) a).trans c0,(hb.cell (p:=⟨b,1,none⟩) a).trans c1,(hb.cell (p:=⟨b,2,none⟩) a).trans c2,(hb.frozen (p:=⟨b,0,none⟩) a).trans f0,(hb.frozen (p:=⟨b,1,none⟩) a).trans f1,(hb.frozen (p:=⟨b,2,none⟩) a).trans f2,a0h c hb.size⟩
def rI(k n:Nat)(h:k<=n):p2 k<=p2 n:=a0P (by omega) h
def ak(s:ByteArray):Nat:=di s.data.toList
structure aw (b:Nat) (w w':World):Prop where
 below:Below b w w'
 block:∀k,k<w.heap.size->k≠b->w'.heap[k]?=w.heap[k]?
 cells:∀j,3<=j->w'.cell? ⟨b,j,none⟩=w.cell? ⟨b,j,none⟩/\w'.frozen? ⟨b,j,none⟩=w.frozen? ⟨b,j,none⟩
def aw.refl(b:Nat)(w:World):aw b w w:=⟨a0c _ _,fun _ _ _=>rfl,fun _ _=>⟨rfl,rfl⟩⟩
def aw.trans{w1 w2:World}(h:aw b w w1)(k:aw b w1 w2):aw b w w2:=
 ⟨h.1.trans k.1,fun j a hb=>(k.2 j (a0h a h.1.size) hb).trans (h.2 j a hb),fun j a=>⟨(k.3 j a).1.trans (h.3 j a).1,(k.3 j a).2.trans (h.3 j a).2⟩⟩
def kC(w:World)(b o n:Nat)(u:Value)(d:o<3:=by omega):aw b w ((w.drewN n).setCell ⟨b,o,none⟩ u):=
 ⟨ai (below_drewN (a0c _ _) _) (a0a _) _,fun k _ a=>a0M (w.drewN n) ⟨b,o,none⟩ u k a,fun j c=>⟨by rw[World.cell?_setCell_other _ _ _ _ (by simp only[ne_eq,a0A,a0Q,a1U];omega)];rfl,by simp⟩⟩
def aw.own{base:Nat}{e:TypeId}{size:Nat}{v:Value}{n:Nat}{xs:List Value}(h:aw b w w')(f:w.ownsRow base e size v n xs)(hb:b<base):w'.ownsRow base e size v n xs:=by
 refine⟨f.1,?_⟩;rcases f.2 with i|⟨g,cap,c,rfl,d,a,rest⟩
 . exact .inl i
 . refine .inr ⟨g,cap,c,rfl,d,?_,rest⟩;rw[h.2 g (Array.getElem?_eq_some_iff.1 a).1 (by omega)];exact a
def Rdr(w:World)(b:Nat)(s:ByteArray)(p:Nat):Prop:=
 Three w b (.string s) (.int .i64 (min p (8*s.size):Nat)) (.bool (decide (8*s.size<p)))
def pi(s:ByteArray)(p:Nat)(h:8*s.size<=p):ak s/2 ^ p%2=0:=
 Nk _ _ (by simpa using h)
def xu(s:ByteArray)(p:Nat)(h:p/8<s.size):(s[p/8]).toNat/2 ^ (p%8)%2=ak s/2 ^ p%2:=by
 rw[ak,←TI]
 congr 3
 rw[List.getD_eq_getElem?_getD];have a:p/8<s.data.toList.length:=by simpa using h
 rw[List.getElem?_eq_getElem a];simp;rfl
def Rdr.before(h:Rdr w b s p)(a:p<8*s.size):Three w b (.string s) (.int .i64 (p:Int)) (.bool false):=by
 unfold Rdr at h;rwa[a1r (by omega),a0m (by omega)]at h
def Rdr.next(h:Three w b (.string s) (.int .i64 ((p:Int)+1)) (.bool false))(a:p<8*s.size):Rdr w b s (p+1):=by
 unfold Rdr;rwa[a1r (by omega),a0m (by omega)]
def Rdr.past(h:Rdr w b s p)(a:8*s.size<=p):Three w b (.string s) (.int .i64 (8*s.size:Nat)) (.bool (decide (8*s.size<p))):=by
 unfold Rdr at h;rwa[a3I (by omega)]at h
def Rdr.bad(h:Three w b (.string s) (.int .i64 (8*s.size:Nat)) (.bool true))(a:8*s.size<=p):Rdr w b s (p+1):=by
 unfold Rdr;rwa[a3I (by omega),a0B (by omega)]
def SF(R a:Nat)(w:World)(b:R<=60)(h:p2 R=a) :
  Calls prog 231 #[.int .i64 (R:Int)] w fun e w'=>e = .returned (.int .i64 (a:Int))/\w'=w:=by
 have:=gi (R:Int) w (by omega);rw[a0n,h]at this;exact this
def Rdr.at(h:Rdr w b s p)(a:p<=8*s.size):Three w b (.string s) (.int .i64 (p:Int)) (.bool false):=by
 unfold Rdr at h;rwa[a1r (by omega),a0m (by omega)]at h
def Rdr.kept(h:Rdr w b s p)(hb:Below (b+1) w w'):Rdr w' b s p:=Three.kept h hb
def Rdr.alloc(h:Rdr w b s p)(o:Obj):Rdr (w.alloc o) b s p:=
 h.kept ((a0c _ _).alloc (by have:b<w.heap.size:=h.2.2.2.2.2.2;omega) _)
def Rdr.lt(h:Rdr w b s p):b<w.heap.size:=h.2.2.2.2.2.2
def aw.alloc(h:aw b w w')(hb:b<w'.heap.size)(o:Obj):aw b w (w'.alloc o):=
 ⟨h.1.alloc (a0s hb) o,fun j a c=>(a1k w' o j (a0h a h.1.size)).trans (h.2 j a c),fun j a=>by
  have d:Below w'.heap.size w' (w'.alloc o):=(a0c _ _).alloc (a0a _) o;exact⟨(d.cell (p:=⟨b,j,none⟩) hb).trans (h.3 j a).1,(d.frozen (p:=⟨b,j,none⟩) hb).trans (h.3 j a).2⟩⟩
def SH(w:World)(s:ByteArray)(t:TypeId):Rdr (w.alloc (.cells #[s,.int .i64 0,.bool false] t)) w.heap.size s 0:=by
 unfold Rdr;simp only[Nat.zero_min,Nat.not_lt_zero,decide_false];exact⟨by simp,by simp,by simp,by simp,by simp,by simp,by simp⟩
attribute [local go_sem ↓] Go.wp_at_zero Go.wp_at_succ
def na(b p:Nat)(s:ByteArray)(w:World)(h:Rdr w b s p)(r:s.size<=2000000) :
  Calls prog 226 #[.pointer b] w fun e w'=>e = .returned (.int .i64 (ak s/2 ^ p%2:Nat))/\Rdr w' b s (p+1)/\aw b w w':=by
 have u:(s.size:Int)<=2000000:=by omega
 by_cases g:p<8*s.size
 .
  have d:=h.before g;have hq:p/8<s.size:=by omega
  have hb:=xu s p hq;generalize m:ak s/2 ^ p%2=N at *;have l:=af g;have t:(p:Int)<8*(s.size:Int):=by omega
  have j:p2 (p%8)<=128:=rI (p%8) 7 (by omega);have i:=mW (p%8);have a:=af d;obtain⟨c0,c1,c2,f0,f1,f2,n⟩:=d;have c:(s[p/8]).toNat/p2 (p%8)%2=N:=hb;clear h m hb;obtain⟨Q,hQ⟩:∃Q,p/8=Q:=⟨_,rfl⟩;obtain⟨R,hR⟩:∃R,p%8=R:=⟨_,rfl⟩;simp only[hQ,hR]at c j i hq;have o:=(s[Q]).toNat_lt;generalize f:p2 R=PW at *;have k:=af (fun W=>SF R PW W (by omega) f);have e1:IntKind.i64.wrap (Q:Int)=(Q:Int):=bW _ (by omega) (by omega);have e2:(p:Int)/8=(Q:Int):=by omega
  have e3:(p:Int)%8=(R:Int):=by omega
  have e4:Int.tmod (p:Int) 8=(R:Int):=by rw[a14 (by omega)];exact e3
  have e5:(Q:Int)<(s.size:Int):=by omega
  have e6:(0:Int)<=(Q:Int):=by omega
  have q:(s[Q]).toNat/PW<=(s[Q]).toNat:=a12 _ _;have e7:((s[Q]).toNat:Int)/(PW:Int)=(((s[Q]).toNat/PW:Nat):Int):=by simp
  have e0:(0:Int)<=((s[Q]).toNat:Int)/(PW:Int)/\((s[Q]).toNat:Int)/(PW:Int)<=255:=by rw[e7];exact⟨a3J _,by omega⟩
  have e8:IntKind.i64.wrap (((s[Q]).toNat:Int)/(PW:Int))=((s[Q]).toNat:Int)/(PW:Int):=bW _ (by omega) (by omega);have e10:((s[Q]).toNat:Int)/(PW:Int)%2=(N:Int):=by rw[e7];exact_mod_cast c
  have e9:Int.tmod (((s[Q]).toNat:Int)/(PW:Int)) 2=(N:Int):=by rw[a14 e0.1];exact e10
  have e14:IntKind.i64.wrap ((s[Q]).toNat:Int)=((s[Q]).toNat:Int):=bW _ (by omega) (by omega);have e12:¬ PW=0:=by omega
  clear r g hQ hR f c q o j i e7 e0;go_enter a3K,a3L;go_wp2
  go_quiet (fail)
  go_wp2
  go_region_held3 (fun W=>W.cell? ⟨b,0,none⟩=some (.string s)/\W.cell? ⟨b,1,none⟩=some (.int .i64 (p:Int))) (first|exact⟨c0,c1⟩|assumption) (first|(go_at_call 231;apply(k _).mono;rintro e w'⟨rfl,rfl⟩))
  all_goals
   go_wp2;go_ret;exact⟨rfl,Rdr.next (by exact a.set1 _) l,kC _ _ _ _ _⟩
 .
  have d:=h.past (by omega);have a:=af d;have l:=af g;have m:=af (pi s p (by omega));obtain⟨c0,c1,c2,f0,f1,f2,n⟩:=d;rw[a1G]at c1;clear h g r;go_enter a3K,a3L;go_wp2
  go_quiet (fail)
  go_wp2;go_ret;exact⟨aJ (by rw[ae m];rfl),Rdr.bad (a.set2 _) (by have:=ae l;omega),kC _ _ _ _ _⟩
def tq(b p:Nat)(s:ByteArray)(w:World)(h:Rdr w b s p)(l:s.size<=2000000) :
  Calls prog 170 #[.pointer b] w fun e w'=>e = .returned (.int .i64 (ak s/2 ^ p%2:Nat))/\Rdr w' b s (p+1)/\aw b w w':=by
 have o:(s.size:Int)<=2000000:=by omega
 by_cases d:p<8*s.size
 .
  have c:=h.before d;have hq:p/8<s.size:=by omega
  have hb:=xu s p hq;generalize g:ak s/2 ^ p%2=N at *;have f:=af d;have n:(p:Int)<8*(s.size:Int):=by omega
  have a:=af c;obtain⟨c0,c1,c2,f0,f1,f2,i⟩:=c;clear h g;obtain⟨Q,hQ⟩:∃Q,p/8=Q:=⟨_,rfl⟩;obtain⟨R,hR⟩:∃R,p%8=R:=⟨_,rfl⟩;simp only[hQ,hR]at hb hq;have j:=(s[Q]).toNat_lt;have m:(R:Int)<=7:=by omega
  have e1:IntKind.i64.wrap (Q:Int)=(Q:Int):=bW _ (by omega) (by omega);have e2:(p:Int)/8=(Q:Int):=by omega
  have e3:(p:Int)%8=(R:Int):=by omega
  have e4:Int.tmod (p:Int) 8=(R:Int):=by rw[a14 (by omega)];exact e3
  have e5:(Q:Int)<(s.size:Int):=by omega
  have e6:(0:Int)<=(Q:Int):=by omega
  have e7:((s[Q]).toNat:Int)/2 ^ R=(((s[Q]).toNat/2 ^ R:Nat):Int):=by simp
  have k:(s[Q]).toNat/2 ^ R<=(s[Q]).toNat:=a12 _ _;have e0:(0:Int)<=((s[Q]).toNat:Int)/2 ^ R/\((s[Q]).toNat:Int)/2 ^ R<=255:=by rw[e7];exact⟨a3J _,by omega⟩
  have e8:IntKind.i64.wrap (((s[Q]).toNat:Int)/2 ^ R)=((s[Q]).toNat:Int)/2 ^ R:=bW _ (by omega) (by omega);have e9:bits .and .i64 (((s[Q]).toNat:Int)/2 ^ R) 1=(N:Int):=by
   rw[nT _ e0.1 (by omega),e7];exact_mod_cast hb
  have e14:IntKind.i64.wrap ((s[Q]).toNat:Int)=((s[Q]).toNat:Int):=bW _ (by omega) (by omega);clear l d hQ hR hb k j e7 e0;go_enter func170,ntmps170;go_wp2
  go_quiet (fail)
  go_wp2
  go_quiet (fail)
  go_wp2;go_ret;exact⟨rfl,Rdr.next (by exact a.set1 _) f,kC _ _ _ _ _⟩
 .
  have c:=h.past (by omega);have a:=af c;have f:=af d;have g:=af (pi s p (by omega));obtain⟨c0,c1,c2,f0,f1,f2,i⟩:=c;rw[a1G]at c1;have e1:((8:Nat):Int)*(s.size:Int)/8=(s.size:Int):=by omega
  have e2:(8:Int)*(s.size:Int)/8=(s.size:Int):=by omega
  have e3:IntKind.i64.wrap (s.size:Int)=(s.size:Int):=bW _ (by omega) (by omega);clear h d l;go_enter func170,ntmps170;go_wp2
  go_quiet (fail)
  go_wp2;go_ret;exact⟨aJ (by rw[ae g];rfl),Rdr.bad (a.set2 _) (by have:=ae f;omega),kC _ _ _ _ _⟩
end Go.Proofs.YtfannoajibacnaaGreatDoor
namespace Go.Proofs.YtfannoajibacnaaGreatDoor
open Go.Proofs.Tryz
open Go.RowKit Go.Lib
variable {P:Program}
def ng(z:Value)(k:Nat):Builtin.zeroCells #[z] k=(List.replicate k z).toArray:=by
 unfold Builtin.zeroCells;apply Array.ext';simp only[a2M,a1l,a1s,Nat.mul_one];simp;rw[List.map_const',List.length_range]
def nu(w:World)(t tn ty e:TypeId)(i:TypeInfo)(z:Value)(B kn:IntKind)(v:P.underlying t=some (.slice e))(j:P.underlying tn=some (.int kn))(q:P.info? e=some i)(A:i.zero=some z)
  (g sLen sCap:Nat) (a:Array Value) (p:w.heap[g]?=some (.cells a e (0,0))) (k:Nat) (C:0<k) (s:i.size=1) (l:z.cells=#[z]) (m:z.oneCell'=true)
  (b:sLen+k<=sCap) (d:sLen+k<=a.size) (o:(k:Int)<=9223372036854775807) (n:k*i.bytes<=281474976710656) :
  (Builtin.append_ #[t,tn] ty #[.slice g sLen sCap,.int B k]).run P w =
   .ok (.slice g (sLen+k) sCap) (w.setRow g (a.toList.take sLen++List.replicate k z++a.toList.drop (sLen+k)).toArray):=by
 have r:k≠0:=by omega
 have y:IntKind.i64.wrap (k:Int)=k:=by rw[a0V];omega
 have c:¬ (281474976710656<(k:Int)*(i.bytes:Int)):=by
  rw[←a1G];omega
 have f:¬ ((k:Int)<0):=by omega
 have h:=run_storeCells_at P g sLen e (List.replicate k z) 0 a w p (by simpa using d) (by intro u x;rw[List.eq_of_mem_replicate x];exact m);simp only[a1d,a0y]at h;simp[Builtin.append_,a1T v,a1T j,sizeOf,typeInfo,zeroValue,q,A,asInt,asIntOf,y,f,c,s,r,b,l,ng,Addr.add_lit,h]
def oz(w:World)(base:Nat)(t tn ty e:TypeId)(i:TypeInfo)(z:Value)(bytes:Nat)(A kn:IntKind)(G:P.underlying t=some (.slice e))(q:P.underlying tn=some (.int kn))(F:P.info? e=some i)(I:i.zero=some z)
  (K:i.size=1) (D:i.bytes=bytes) (r:z.cells=#[z]) (L:z.oneCell'=true) (v:Value) (n:Nat) (xs:List Value) (a:w.ownsRow base e 1 v n xs) (k:Nat) (B:0<k)
  (s:n+k<=maxLen) (b:(n+k)*bytes<=140737488355328) (l:base<=w.heap.size) :
  ∃v' w',(Builtin.append_ #[t,tn] ty #[v,.int A k]).run P w = .ok v' w'/\w'.ownsRow base e 1 v' (n+k) (xs++List.replicate k z)/\w.grownBy w' v.ownBlock:=by
 subst D;have y:n+k<=9223372036854775807:=by simp only[maxLen]at s;omega
 have c:(xs++List.replicate k z).length=(n+k)*1:=by rw[a0i,a.1,a0y];omega
 have o:k*i.bytes<=281474976710656:=by
  have:k*i.bytes<=(n+k)*i.bytes:=a2f _ (by omega);omega
 have grown:∀(old:Nat),old<n+k->∀(row:Option Nat),
   (w.drew.alloc (.cells (xs.toArray++Builtin.zeroCells z.cells k++Builtin.zeroCells z.cells (grownCap w (n+k) old e-(n+k))) e)).ownsRow base e 1
    (.slice w.heap.size (n+k) (grownCap w (n+k) old e)) (n+k) (xs++List.replicate k z) /\
   w.grownBy (w.drew.alloc (.cells (xs.toArray++Builtin.zeroCells z.cells k++Builtin.zeroCells z.cells (grownCap w (n+k) old e-(n+k))) e)) row:=by
  intro old S row;have E:=grownCap_ge w (n+k) old e;have m:grownCap w (n+k) old e<=maxLen:=a3O w (n+k) old e s;refine⟨⟨c,.inr ⟨w.heap.size,_,_,rfl,l,heap_alloc_new w.drew _,E,m,?_,?_⟩⟩,⟨rfl,rfl,rfl,by simp,fun j N _=>a1k w.drew _ j N⟩⟩
  . have:=a.1;simp only[a2j,a2M,r,ng,a0y];omega
  . rw[r,ng,ng];simp only[a1H,a0I];rw[←a0I,←c];exact List.take_left
 rcases a.2 with⟨rfl,rfl⟩|⟨g,cap,h,rfl,C,J,Q,m,M,p⟩
 . have R:xs=[]:=a2s (by simpa using a.1);subst R;have x:=run_append_grow_zeros (P:=P) w t tn ty e i z A kn G q F I none 0 0 [] (a3P w.drew i.size 0 0 0) k B (by omega) (by omega) (by omega) o (a3d (by omega) (by simpa using b));have d:=grown 0 (by omega) (Value.ownBlock (.slice none 0 0));exact⟨_,_,x,d.1,d.2⟩
 .
  by_cases f:n+k<=cap
  .
   have x:=nu (P:=P) w t tn ty e i z A kn G q F I g n cap h J k B K r L f (by omega) (by omega) o;refine⟨_,_,x,⟨c,.inr ⟨g,cap,_,rfl,C,setRow_heap w g h _ e _ J,f,m,?_,?_⟩⟩,⟨rfl,rfl,rfl,by simp,fun k _ O=>setRow_other w g k _ (fun e=>O (by simp[Value.ownBlock,e]))⟩⟩
   . simp only[a2M,a0i,a0u,a04,a15,a0y];omega
   .
    have H:h.toList.take n=xs:=by simpa using p
    rw[H,←c];exact List.take_left
  . have holds:∀j u,xs[j]?=some u->w.drew.cell? ((⟨g,0,none⟩:Addr).add j)=some u:=a.cells (g:=g) rfl;have x:=run_append_grow_zeros (P:=P) w t tn ty e i z A kn G q F I (some ⟨g,0,none⟩) n cap xs (run_firstCells_some (P:=P) w.drew i.size n ⟨g,0,none⟩ n cap xs (by rw[K];exact a.1) holds) k B (by omega) (by omega) (by omega) o (a3d (by omega) b);have d:=grown cap (by omega) (Value.ownBlock (.slice g n cap));exact⟨_,_,x,d.1,d.2⟩
def j8(w:World){ops:Array Oper}{rest:List Oper}{o:Oper}{a:Act}{Q:Exit->Act->World->Prop}(j:o.guard=none)(s x:Operand)(t tn:TypeId)
  (C:o.op = .call { callee:=.builtin .append,args:=#[s,x],argTypes:=#[t,tn] })
  (base:Nat) (e:TypeId) (i:TypeInfo) (z:Value) (bytes:Nat) (q kn:IntKind) (F:P.underlying t=some (.slice e)) (m:P.underlying tn=some (.int kn)) (B:P.info? e=some i) (H:i.zero=some z)
  (l:i.size=1) (g:i.bytes=bytes) (p:z.cells=#[z]) (u:z.oneCell'=true) (v:Value) (n:Nat) (xs:List Value) (E:a.eval s=v) (d:w.ownsRow base e 1 v n xs) (k:Nat) (G:a.eval x = .int q (k:Int)) (r:0<k)
  (f:n+k<=maxLen) (b:(n+k)*bytes<=140737488355328) (c:base<=w.heap.size)
  (h:∀v' w',w'.ownsRow base e 1 v' (n+k) (xs++List.replicate k z)->w.grownBy w' v.ownBlock->wpList P ops Q rest (a.put o.dst v') w'):wpList P ops Q (o :: rest) a w:=by
 obtain⟨v',w',D,h2,y⟩:=oz (P:=P) w base t tn o.type e i z bytes q kn F m B H l g p u v n xs d k r f b c;refine wpList_plain j fun _ A=>?_;unfold Oper.wp execOp;simp only[C,resolve,invoke,builtin,a2N,a3Q,Result.andThen_ok,List.map_toArray,a0D,a1I,E,G,D];exact A _ _ (h v' w' h2 y)
end Go.Proofs.YtfannoajibacnaaGreatDoor
namespace Go.Proofs.YtfannoajibacnaaGreatDoor
open Go.Proofs.Tryz
open Go.RowKit
variable {B G L b g i j k n o:Nat}{a:Option Addr}{f:Nat×Nat}{l:List Int}{m:Nat->Nat}{t t':TypeId}{v vc vl vs y:Value}{w w' w1 x y':World}{xs:List Value}
def Tryz.infoInt:(prog.info? 3).map (fun i=>(i.zero,i.size,i.bytes))=some (some (.int .i64 0),1,8):=by kernel_rfl
def cN(l:List Int)(k:Nat)(h:k<l.length):l.take (k+1)=l.take k++[l.getD k 0]:=by
 rw[a1e h]
 congr 1
 simp[List.getD,h]
def bE(w:World)(a:Option Addr)(l:List Int):Prop:=
 0<l.length->∃g o,a=some ⟨g,o,none⟩/\g<w.heap.size/\∀i,i<l.length->w.cell? ⟨g,o+i,none⟩=some (.int .i64 (l.getD i 0))
def bE.below(h:bE w a l)(j:w.heap.size<=B)(hb:Below B w w'):bE w' a l:=by
 intro b;obtain⟨g,o,e,d,c⟩:=h b;exact⟨g,o,e,a0h d hb.size,fun i f=>by rw[←c i f];exact hb.cell (p:=⟨g,o+i,none⟩) (by show g<B;omega)⟩
def bE.later(h:bE w a l)(hb:Below w.heap.size w w'):bE w' a l:=h.below (a0a _) hb
def an(w:World)(base:Nat)(v:Value)(l:List Int):Prop:=w.ownsRow base 3 1 v l.length (l.map (Value.int .i64))
def an.form{base:Nat}(h:an w base v l):∃a cap,v = .slice a l.length cap:=by
 rcases h.2 with⟨e,b⟩|⟨g,cap,_,e,_⟩
 . exact⟨none,0,by rw[e,b]⟩
 . exact⟨_,cap,e⟩
def an.row{base:Nat}{cap:Nat}(h:an w base (.slice a l.length cap) l):bE w a l:=by
 intro k;rcases h.2 with⟨e,m⟩|⟨g,c,d,e,hb,f,_⟩
 . omega
 .
  simp only[a0L]at e;obtain⟨rfl,_,rfl⟩:=e;refine⟨g,0,rfl,(Array.getElem?_eq_some_iff.1 f).1,fun i j=>?_⟩;have:=a1F h (g:=g) rfl i (.int .i64 (l.getD i 0)) (by simp[List.getD,j]);have b:(⟨g,0,none⟩:Addr).add i=⟨g,i,none⟩:=by unfold Addr.add;split<;>simp_all
  rw[b]at this;rw[a0G];exact this
def an.later{base:Nat}(h:an w base v l)(hb:Below B w w')(e:w.heap.size<=B):an w' base v l:=by
 refine⟨h.1,?_⟩;rcases h.2 with d|⟨g,cap,b,rfl,c,a,rest⟩
 . exact .inl d
 . refine .inr ⟨g,cap,b,rfl,c,?_,rest⟩;have f:=(Array.getElem?_eq_some_iff.1 a).1;rw[hb.block g (by omega)];exact a
def an.lit(w:World)(base:Nat)(hb:base<=w.heap.size):an (w.alloc (.cells #[] 3)) base (.slice w.heap.size 0 0) []:=
 a0S w #[] 0 hb (by unfold maxLen;omega) rfl
def an.nil(w:World)(base:Nat):an w base (.slice none 0 0) []:=a1b _ _ _ _
def oY{base:Nat}{a:Int}(h:x.ownsRow base 3 1 v (l.length+1) (l.map (Value.int .i64)++[.int .i64 a])):an x base v (l++[a]):=by
 unfold an;simpa using h
def an.mono{base base':Nat}(h:an w base v l)(hb:base'<=base):an w base' v l:=by
 refine⟨h.1,?_⟩;rcases h.2 with c|⟨g,cap,a,rfl,b,rest⟩
 . exact .inl c
 . exact .inr ⟨g,cap,a,rfl,by omega,rest⟩
def aH{y:World}{o:Obj}{e:TypeId}{size base:Nat}(b:(y.alloc o).grownBy y' v.ownBlock)(d:y.ownsRow base e size v n xs)(a:B<=base)(f:B<=y.heap.size)(hb:Below B x y):Below B x y':=
 (hb.alloc f _).grown b (by simp;omega) (fun j c=>a0E a (a0z (d.alloc o) j c).1)
def an.rowN{base:Nat}{cap:Nat}(b:l.length=n)(h:an w base (.slice a n cap) l):bE w a l:=by
 subst b;exact h.row
def an.formN{base:Nat}(b:l.length=n)(h:an w base v l):∃a cap,v = .slice a n cap:=by
 subst b;exact h.form
def an.own{base:Nat}(a:l.length=n)(h:an w base v l):w.ownsRow base 3 1 v n (l.map (Value.int .i64)):=by
 subst a;exact h
def dN{base:Nat}{a:Int}(b:l.length=n)(h:x.ownsRow base 3 1 v (n+1) (l.map (Value.int .i64)++[.int .i64 a])):an x base v (l++[a]):=by
 subst b;exact oY h
def an.put{base cap:Nat}(a:l.length=n)(h:an w base (.slice g n cap) l)(x:Int) :
  an (w.setCell ⟨g,j,none⟩ (.int .i64 x)) base (.slice g n cap) (l.set j x):=by
 subst a;have:=a2u h j (.int .i64 x);show World.ownsRow _ _ _ _ _ (l.set j x).length ((l.set j x).map (Value.int .i64));rw[a00];have e:(l.set j x).map (Value.int .i64)=(l.map (Value.int .i64)).set j (.int .i64 x):=by simp[List.map_set]
 rw[e];exact this.1
def an.at{base cap:Nat}(b:l.length=n)(h:an w base (.slice g n cap) l)(a:j<n) :
  w.cell? ⟨g,j,none⟩=some (.int .i64 (l.getD j 0))/\w.frozen? ⟨g,j,none⟩=false/\base<=g/\g<w.heap.size:=by
 subst b;refine⟨?_,a2O h j,a0z h g rfl⟩;rw[a1f h j (by omega)];simp[a,List.getD]
def an.somes{base cap:Nat}(h:an w base (.slice a n cap) l)(d:0<l.length):∃g,a=some ⟨g,0,none⟩:=by
 rcases h.2 with⟨_,e⟩|⟨g,b,c,e,_⟩
 . omega
 . simp only[a0L]at e;exact⟨g,e.1⟩
def an.below{base cap:Nat}(h:an w base (.slice g n cap) l):base<=g/\g<w.heap.size:=a0z h g rfl
def Touch(a:Option Addr)(w w':World):Prop:=w'.heap.size=w.heap.size/\∀j,(∀g,a=some ⟨g,0,none⟩->j≠g)->w'.heap[j]?=w.heap[j]?
def Touch.refl(a:Option Addr)(w:World):Touch a w w:=⟨rfl,fun _ _=>rfl⟩
def Touch.set(h:Touch a w w')(c:a=some ⟨g,0,none⟩)(u:Value):Touch a w (w'.setCell ⟨g,o,none⟩ u):=
 ⟨by simpa using h.1,fun j b=>(a0M w' ⟨g,o,none⟩ u j (b g c)).trans (h.2 j b)⟩
def an.touch{base:Nat}(h:an w base v l)(j:Touch a w w')(f:∀g,a=some ⟨g,0,none⟩->g<base):an w' base v l:=by
 refine⟨h.1,?_⟩;rcases h.2 with i|⟨g,cap,b,rfl,c,d,rest⟩
 . exact .inl i
 . refine .inr ⟨g,cap,b,rfl,c,?_,rest⟩;rw[j.2 g (fun g' e=>by have:=f g' e;omega)];exact d
def qD{d e e1 e2 s1 s2 n1 n2:Nat}{v1 v2:Value}{x1 x2:List Value}(h:w.ownsRow d e1 s1 v1 n1 x1)(h2:w.ownsRow e e2 s2 v2 n2 x2)(i:e1≠e2):v1.ownBlock=none∨v1.ownBlock≠v2.ownBlock:=by
 rcases h.2 with⟨rfl,_⟩|⟨g,cap,f,rfl,_,j,_⟩
 . exact .inl rfl
 .
  refine .inr ?_;rcases h2.2 with⟨rfl,_⟩|⟨g',b,c,rfl,_,a,_⟩
  . simp[Value.ownBlock]
  . simp only[Value.ownBlock,ne_eq,a0l];rintro rfl;rw[j]at a;simp only[a0l,a3R]at a;exact i a.2.1
def ar(h:B<=w.heap.size)(o:Obj):B<=(w.alloc o).heap.size:=by simp;omega
def cK(W:World)(g:Nat)(b:W.heap.size=g)(x:Value)(t:TypeId):∀(j:Nat) (u:Value),[x][j]?=some u->(W.alloc (.cells #[x] t)).cell? ((⟨g,0,none⟩:Addr).add j)=some u:=by
 subst b;intro j u a
 match j,a with
 | 0,a=>simp at a;subst a;simp[Addr.add]
def fD(x:Int):∀u∈[Value.int .i64 x],u.oneCell'=true:=by
 intro u a;simp at a;subst a;rfl
def dJ{base:Nat}(h:w1.ownsRow base 3 1 (.slice g n n) n (madeCells (Value.int .i64 0).cells (n*1)).toList):an w1 base (.slice g n n) (List.replicate n 0):=by
 have e:(madeCells (Value.int .i64 0).cells (n*1)).toList=(List.replicate n (0:Int)).map (Value.int .i64):=by
  apply a2k
  . simp[madeCells]
  . intro i a h2;simp[madeCells,Value.cells,a1s]
 show World.ownsRow _ _ _ _ _ (List.replicate n (0:Int)).length _;rw[a0y,←e];exact h
def an.setOther{base g' c:Nat}(h:an w base (.slice g n c) l)(i:g'≠g)(u:Value):an (w.setCell ⟨g',o,none⟩ u) base (.slice g n c) l:=by
 refine⟨h.1,?_⟩;rcases h.2 with f|⟨g1,cap,a,e,b,d,rest⟩
 . exact .inl f
 . refine .inr ⟨g1,cap,a,e,b,?_,rest⟩;simp only[a0L,a0l,a0A,a0Q]at e;rw[a0M w ⟨g',o,none⟩ u g1 (by show g1≠g';omega)];exact d
def an.under{base c:Nat}(h:an w base (.slice g n c) l)(hb:Below B w w')(i:g<B):an w' base (.slice g n c) l:=by
 refine⟨h.1,?_⟩;rcases h.2 with f|⟨g1,cap,a,e,b,d,rest⟩
 . exact .inl f
 . refine .inr ⟨g1,cap,a,e,b,?_,rest⟩;simp only[a0L,a0l,a0A,a0Q]at e;rw[hb.block g1 (by omega)];exact d
def dD(l:List UInt8):List Value:=l.map fun x=>Value.int .u8 (x.toNat:Int)
def bC(w:World)(base:Nat)(v:Value)(l:List UInt8):Prop:=w.ownsRow base 5 1 v l.length (dD l)
def bC.form{base:Nat}{l:List UInt8}(h:bC w base v l):∃a cap,v = .slice a l.length cap:=by
 rcases h.2 with⟨e,b⟩|⟨g,cap,_,e,_⟩
 . exact⟨none,0,by rw[e,b]⟩
 . exact⟨_,cap,e⟩
def bC.formN{base:Nat}{l:List UInt8}(b:l.length=n)(h:bC w base v l):∃a cap,v = .slice a n cap:=by
 subst b;exact h.form
def bC.own{base:Nat}{l:List UInt8}(a:l.length=n)(h:bC w base v l):w.ownsRow base 5 1 v n (dD l):=by
 subst a;exact h
def bC.later{base:Nat}{l:List UInt8}(h:bC w base v l)(hb:Below B w w')(a:w.heap.size<=B):bC w' base v l:=
 a1V h (row:=none) ⟨hb.os,hb.tape,hb.output,hb.size,fun k b _=>hb.block k (by omega)⟩ (by
  cases c:v.ownBlock with
  | none=>exact .inl rfl
  | some k=>exact .inr (by simp))
def bC.somes{base cap:Nat}{l:List UInt8}(h:bC w base (.slice a n cap) l)(d:0<l.length):∃g,a=some ⟨g,0,none⟩:=by
 rcases h.2 with⟨_,e⟩|⟨g,b,c,e,_⟩
 . omega
 . simp only[a0L]at e;exact⟨g,e.1⟩
def bC.at{base cap:Nat}{l:List UInt8}(b:l.length=n)(h:bC w base (.slice g n cap) l)(a:j<n) :
  w.cell? ⟨g,j,none⟩=some (.int .u8 ((l.getD j 0).toNat:Int))/\base<=g/\g<w.heap.size:=by
 subst b;refine⟨?_,a0z h g rfl⟩;rw[a1f h j (by omega)];simp[dD,a,List.getD]
def bC.nil(w:World)(base:Nat):bC w base (.slice none 0 0) []:=a1b _ _ _ _
def bC.lit(w:World)(base:Nat)(hb:base<=w.heap.size):bC (w.alloc (.cells #[] 5)) base (.slice w.heap.size 0 0) []:=a0S w #[] 0 hb (by unfold maxLen;omega) rfl
def f9{base:Nat}{l:List UInt8}{b:UInt8}(a:l.length=n)(h:x.ownsRow base 5 1 v (n+1) (dD l++[.int .u8 (b.toNat:Int)])):bC x base v (l++[b]):=by
 subst a;show World.ownsRow _ _ _ _ _ (l++[b]).length _;simpa[dD]using h
def Tryz.infoU8:(prog.info? 5).map (fun i=>(i.zero,i.size,i.bytes))=some (some (.int .u8 0),1,1):=by kernel_rfl
def one_byte(x:Int):∀u∈[Value.int .u8 x],u.oneCell'=true:=by
 intro u a;simp at a;subst a;rfl
def bC.text{base:Nat}{l:List UInt8}(h:bC w base v l) :
  (convert 22 9 v).run prog w = .ok (.string ⟨l.toArray⟩) w:=by
 rcases h.2 with⟨e,b⟩|⟨g,cap,a,e,_⟩
 . have d:l=[]:=a2s b;subst d;rw[e];rw[run_convert_bytes_string w _ _ _ none 0 0 a01 a16 a17];rfl
 .
  rw[e];exact a3e w _ _ _ ⟨g,0,none⟩ cap l a01 a16 a17 (fun j c=>by
   have:=a1F h (g:=g) (by rw[e];rfl) j (.int .u8 (l[j].toNat:Int)) (by simp[dD,c]);exact this)
def pR(w:World)(a:Option Addr)(l:List (Int×Int)):Prop:=
 0<l.length->∃g o,a=some ⟨g,o,none⟩/\g<w.heap.size/\∀i,i<l.length->w.cell? ⟨g,o+i*2,none⟩=some (.int .i64 (l.getD i (0,0)).1)/\w.cell? ⟨g,o+i*2+1,none⟩=some (.int .i64 (l.getD i (0,0)).2)
def pR.later{l:List (Int×Int)}(h:pR w a l)(hb:Below w.heap.size w w'):pR w' a l:=by
 intro f;obtain⟨g,o,e,b,c⟩:=h f;refine⟨g,o,e,a0h b hb.size,fun i d=>⟨?_,?_⟩⟩
 . exact(hb.cell (p:=⟨g,o+i*2,none⟩) b).trans (c i d).1
 . exact(hb.cell (p:=⟨g,o+i*2+1,none⟩) b).trans (c i d).2
def aY:List (Int×Int)->List Value
 | []=>[]
 | p :: l=>.int .i64 p.1 :: .int .i64 p.2 :: aY l
def mX(l:List (Int×Int)):(aY l).length=l.length*2:=by
 induction l with
 | nil=>rfl
 | cons p l ih=>simp only[aY,a0C,ih];omega
def ft(l m:List (Int×Int)):aY (l++m)=aY l++aY m:=by
 induction l with
 | nil=>rfl
 | cons p l ih=>simp[aY,ih]
def Im(l:List (Int×Int))(i:Nat)(h:i<l.length):(aY l)[i*2]?=some (.int .i64 (l.getD i (0,0)).1)/\(aY l)[i*2+1]?=some (.int .i64 (l.getD i (0,0)).2):=by
 induction l generalizing i with
 | nil=>simp at h
 | cons p l ih=>
  cases i with
  | zero=>simp[aY]
  | succ i=>
   have:=ih i (by simpa using h);rw[show(i+1)*2=i*2+1+1 by omega];simpa[aY]using this
def Pcs(w:World)(base:Nat)(v:Value)(l:List (Int×Int)):Prop:=w.ownsRow base 167 2 v l.length (aY l)
def Pcs.form{base:Nat}{l:List (Int×Int)}(h:Pcs w base v l):∃a cap,v = .slice a l.length cap:=by
 rcases h.2 with⟨e,b⟩|⟨g,cap,_,e,_⟩
 . exact⟨none,0,by rw[e,b]⟩
 . exact⟨_,cap,e⟩
def Pcs.row{base:Nat}{cap:Nat}{l:List (Int×Int)}(h:Pcs w base (.slice a l.length cap) l):pR w a l:=by
 intro k;rcases h.2 with⟨_,m⟩|⟨g,b,d,e,hb,f,n⟩
 . omega
 . simp only[a0L]at e;obtain⟨rfl,_,rfl⟩:=e;refine⟨g,0,rfl,(Array.getElem?_eq_some_iff.1 f).1,fun i j=>?_⟩;have c:=Im l i j;have c1:=a1f h (i*2) (by omega);have c2:=a1f h (i*2+1) (by omega);rw[a0G];exact⟨c1.trans c.1,c2.trans c.2⟩
def Pcs.later{base:Nat}{l:List (Int×Int)}(h:Pcs w base v l)(hb:Below B w w')(a:w.heap.size<=B):Pcs w' base v l:=
 a1V h (row:=none) ⟨hb.os,hb.tape,hb.output,hb.size,fun k b _=>hb.block k (by omega)⟩ (by
  cases c:v.ownBlock with
  | none=>exact .inl rfl
  | some k=>exact .inr (by simp))
def Tryz.infoPiece:(prog.info? 167).map (fun i=>(i.zero,i.size,i.bytes))=some (some (.agg #[.int .i64 0,.int .i64 0]),2,16):=by kernel_rfl
def Pcs.news{base cap:Nat}{l:List (Int×Int)}(h:Pcs w base (.slice g l.length cap) l):∀j u,(aY l)[j]?=some u->w.cell? ((⟨g,0,none⟩:Addr).add j)=some u:=
 a1F h rfl
def jg(l:List (Int×Int)):∀u∈aY l,u.oneCell'=true:=by
 induction l with
 | nil=>intro u a;simp[aY]at a
 | cons p l ih=>
  intro u a;simp only[aY,a02]at a;rcases a with rfl|rfl|a
  . rfl
  . rfl
  . exact ih u a
def ot{base:Nat}{l:List (Int×Int)}{a b:Int}(h:x.ownsRow base 167 2 v (l.length+1) (aY l++[.int .i64 a,.int .i64 b])):Pcs x base v (l++[(a,b)]):=by
 show World.ownsRow _ _ _ _ _ (l++[(a,b)]).length _;rw[ft];simpa[aY]using h
def L3{base:Nat}{l:List (Int×Int)}{a b:Int}(c:l.length=n)(h:x.ownsRow base 167 2 v (n+1) (aY l++[.int .i64 a,.int .i64 b])):Pcs x base v (l++[(a,b)]):=by
 subst c;exact ot h
def Pcs.formN{base:Nat}{l:List (Int×Int)}(b:l.length=n)(h:Pcs w base v l):∃a cap,v = .slice a n cap:=by
 subst b;exact h.form
def Pcs.own{base:Nat}{l:List (Int×Int)}(a:l.length=n)(h:Pcs w base v l):w.ownsRow base 167 2 v n (aY l):=by
 subst a;exact h
def Pcs.rowN{base:Nat}{cap:Nat}{l:List (Int×Int)}(b:l.length=n)(h:Pcs w base (.slice a n cap) l):pR w a l:=by
 subst b;exact h.row
def Pcs.newsN{base cap:Nat}{l:List (Int×Int)}(a:l.length=n)(h:Pcs w base (.slice g n cap) l):∀j u,(aY l)[j]?=some u->w.cell? ((⟨g,0,none⟩:Addr).add j)=some u:=by
 subst a;exact h.news
def vv(w:World)(x y:Value)(t:TypeId):∀(j:Nat) (u:Value),[x,y][j]?=some u->(w.alloc (.cells #[x,y] t)).cell? ((⟨w.heap.size,0,none⟩:Addr).add j)=some u:=by
 intro j u a
 match j,a with
 | 0,a=>simp at a;subst a;simp[Addr.add]
 | 1,a=>simp at a;subst a;simp[Addr.add]
def vu(x y:Int):∀u∈[Value.int .i64 x,Value.int .i64 y],u.oneCell'=true:=by
 intro u a;simp at a;rcases a with rfl|rfl<;>rfl
open Corb
def aZ(l:List (Int×Int)):Bool:=l.all (fun p=>pOk p.1 p.2)
def Ga(l:List (Int×Int))(k:Nat)(h:k<l.length):aZ (l.take (k+1))=(aZ (l.take k)&&pOk (l.getD k (0,0)).1 (l.getD k (0,0)).2):=by
 rw[a1e h,aZ,a18]
 congr 1
 simp[List.getD,h]
def ym{l:List (Int×Int)}(h:aZ (l.take k)=false):aZ l=false:=by
 rw[←a27]at h ⊢;intro h2;apply h;simp only[aZ,a1c]at h2 ⊢;intro x a;exact h2 x (a2l a)
def cq(l:List (Int×Int)):Int:=(l.map (·.2)).sum
def lOk(l:List (Int×Int)):Bool:=aZ l&&decide (l.length<=4000)
def pJ(l:List (Int×Int)):Int:=if lOk l=true then cq l else -1
def ti{l:List (Int×Int)}(h:lOk l=true):pJ l=cq l:=a0d h
def xe{l:List (Int×Int)}(h:lOk l=false):pJ l = -1:=a0e (by simp[h])
def Qr(l:List (Int×Int))(k:Nat)(h:k<l.length):cq (l.take (k+1))=cq (l.take k)+(l.getD k (0,0)).2:=by
 rw[a1e h,cq,a0K,List.sum_append];simp[cq,List.getD,h]
def IC{l:List (Int×Int)}(h:aZ l=true):0<=cq l/\cq l<=16*(l.length:Int):=by
 induction l with
 | nil=>simp[cq]
 | cons p l ih=>
  simp only[aZ,a19,a0k]at h;have a:=aT.1 h.1;have h2:=ih h.2;simp only[cq,a0D,a0N,a0C]at h2 ⊢;omega
def JW{l:List (Int×Int)}(h:aZ l=true)(k:Nat)(a:k<l.length):pOk (l.getD k (0,0)).1 (l.getD k (0,0)).2=true:=by
 simp only[aZ,a1c]at h;have e:l.getD k (0,0)=l[k]:=by simp[List.getD,a]
 rw[e];exact h _ (a2g a)
def nh{l:List (Int×Int)}(h:aZ l=true)(k:Nat):aZ (l.take k)=true:=by
 simp only[aZ,a1c]at h ⊢;exact fun x a=>h x (a2l a)
def ja(a:Option Addr)(cap:Nat)(l:List (Int×Int))(w:World)(h:pR w a l)(D:l.length<=1000000000) :
  Ds 135 #[.slice a l.length cap] w (.int .i64 (pJ l)):=by
 by_cases A:(l.length:Int)<=4000
 .
  go_enter func135,ntmps135;go_wp2_with fail
  go_loopw [3,5,11] (fun n _ i wr=>∃k:Nat,k<=l.length/\i = .int .i64 k/\n = .int .i64 (cq (l.take k))/\aZ (l.take k)=true/\Below w.heap.size w wr) (fun _ _ i _=>l.length-(intOf i).toNat)
  case atStart=>exact⟨0,a0g _,rfl,rfl,rfl,a0c _ _⟩
  case round=>
   obtain⟨k,C,rfl,rfl,c,b⟩:=hrel;obtain⟨s0,s1⟩:=IC c;have s2:((l.take k).length:Int)<=4000:=by simp;omega
   have s3:cq (l.take k)<=64000:=(by omega);by_cases j:k<l.length
   .
    obtain⟨g,o,rfl,B,r⟩:=(h.later b) (by omega);obtain⟨c0,c1⟩:=r k j;have v:=af (Qr l k j);have q:=af (Ga l k j);have f:=af c;clear r h c s1 s2;generalize (l.getD k (0,0)).1=x,(l.getD k (0,0)).2=y at *;cases m:pOk x y
    .
     have t:Hid (pJ l = -1):=xe (by
      have:aZ l=false:=ym (k:=k+1) (by rw[ae q,m];simp);simp[lOk,this])
     generalize cq (l.take k)=S at *;go_wp2_with (go_at_call 168;apply(lr _ _ _).mono;rintro e w1⟨rfl,d⟩);go_ret;exact⟨aJ t.symm,(b.alloc b.size _).trans (d.mono (by have:=b.size;simp;omega))⟩
    .
     obtain⟨⟨y0,y1⟩,_⟩:=aT.1 m;generalize cq (l.take k)=S at *;go_wp2_with (go_at_call 168;apply(lr _ _ _).mono;rintro e w1⟨rfl,d⟩;have z:w1.cell? ⟨wr.heap.size,1,none⟩=some (.int .i64 y):=(d.cell (p:=⟨wr.heap.size,1,none⟩) (by simp)).trans (by simp));go_roundw
     case rel=>exact⟨k+1,by omega,by go_num,by rw[ae v],by rw[ae q,ae f,m];rfl,(b.alloc b.size _).trans (d.mono (by have:=b.size;simp;omega))⟩
     case measure=>simp[intOf];omega
   .
    have s:Hid (pJ l=cq (l.take k)):=by
     rw[a0t (by omega)]at c ⊢;exact ti (by simp[lOk,c];omega)
    clear h c;go_wp2;go_ret;exact⟨aJ s.symm,b⟩
 . have u:Hid (pJ l = -1):=xe (by simp[lOk];omega);go_enter func135,ntmps135;go_wp2;go_ret;exact⟨aJ u.symm,a0c _ _⟩
def bR(t:TypeId)(w w':World):Prop:=∀(k:Nat) (c:Array Value) (f:Nat×Nat),w.heap[k]?=some (Obj.cells c t f)->w'.heap[k]?=some (Obj.cells c t f)
def bR.refl(t:TypeId)(w:World):bR t w w:=fun _ _ _ h=>h
def bR.trans{w2:World}(h:bR t w w1)(k:bR t w1 w2):bR t w w2:=fun j c f a=>k j c f (h j c f a)
def dS{o:Obj}(h:w.heap[k]?=some o):k<w.heap.size:=(Array.getElem?_eq_some_iff.1 h).1
def bR.below(h:Below w.heap.size w w'):bR t w w':=fun j _ _ a=>(h.block j (dS a)).trans a
def bR.alloc(h:bR t w w')(o:Obj):bR t w (w'.alloc o):=fun j c f a=>(a1k w' o j (dS (h j c f a))).trans (h j c f a)
def bR.set{c:Array Value}(h:bR t w w')(e:w'.heap[g]?=some (.cells c t' f))(b:t≠t')(u:Value):bR t w (w'.setCell ⟨g,o,none⟩ u):=by
 intro j d f' i;have a:=h j d f' i;rw[a0M w' ⟨g,o,none⟩ u j (by
  show j≠g;rintro rfl;rw[e]at a;simp only[a0l,a3R]at a;exact b a.2.1.symm)]
 exact a
def bR.own{base size:Nat}(h:bR t w w')(d:w.ownsRow base t size v n xs):w'.ownsRow base t size v n xs:=by
 refine⟨d.1,?_⟩;rcases d.2 with e|⟨g,cap,a,rfl,b,c,rest⟩
 . exact .inl e
 . exact .inr ⟨g,cap,a,rfl,b,h g _ _ c,rest⟩
def LL{base size cap:Nat}{e:TypeId}{a:Addr}(h:w.ownsRow base e size (.slice (some a) n cap) n xs)(i:a=⟨g,0,none⟩):∃c,w.heap[g]?=some (.cells c e):=by
 subst i;rcases h.2 with⟨j,_⟩|⟨g',d,f,e',_,b,_⟩
 . cases j
 . simp only[a0L,a0l,a0A,a0Q]at e';obtain⟨rfl,_,_⟩:=e';exact⟨_,b⟩
def bR.touch{c:Array Value}(d:w.heap[g]?=some (.cells c t' f))(b:t≠t')(h:Touch (some ⟨g,0,none⟩) w w'):bR t w w':=by
 intro j i f' a;rw[h.2 j (fun g' e=>by
  simp only[a0l,a0A,a0Q]at e;subst e;rintro rfl;rw[d]at a;simp only[a0l,a3R]at a;exact b a.2.1.symm)]
 exact a
def bR.grown{w2:World}{base size:Nat}(h:bR t w w1)(m:w1.ownsRow base t' size v n xs)(d:t≠t')(k:w1.grownBy w2 v.ownBlock):bR t w w2:=by
 intro j c f l;have a:=h j c f l;rw[k.block j (dS a) (by
  intro e;rcases m.2 with⟨rfl,_⟩|⟨g,cap,i,rfl,_,b,_⟩
  . cases e
  . simp only[Value.ownBlock,a0l]at e;subst e;rw[b]at a;simp only[a0l,a3R]at a;exact d a.2.1.symm)]
 exact a
def wu{x z:Value}(h:w.heap[b]?=some (Obj.cells #[x,y,z] t)):w.cell? ⟨b,0,none⟩=some x/\w.cell? ⟨b,1,none⟩=some y/\w.cell? ⟨b,2,none⟩=some z/\b<w.heap.size:=
 ⟨by simp[World.cell?,h],by simp[World.cell?,h],by simp[World.cell?,h],(Array.getElem?_eq_some_iff.1 h).1⟩
def ea{x:Value}(h:w.heap[b]?=some (Obj.cells #[x,y] t)):w.cell? ⟨b,0,none⟩=some x/\w.cell? ⟨b,1,none⟩=some y/\b<w.heap.size:=
 ⟨by simp[World.cell?,h],by simp[World.cell?,h],(Array.getElem?_eq_some_iff.1 h).1⟩
def alloc_at(w:World)(o:Obj):(w.alloc o).heap[w.heap.size]?=some o:=Array.getElem?_push_size
def krN(b:Int):Nat:=if 0<b then p2 (15-b).toNat else 0
def kr(l:List Int):Nat:=(l.map krN).sum
def us(l:List Int):Nat:=(l.map (fun b=>if 0<b then 1 else 0)).sum
def inL(l:List Int):Bool:=l.all (fun b=>inB b 0 15)
def nd(l:List Int):Bool:=decide (kr l=32768) || (decide (us l=1)&&decide (kr l=16384))
def ap(l:List Int):Bool:=inL l&&decide (l.length<=300)&&nd l
def Bl(l:List Int)(k:Nat)(h:k<l.length):kr (l.take (k+1))=kr (l.take k)+krN (l.getD k 0):=by
 rw[cN l k h];simp[kr]
def rZ(l:List Int)(k:Nat)(h:k<l.length):us (l.take (k+1))=us (l.take k)+(if 0<l.getD k 0 then 1 else 0):=by
 rw[cN l k h];simp[us]
def DY(l:List Int)(k:Nat)(h:k<l.length):inL (l.take (k+1))=(inL (l.take k)&&inB (l.getD k 0) 0 15):=by
 rw[cN l k h];simp[inL]
def GT(b:Int):krN b<=32768:=by
 unfold krN
 split
 . have h2:2 ^ (15-b).toNat<=2 ^ 15:=a0P (by omega) (by omega);have a:p2 (15-b).toNat=2 ^ (15-b).toNat:=rfl;omega
 . omega
def To(l:List Int):kr l<=32768*l.length:=by
 induction l with
 | nil=>simp[kr]
 | cons b l ih=>
  have:=GT b;simp only[kr,a0D,a0N,a0C]at ih ⊢;omega
def uD(l:List Int):us l<=l.length:=by
 induction l with
 | nil=>simp[us]
 | cons b l ih=>
  simp only[us,a0D,a0N,a0C]at ih ⊢
  split<;>omega
def Bj(h:k<l.length)(a:inB (l.getD k 0) 0 15=false):inL l=false:=by
 rcases hb:inL l with _|_
 . rfl
 . have:=a1c.1 hb (l.getD k 0) (by simp[List.getD,h]);rw[a]at this;exact absurd this (by simp)
def wH(a:Option Addr)(cap n:Nat)(l:List Int)(w:World)(v:l.length=n)(h:bE w a l)(s:n<=1048576) :
  Calls prog 239 #[.slice a n cap] w fun e w'=>e = .returned (.int .i64 (us l:Nat))/\w'=w:=by
 subst v;have t:(l.length:Int)<=1048576:=by omega
 clear s;go_enter func239,ntmps239;go_wp2_with fail
 go_loop [3,4] (fun n i=>∃k:Nat,k<=l.length/\i = .int .i64 k/\n = .int .i64 (us (l.take k):Nat)) (fun _ i=>l.length-(intOf i).toNat)
 case atStart=>exact⟨0,a0g _,rfl,rfl⟩
 case round=>
  obtain⟨k,r,rfl,rfl⟩:=hrel;by_cases c:k<l.length
  .
   obtain⟨g,o,rfl,x,m⟩:=h (by omega);have c0:=m k c;have d:=af (rZ l k c);have j:=uD (l.take k);have p:(us (l.take k):Int)<=1048576:=by
    have:(l.take k).length<=l.length:=by simp;omega
    omega
   clear m r h j;generalize l.getD k 0=y,us (l.take k)=u at *;by_cases q:0<y
   .
    have b:Hid (us (l.take (k+1))=u+1):=by have:=ae d;rw[a0d q]at this;exact this
    go_wp2
    go_round
    case rel=>exact⟨k+1,by omega,by go_num,by rw[ae b];go_num⟩
    case measure=>simp[intOf];omega
   .
    have b:Hid (us (l.take (k+1))=u):=by have:=ae d;rw[a0e q]at this;exact this
    go_wp2
    go_round
    case rel=>exact⟨k+1,by omega,by go_num,by rw[ae b]⟩
    case measure=>simp[intOf];omega
  . have f:Hid (l.take k=l):=a0t (by omega);clear h;go_wp2;go_ret;exact⟨aJ (by rw[ae f]),rfl⟩
def pe(h:inL l=false∨300<l.length):ap l=false:=by
 unfold ap;rcases h with h|h
 . simp[h]
 . rw[a0m (by omega)];simp
def wQ(h:inL l=true)(a:l.length<=300):ap l=nd l:=by
 simp[ap,h,a]
def kP(a:Option Addr)(cap n:Nat)(l:List Int)(w:World)(G:l.length=n)(h:bE w a l)(M:n<=1048576) :
  Calls prog 260 #[.slice a n cap] w fun e w'=>e = .returned (.bool (ap l))/\w'=w:=by
 subst G;have Q:(l.length:Int)<=1048576:=by omega
 have I:=af M;clear M;go_enter func260,ntmps260;go_wp2_with fail
 go_loopw [3,4] (fun n i wr=>∃k:Nat,k<=l.length/\i = .int .i64 k/\n = .int .i64 (kr (l.take k):Nat)/\inL (l.take k)=true/\wr=w) (fun _ i _=>l.length-(intOf i).toNat)
 case atStart=>exact⟨0,a0g _,rfl,rfl,rfl,rfl⟩
 case round=>
  obtain⟨k,P,rfl,rfl,d,rfl⟩:=hrel;have r:=af d;have E:=To (l.take k);have F:(l.take k).length<=l.length:=by simp;omega
  have D:(kr (l.take k):Int)<=34359738368:=by have:=ae I;omega
  clear d E F;by_cases j:k<l.length
  .
   obtain⟨g,o,rfl,R,J⟩:=h (by omega);have c0:=J k j;have B:=af (Bl l k j);have hit:=af (DY l k j);have A:=af (fun G=>Bj j G);clear J P h;generalize l.getD k 0=y,kr (l.take k)=u at *;cases t:inB y 0 15
   . have m:=af (pe (a0J (ae A t)));go_wp2_with fail;apply(aU _ _ _ _).mono;rintro e x1⟨rfl,rfl⟩;rw[t];go_wp2;go_ret;exact⟨am m.symm,rfl⟩
   .
    obtain⟨y0,y1⟩:=aI.1 t;have p:Hid (inL (l.take (k+1))=true):=by show inL (l.take (k+1))=true;rw[ae hit,ae r,t];rfl
    by_cases N:0<y
    .
     have f:Hid (krN y=p2 (15-y).toNat):=a0d N;have z:=GT y;rw[ae f]at z;have H:=af (fun W=>gi (15-y) W (by omega));generalize p2 (15-y).toNat=PW at *;have O:(PW:Int)<=32768:=(by omega);clear z;go_wp2_with fail;apply(aU _ _ _ _).mono;rintro e x1⟨rfl,rfl⟩;rw[t];go_wp2_with fail;apply(H _).mono;rintro e x2⟨rfl,rfl⟩;go_wp2;go_roundw
     case rel=>exact⟨k+1,by omega,by go_num,by rw[ae B,ae f];go_num,p,by first|rfl|trivial⟩
     case measure=>simp[intOf];omega
    .
     have f:Hid (krN y=0):=a0e N;go_wp2_with fail;apply(aU _ _ _ _).mono;rintro e x1⟨rfl,rfl⟩;rw[t];go_wp2;go_roundw
     case rel=>exact⟨k+1,by omega,by go_num,by rw[ae B,ae f];rfl,p,by first|rfl|trivial⟩
     case measure=>simp[intOf];omega
  .
   have s:l.take k=l:=a0t (by omega);rw[s]at D ⊢;have d:inL l=true:=by have:=ae r;rw[s]at this;exact this
   have e14:p2 (14:Int).toNat=16384:=(by decide);have e15:p2 (15:Int).toNat=32768:=(by decide);have E14:=af e14;have E15:=af e15;have v:=af d;clear s r d e14 e15;have C:=af (wH a cap l.length l wr rfl h I);by_cases L:(l.length:Int)<=300
   .
    have q:=af (wQ v (by omega));clear h;by_cases c:us l=1
    .
     have b:Hid (ap l=(decide (kr l=32768) || decide (kr l=16384))):=by
      show ap l=_;rw[ae q,nd,a0B c,a29]
     go_wp2_with fail;apply C.mono;rintro e x1⟨rfl,rfl⟩;rw[c];go_wp2_with fail;apply(gi 14 _ (by omega)).mono;rintro e x2⟨rfl,rfl⟩;rw[ae E14];go_wp2_with fail;apply(gi 15 _ (by omega)).mono;rintro e x3⟨rfl,rfl⟩;rw[ae E15];generalize kr l=K at *;by_cases x:K=32768
     . subst x;go_wp2;go_ret;exact⟨am (by rw[ae b];rfl),rfl⟩
     .
      have g1:((K:Int) == 32768)=false:=by simp;omega
      by_cases h2:K=16384
      . subst h2;go_wp2;go_ret;exact⟨am (by rw[ae b];rfl),rfl⟩
      .
       have g2:((K:Int) == 16384)=false:=by simp;omega
       go_wp2;go_ret;exact⟨am (by rw[ae b];simp[x,h2]),rfl⟩
    .
     have g0:((us l:Int) == 1)=false:=by simp;omega
     have b:Hid (ap l=decide (kr l=32768)):=by
      show ap l=_;rw[ae q,nd,a0m c,Bool.false_and,Bool.or_false]
     go_wp2_with fail;apply C.mono;rintro e x1⟨rfl,rfl⟩;go_wp2_with fail;apply(gi 15 _ (by omega)).mono;rintro e x3⟨rfl,rfl⟩;rw[ae E15];generalize kr l=K at *;by_cases x:K=32768
     . subst x;go_wp2;go_ret;exact⟨am (by rw[ae b];rfl),rfl⟩
     .
      have g1:((K:Int) == 32768)=false:=by simp;omega
      go_wp2;go_ret;exact⟨am (by rw[ae b];simp[x]),rfl⟩
   .
    have m:=af (pe (l:=l) (Or.inr (by omega)));clear h;by_cases c:us l=1
    . go_wp2_with fail;apply C.mono;rintro e x1⟨rfl,rfl⟩;rw[c];go_wp2_with fail;apply(gi 14 _ (by omega)).mono;rintro e x2⟨rfl,rfl⟩;rw[ae E14];go_wp2;go_ret;exact⟨am (by rw[ae m]),rfl⟩
    .
     have g0:((us l:Int) == 1)=false:=by simp;omega
     go_wp2_with fail;apply C.mono;rintro e x1⟨rfl,rfl⟩;go_wp2;go_ret;exact⟨am (by rw[ae m]),rfl⟩
def yF(a:Option Addr)(cap n:Nat)(l:List Int)(w:World)(O:l.length=n)(h:bE w a l)(p:inL l=true)(H:n<=300) :
  Calls prog 286 #[.slice a n cap] w fun e w'=>e = .returned (.bool (nd l))/\w'=w:=by
 subst O;have N:(l.length:Int)<=300:=by omega
 have J:=af H;have z:=af p;clear H p;go_enter func286,ntmps286;go_wp2_with fail
 go_loop [3,4,6,9] (fun u n _ i=>∃k:Nat,k<=l.length/\i = .int .i64 k/\u = .int .i64 (us (l.take k):Nat)/\n = .int .i64 (kr (l.take k):Nat)) (fun _ _ _ i=>l.length-(intOf i).toNat)
 case atStart=>exact⟨0,a0g _,rfl,rfl,rfl⟩
 case round=>
  obtain⟨k,M,rfl,rfl,rfl⟩:=hrel;have C:=To (l.take k);have F:=uD (l.take k);have D:(l.take k).length<=l.length:=by simp;omega
  have B:(kr (l.take k):Int)<=9830400:=by have:=ae J;omega
  have E:(us (l.take k):Int)<=300:=by omega
  clear C D F;by_cases f:k<l.length
  .
   obtain⟨g,o,rfl,T,m⟩:=h (by omega);have c0:=m k f;have s:=af (Bl l k f);have t:=af (rZ l k f);have S:inB (l.getD k 0) 0 15=true:=by
    rcases hb:inB (l.getD k 0) 0 15 with _|_
    . have:=Bj f hb;rw[ae z]at this;exact absurd this (by simp)
    . rfl
   clear m M h;generalize l.getD k 0=y,kr (l.take k)=u,us (l.take k)=q at *;obtain⟨y0,y1⟩:=aI.1 S;by_cases x:0<y
   .
    obtain⟨c,m⟩:∃c:Nat,15-y=(c:Int):=⟨(15-y).toNat,by omega⟩;have d:Hid (krN y=p2 c):=by
     show krN y=p2 c;unfold krN;rw[a0d x,m,a0n]
    have j:=GT y;rw[ae d]at j;have b:Hid (us (l.take (k+1))=q+1):=by have:=ae t;rw[a0d x]at this;exact this
    have P:(1:Int)*2 ^ c=(p2 c:Int):=(by rw[Int.one_mul,lP]);have I:(2:Int) ^ c=(p2 c:Int):=(lP c).symm;generalize p2 c=PW at *;have L:(PW:Int)<=32768:=(by omega);have Q:IntKind.i64.wrap (15-y)=(c:Int):=by rw[m];exact bW _ (by omega) (by omega)
    have R:IntKind.i64.wrap (PW:Int)=(PW:Int):=bW _ (by omega) (by omega);clear j;go_wp2
    go_round
    case rel=>exact⟨k+1,by omega,by go_num,by rw[ae b];go_num,by rw[ae s,ae d];go_num⟩
    case measure=>simp[intOf];omega
   .
    have d:Hid (krN y=0):=a0e x;have b:Hid (us (l.take (k+1))=q):=by have:=ae t;rw[a0e x]at this;exact this
    go_wp2
    go_round
    case rel=>exact⟨k+1,by omega,by go_num,by rw[ae b],by rw[ae s,ae d];rfl⟩
    case measure=>simp[intOf];omega
  .
   have r:l.take k=l:=a0t (by omega);rw[r]at B E ⊢;have v:Hid (nd l=(decide (kr l=32768) || (decide (us l=1)&&decide (kr l=16384)))):=rfl;clear h r;generalize kr l=K,us l=U at *;by_cases A:K=32768
   . subst A;go_wp2;go_ret;exact⟨am (by rw[ae v];rfl),rfl⟩
   .
    have g1:((K:Int) == 32768)=false:=by simp;omega
    by_cases G:U=1
    .
     subst G;by_cases h2:K=16384
     . subst h2;go_wp2;go_ret;exact⟨am (by rw[ae v];rfl),rfl⟩
     .
      have g2:((K:Int) == 16384)=false:=by simp;omega
      go_wp2;go_ret;exact⟨am (by rw[ae v];simp[A,h2]),rfl⟩
    .
     have g3:((U:Int) == 1)=false:=by simp;omega
     go_wp2;go_ret;exact⟨am (by rw[ae v];simp[A,G]),rfl⟩
def wl(a:Option Addr)(cap n:Nat)(l:List Int)(w:World)(s:l.length=n)(h:bE w a l)(v:n<=1048576) :
  Calls prog 280 #[.slice a n cap] w fun e w'=>e = .returned (.bool (ap l))/\w'=w:=by
 subst s;by_cases u:(l.length:Int)<=300
 .
  clear v;go_enter func280,ntmps280;go_wp2_with fail
  go_loopw [4,10] (fun _ i wr=>∃k:Nat,k<=l.length/\i = .int .i64 k/\inL (l.take k)=true/\wr=w) (fun _ i _=>l.length-(intOf i).toNat)
  case atStart=>exact⟨0,a0g _,rfl,rfl,rfl⟩
  case round=>
   obtain⟨k,A,rfl,b,rfl⟩:=hrel;have f:=af b;clear b;by_cases d:k<l.length
   .
    obtain⟨g,o,rfl,C,t⟩:=h (by omega);have c0:=t k d;have hit:=af (DY l k d);have j:=af (fun s=>Bj d s);clear t A h;generalize l.getD k 0=y at *;cases r:inB y 0 15
    .
     have c:=af (pe (a0J (ae j r)));rcases fs.1 r with z|z
     . go_wp2;go_ret;exact⟨am c.symm,rfl⟩
     .
      have B:¬ y<0:=(by omega);go_wp2;go_ret;exact⟨am c.symm,rfl⟩
    .
     obtain⟨y0,y1⟩:=aI.1 r;have m:Hid (inL (l.take (k+1))=true):=by show inL (l.take (k+1))=true;rw[ae hit,ae f,r];rfl
     go_wp2;go_roundw
     case rel=>exact⟨k+1,by omega,by go_num,m,by first|rfl|trivial⟩
     case measure=>simp[intOf];omega
   .
    have p:l.take k=l:=a0t (by omega);have b:inL l=true:=by have:=ae f;rw[p]at this;exact this
    have q:=af (wQ b (by omega));have x:=af (yF a cap l.length l wr rfl h b (by omega));clear p b h;go_wp2_with fail;apply x.mono;rintro e x1⟨rfl,rfl⟩;go_wp2;go_ret;exact⟨am q.symm,rfl⟩
 . have c:=af (pe (l:=l) (Or.inr (by omega)));clear v h;go_enter func280,ntmps280;go_wp2;go_ret;exact⟨am c.symm,rfl⟩
def inn(l:List Int)(n:Int)(s:Nat×List Int):Nat->Nat×List Int
 | 0=>s
 | k+1=>if l.getD k 0=n then((inn l n s k).1+1,(inn l n s k).2.set k ((inn l n s k).1:Int))else inn l n s k
def aW(l:List Int):Nat->Nat×List Int
 | 0=>(0,List.replicate l.length 0)
 | N+1=>inn l ((N:Int)+1) (2*(aW l N).1,(aW l N).2) l.length
def vi(l:List Int)(n:Int)(s:Nat×List Int)(k:Nat):(inn l n s k).2.length=s.2.length:=by
 induction k with
 | zero=>rfl
 | succ k ih=>
  simp only[inn]
  split
  . simpa using ih
  . exact ih
def bJ(l:List Int)(N:Nat):(aW l N).2.length=l.length:=by
 induction N with
 | zero=>simp[aW]
 | succ N ih=>simp only[aW];rw[vi];exact ih
def GP(l:List Int)(n:Int)(s:Nat×List Int)(k:Nat):(inn l n s k).1<=s.1+k:=by
 induction k with
 | zero=>exact a0a _
 | succ k ih=>
  simp only[inn]
  split
  . simp only;omega
  . omega
def SA(l:List Int)(N:Nat):(aW l N).1+l.length<=2 ^ N*l.length:=by
 induction N with
 | zero=>simp[aW]
 | succ N ih=>
  simp only[aW];have h:=GP l ((N:Int)+1) (2*(aW l N).1,(aW l N).2) l.length;simp only at h;have e:2 ^ (N+1)*l.length=2*(2 ^ N*l.length):=by rw[a1x,a1j (2 ^ N),a1R]
  omega
def vp(l:List Int)(N:Nat)(a:N<=15)(b:l.length<=300):(aW l N).1<=9830400:=by
 have h:=SA l N;have h2:2 ^ N<=2 ^ 15:=a0P (by omega) a;have c:2 ^ N*l.length<=32768*300:=a2t h2 b;omega
def eU(a:Option Addr)(cap n:Nat)(l:List Int)(w:World)(U:l.length=n)(h:bE w a l)(X:n<=300) :
  Calls prog 232 #[.slice a n cap] w fun e w'=>e = .returned (.slice w.heap.size n n)/\an w' w.heap.size (.slice w.heap.size n n) (aW l 15).2/\Below w.heap.size w w':=by
 have ab:(n:Int)<=300:=by omega
 obtain⟨i0,W,G,H,I⟩:=a0p Tryz.infoInt;have u:=af U;have L:=af X;go_enter func232,ntmps232;go_wp2_with (at_make;refine a1J _ rfl _ _ 129 rfl w.heap.size 3 i0 (.int .i64 0) 1 a0F W G H .i64 .i64 _ _ n rfl rfl rfl rfl (by rw[I];omega) (by unfold maxLen;omega) (a0a _) ?_;intro w1 s p);have D:an w1 w.heap.size (.slice w.heap.size n n) (aW l 0).2:=by
  show an w1 w.heap.size (.slice w.heap.size n n) (List.replicate l.length 0);rw[U];exact dJ s
 have z:Below w.heap.size w w1:=(a0c _ _).grown p (a0a _) (fun k h=>by cases h);clear s p W G H I X U
 go_loopw [4,5,6] (fun c m _ wr=>∃N:Nat,N<=15/\m = .int .i64 ((N:Int)+1)/\c = .int .i64 (2*(aW l N).1:Nat)/\an wr w.heap.size (.slice w.heap.size n n) (aW l N).2/\Below w.heap.size w wr) (fun _ m _ _=>16-(intOf m).toNat)
 case atStart=>exact⟨0,by omega,rfl,rfl,D,z⟩
 case round=>
  obtain⟨N,Y,rfl,rfl,J,f⟩:=hrel;clear D z;have P:=vp l N Y (by rw[ae u];exact L);have O:((2*(aW l N).1:Nat):Int)<=19660800:=by omega
  have Z:(N:Int)<=15:=by omega
  by_cases aa:N<15
  .
   have q:Hid ((aW l N).2.length=n):=(bJ l N).trans u;have A:Hid (aW l (N+1)=inn l ((N:Int)+1) (2*(aW l N).1,(aW l N).2) l.length):=rfl;have t:=af (vp l (N+1) (by omega) (by rw[ae u];exact L));generalize M:((2*(aW l N).1,(aW l N).2):Nat×List Int)=S at *;have v:2*(aW l N).1=S.1:=(by rw[←M]);have x:(aW l N).2=S.2:=(by rw[←M]);rw[v]at O ⊢;rw[x]at J q;clear M v x P;go_wp2_with fail
   go_loopw [4,6] (fun c i wr=>∃k:Nat,k<=n/\i = .int .i64 k/\c = .int .i64 ((inn l ((N:Int)+1) S k).1:Nat)/\an wr w.heap.size (.slice w.heap.size n n) (inn l ((N:Int)+1) S k).2/\Below w.heap.size w wr) (fun _ i _=>n-(intOf i).toNat)
   case atStart=>exact⟨0,a0g _,rfl,rfl,J,f⟩
   case round=>
    obtain⟨k,hk,rfl,rfl,hq,hb⟩:=hrel;clear J f;have r:Hid ((inn l ((N:Int)+1) S k).2.length=n):=(vi _ _ _ _).trans q;have R:=GP l ((N:Int)+1) S k;have C:((inn l ((N:Int)+1) S k).1:Int)<=19661100:=by have:=ae L;omega
    clear R;by_cases B:k<n
    .
     obtain⟨g,o,rfl,hg,V⟩:=(h.later hb) (by rw[ae u];omega);have c0:=V k (by rw[ae u];exact B);obtain⟨d0,f0,_,_⟩:=hq.at r B;have F:Hid (inn l ((N:Int)+1) S (k+1)=if l.getD k 0=(N:Int)+1 then((inn l ((N:Int)+1) S k).1+1,(inn l ((N:Int)+1) S k).2.set k ((inn l ((N:Int)+1) S k).1:Int))else inn l ((N:Int)+1) S k):=rfl;clear V hk h;generalize l.getD k 0=y,inn l ((N:Int)+1) S k=T at *;by_cases K:y=(N:Int)+1
     .
      have b:Hid (inn l ((N:Int)+1) S (k+1)=(T.1+1,T.2.set k (T.1:Int))):=by have:=ae F;rw[a0d K]at this;exact this
      have E:=af (hq.put (j:=k) r (T.1:Int));subst K;generalize T.2.getD k 0=d at *;go_wp2;go_roundw
      case rel=>exact⟨k+1,by omega,by go_num,by rw[ae b];go_num,by rw[ae b];exact E,ai hb (a0a _) _⟩
      case measure=>simp[intOf];omega
     .
      have b:Hid (inn l ((N:Int)+1) S (k+1)=T):=by have:=ae F;rw[a0e K]at this;exact this
      have g1:(y == (N:Int)+1)=false:=by simpa using K
      go_wp2;go_roundw
      case rel=>exact⟨k+1,by omega,by go_num,by rw[ae b],by rw[ae b];exact hq,hb⟩
      case measure=>simp[intOf];omega
    .
     have Q:k=l.length:=by have:=ae u;omega
     subst Q;rw[←ae A]at hq C ⊢;have ac:((aW l (N+1)).1:Int)<=9830400:=by have:=ae t;omega
     go_wp2;go_roundw
     case rel=>exact⟨N+1,by omega,by go_num,by go_num,hq,hb⟩
     case measure=>simp[intOf];omega
  .
   obtain rfl:N=15:=by omega
   go_wp2;go_ret;exact⟨rfl,J,f⟩
def many(l:List Int)(n:Int):Nat->Nat
 | 0=>0
 | k+1=>if l.getD k 0=n then many l n k+1 else many l n k
def syms(l:List Int)(n:Int)(s:List Int):Nat->List Int
 | 0=>s
 | k+1=>if l.getD k 0=n then syms l n s k++[(k:Int)]else syms l n s k
def dU(l:List Int):Nat->List Int
 | 0=>[]
 | N+1=>syms l ((N:Int)+1) (dU l N) l.length
def iK(l:List Int)(N j:Nat):Nat:=if 1<=j/\j<=N then many l (j:Int) l.length else 0
def iU(w:World)(b:Nat)(vl vc vs:Value)(m:Nat->Nat):Prop:=
 w.cell? ⟨b,0,none⟩=some vl/\w.cell? ⟨b,1,none⟩=some vc/\(∀j,j<16->w.cell? ⟨b,2+j,none⟩=some (.int .i64 (m j:Nat)))/\w.cell? ⟨b,18,none⟩=some vs/\(∀o,w.frozen? ⟨b,o,none⟩=false)/\b<w.heap.size
def iU.kept(h:iU w b vl vc vs m)(hb:Below (b+1) w w'):iU w' b vl vc vs m:=by
 obtain⟨c0,c1,c2,c3,f,c⟩:=h;have a:=a0j b;exact⟨(hb.cell (p:=⟨b,0,none⟩) a).trans c0,(hb.cell (p:=⟨b,1,none⟩) a).trans c1,fun j d=>(hb.cell (p:=⟨b,2+j,none⟩) a).trans (c2 j d),(hb.cell (p:=⟨b,18,none⟩) a).trans c3,fun o=>(hb.frozen (p:=⟨b,o,none⟩) a).trans (f o),a0h c hb.size⟩
def iU.other(h:iU w b vl vc vs m)(d:g≠b)(u:Value):iU (w.setCell ⟨g,o,none⟩ u) b vl vc vs m:=by
 obtain⟨c0,c1,c2,c3,f,a⟩:=h;refine⟨?_,?_,fun j c=>?_,?_,fun o=>by simpa using f o,by simpa using a⟩
 . rw[World.cell?_setCell_other _ _ _ _ (by simp only[ne_eq,a0A];omega)];exact c0
 . rw[World.cell?_setCell_other _ _ _ _ (by simp only[ne_eq,a0A];omega)];exact c1
 . rw[World.cell?_setCell_other _ _ _ _ (by simp only[ne_eq,a0A];omega)];exact c2 j c
 . rw[World.cell?_setCell_other _ _ _ _ (by simp only[ne_eq,a0A];omega)];exact c3
def iU.many{x:Nat}(h:iU w b vl vc vs m)(d:i<16):iU (w.setCell ⟨b,2+i,none⟩ (.int .i64 (x:Nat))) b vl vc vs (fun j=>if j=i then x else m j):=by
 obtain⟨c0,c1,c2,c3,f,a⟩:=h;refine⟨?_,?_,fun j c=>?_,?_,fun o=>by simpa using f o,by simpa using a⟩
 . rw[World.cell?_setCell_other _ _ _ _ (by simp only[ne_eq,a0A];omega)];exact c0
 . rw[World.cell?_setCell_other _ _ _ _ (by simp only[ne_eq,a0A];omega)];exact c1
 .
  by_cases e:j=i
  . subst e;rw[World.cell?_setCell_same _ _ _ (c2 j c)];simp
  . rw[World.cell?_setCell_other _ _ _ _ (by simp only[ne_eq,a0A];omega)];simp only[a0e e];exact c2 j c
 . rw[World.cell?_setCell_other _ _ _ _ (by simp only[ne_eq,a0A];omega)];exact c3
def iU.sorted(h:iU w b vl vc vs m)(u:Value):iU (w.setCell ⟨b,18,none⟩ u) b vl vc u m:=by
 obtain⟨c0,c1,c2,c3,f,a⟩:=h;refine⟨?_,?_,fun j c=>?_,World.cell?_setCell_same _ _ _ c3,fun o=>by simpa using f o,by simpa using a⟩
 . rw[World.cell?_setCell_other _ _ _ _ (by simp only[ne_eq,a0A];omega)];exact c0
 . rw[World.cell?_setCell_other _ _ _ _ (by simp only[ne_eq,a0A];omega)];exact c1
 . rw[World.cell?_setCell_other _ _ _ _ (by simp only[ne_eq,a0A];omega)];exact c2 j c
def Pb(l:List Int)(n:Int)(k:Nat):many l n k<=k:=by
 induction k with
 | zero=>exact a0a _
 | succ k ih=>simp only[many];split<;>omega
def Ib(l:List Int)(N:Nat):(fun j=>if j=N+1 then many l ((N:Int)+1) l.length else iK l N j)=iK l (N+1):=by
 funext j
 unfold iK;by_cases e:j=N+1
 .
  subst e;rw[a0d rfl,a0d ⟨by omega,by omega⟩]
  congr 1
 .
  rw[a0e e];by_cases h:1<=j/\j<=N
  . rw[a0d h,a0d ⟨h.1,by omega⟩]
  . rw[a0e h,a0e (by omega)]
def Ic(l:List Int)(N:Nat):(fun j=>if j=N+1 then many l ((N:Int)+1) 0 else iK l N j)=iK l N:=by
 funext j
 by_cases e:j=N+1
 . subst e;rw[a0d rfl];unfold iK;rw[a0e (by omega)];rfl
 . rw[a0e e]
def zS(l:List Int)(n:Int)(s:List Int)(k:Nat):(syms l n s k).length<=s.length+k:=by
 induction k with
 | zero=>exact a0a _
 | succ k ih=>
  simp only[syms]
  split
  . simp;omega
  . omega
def xW(l:List Int)(N:Nat):(dU l N).length<=N*l.length:=by
 induction N with
 | zero=>simp[dU]
 | succ N ih=>
  have:=zS l ((N:Int)+1) (dU l N) l.length;simp only[dU];rw[a1y,a2P];omega
def nx(l:List Int):Nat->Nat
 | 0=>0
 | N+1=>2*nx l N+many l ((N:Int)+1) l.length
def pl(l:List Int):Nat->Nat
 | 0=>0
 | N+1=>pl l N+many l ((N:Int)+1) l.length
def Je(l:List Int)(n:Int)(s:Nat×List Int)(k:Nat):(inn l n s k).1=s.1+many l n k:=by
 induction k with
 | zero=>rfl
 | succ k ih=>
  simp only[inn,many]
  split
  . simp only[ih];omega
  . exact ih
def Pt(l:List Int)(N:Nat):(aW l N).1=nx l N:=by
 induction N with
 | zero=>rfl
 | succ N ih=>simp only[aW,nx];rw[Je,ih]
def Sc(l:List Int)(n:Int)(s:Nat×List Int)(k i:Nat)(b:i<s.2.length):(inn l n s k).2.getD i 0=if i<k/\l.getD i 0=n then((s.1+many l n i:Nat):Int)else s.2.getD i 0:=by
 induction k with
 | zero=>simp[inn]
 | succ k ih=>
  simp only[inn]
  split
  case isTrue h=>
   by_cases e:i=k
   .
    subst e;have c:i<(inn l n s i).2.length:=by rw[vi];exact b
    rw[a0d ⟨a0j _,h⟩];simp only[List.getD,List.getElem?_set_self c,a1K];rw[Je]
   .
    have e2:((inn l n s k).2.set k ((inn l n s k).1:Int)).getD i 0=(inn l n s k).2.getD i 0:=by
     simp only[List.getD];rw[List.getElem?_set_ne (Ne.symm e)]
    simp only;rw[e2,ih];by_cases h2:i<k
    . simp[h2,Nat.lt_succ_of_lt h2]
    . rw[a0e (by omega),a0e (by omega)]
  case isFalse h=>
   rw[ih];by_cases e:i=k
   . subst e;rw[a0e (by omega),a0e (fun a=>h a.2)]
   .
    by_cases h2:i<k
    . simp[h2,Nat.lt_succ_of_lt h2]
    . rw[a0e (by omega),a0e (by omega)]
def cz(l:List Int)(i:Nat):Nat:=2*nx l ((l.getD i 0).toNat-1)+many l (l.getD i 0) i
def EK(l:List Int)(N i:Nat)(a:i<l.length):(aW l N).2.getD i 0=if 1<=l.getD i 0/\l.getD i 0<=(N:Int)then(cz l i:Int)else 0:=by
 induction N with
 | zero=>
  rw[a0e (by omega)];simp[aW,List.getD,a]
 | succ N ih=>
  simp only[aW];rw[Sc _ _ _ _ _ (by simp only[bJ];exact a)];simp only;by_cases e:l.getD i 0=(N:Int)+1
  .
   rw[a0d ⟨a,e⟩,a0d ⟨by omega,by omega⟩,Pt];unfold cz;rw[e];have:((N:Int)+1).toNat-1=N:=by omega
   rw[this]
  .
   rw[a0e (fun b=>e b.2),ih];by_cases h2:1<=l.getD i 0/\l.getD i 0<=(N:Int)
   . rw[a0d h2,a0d ⟨h2.1,by omega⟩]
   . rw[a0e h2,a0e (by omega)]
/-! Kraft's sum, by lengths. -/
def krU(N:Nat)(l:List Int):Nat:=(l.map (fun b=>if 0<b/\b<=(N:Int)then p2 (15-b).toNat else 0)).sum
def Ub(N:Nat)(l:List Int):krU N l<=kr l:=by
 induction l with
 | nil=>exact a0a _
 | cons b l ih=>
  simp only[krU,kr,krN,a0D,a0N]at ih ⊢
  split<;>split<;>omega
def Lu(b:Int)(l:List Int)(n:Int)(k:Nat):many (b :: l) n (k+1)=(if b=n then 1 else 0)+many l n k:=by
 induction k with
 | zero=>simp[many]
 | succ k ih=>
  have e:many (b :: l) n (k+1+1)=if (b :: l).getD (k+1) 0=n then many (b :: l) n (k+1)+1 else many (b :: l) n (k+1):=rfl
  have e2:(b :: l).getD (k+1) 0=l.getD k 0:=by simp[List.getD]
  rw[e,e2,ih];simp only[many]
  split<;>split<;>omega
def OG(N:Nat)(a:N<15)(l:List Int):krU (N+1) l=krU N l+many l ((N:Int)+1) l.length*p2 (14-N):=by
 induction l with
 | nil=>simp[krU,many]
 | cons b l ih=>
  rw[a0C,Lu,a1y];simp only[krU,a0D,a0N]at ih ⊢;rw[ih];by_cases e:b=(N:Int)+1
  .
   rw[a0d (by omega),a0e (by omega),a0d e];have:(15-b).toNat=14-N:=by omega
   rw[this];omega
  .
   rw[a0e e];by_cases h:0<b/\b<=(N:Int)
   . rw[a0d h,a0d (by omega)];omega
   . rw[a0e h,a0e (by omega)];omega
def UR(l:List Int)(N:Nat)(a:N<=15):nx l N*p2 (15-N)=krU N l:=by
 induction N with
 | zero=>
  have:krU 0 l=0:=by
   induction l with
   | nil=>rfl
   | cons b l ih=>
    simp only[krU,a0D,a0N]at ih ⊢;rw[ih,a0e (by omega)]
  rw[this];simp[nx]
 | succ N ih=>
  rw[OG N (by omega),←ih (by omega)];have e1:15-N=(14-N)+1:=by omega
  have e2:15-(N+1)=14-N:=by omega
  rw[e1,e2,lq];simp only[nx];rw[a1y,a1j 2,a1R,a1j 2]
def UO(h:ap l=true):kr l<=32768:=by
 simp only[ap,nd,a0k,a1m,a2i]at h;omega
def Tr(h:ap l=true)(N:Nat)(a:N<=15):nx l N<=p2 N:=by
 have c:=UR l N a;have h2:=Ub N l;have d:=UO h;have e:p2 N*p2 (15-N)=32768:=by
  unfold p2;rw[←a0T];have:N+(15-N)=15:=by omega
  rw[this]
 have b:=mW (15-N);exact Nat.le_of_mul_le_mul_right (by omega:nx l N*p2 (15-N)<=p2 N*p2 (15-N)) b
def rE{n:Int}(a:l.getD i 0=n):∀k,i<k->many l n i<many l n k:=by
 intro k b;induction k with
 | zero=>omega
 | succ k ih=>
  by_cases e:i=k
  . subst e;simp only[many];rw[a0d a];omega
  .
   have:=ih (by omega);simp only[many]
   split<;>omega
def nX(h:inL l=true)(a:i<l.length):0<=l.getD i 0/\l.getD i 0<=15:=by
 have:=a1c.1 h (l.getD i 0) (by simp[List.getD,a]);exact aI.1 this
def io(h:ap l=true):inL l=true:=by
 simp only[ap,a0k]at h;exact h.1.1
def sC(h:ap l=true)(b:i<l.length)(d:1<=l.getD i 0):cz l i<p2 (l.getD i 0).toNat/\cz l i<nx l (l.getD i 0).toNat:=by
 obtain⟨_,hb⟩:=nX (io h) b;obtain⟨n,hn⟩:∃n:Nat,l.getD i 0=(n:Int)+1:=⟨(l.getD i 0).toNat-1,by omega⟩;have a:=Tr h (n+1) (by omega);have c:=rE hn l.length b;have e1:(l.getD i 0).toNat=n+1:=by omega
 unfold cz;rw[e1,hn];simp only[nx,a3S]at a ⊢;omega
def yW(h:ap l=true)(b:i<l.length):(aW l 15).2.getD i 0=if 1<=l.getD i 0 then(cz l i:Int)else 0:=by
 rw[EK l 15 i b];have:=(nX (io h) b).2;by_cases a:1<=l.getD i 0
 . rw[a0d a,a0d ⟨a,by omega⟩]
 . rw[a0e a,a0e (by omega)]
/-! Symbols in their order. -/
def rW(l:List Int)(n:Int)(s:List Int)(k:Nat):(syms l n s k).length=s.length+many l n k:=by
 induction k with
 | zero=>rfl
 | succ k ih=>
  simp only[syms,many]
  split
  . simp[ih];omega
  . exact ih
def rV(l:List Int)(N:Nat):(dU l N).length=pl l N:=by
 induction N with
 | zero=>rfl
 | succ N ih=>simp only[dU,pl];rw[rW,ih]
def Qt(l:List Int)(n:Int)(s:List Int)(k j:Nat)(b:j<s.length):(syms l n s k).getD j 0=s.getD j 0:=by
 induction k with
 | zero=>rfl
 | succ k ih=>
  simp only[syms]
  split
  .
   have a:j<(syms l n s k).length:=by rw[rW];omega
   rw[←ih];simp only[List.getD];rw[List.getElem?_append_left a]
  . exact ih
def Qs(l:List Int)(n:Int)(s:List Int)(k i:Nat)(d:i<k)(a:l.getD i 0=n):(syms l n s k).getD (s.length+many l n i) 0=(i:Int):=by
 induction k with
 | zero=>omega
 | succ k ih=>
  simp only[syms];by_cases e:i=k
  . subst e;rw[a0d a];simp only[List.getD];rw[List.getElem?_append_right (by rw[rW];omega),rW];simp
  .
   have c:=rE a k (by omega)
   split
   .
    have b:s.length+many l n i<(syms l n s k).length:=by rw[rW];omega
    rw[←ih (by omega)];simp only[List.getD];rw[List.getElem?_append_left b]
   . exact ih (by omega)
def zR (l : List Int) (N n i : Nat) (hi : i < l.length) (hn : l.getD i 0 = (n : Int) + 1) (hN : n < N) : (dU l N).getD (pl l n + many l ((n : Int) + 1) i) 0 = (i : Int) := by
  induction N with
  | zero => omega
  | succ N ih =>
    by_cases e : n = N
    . subst e
      simp only [dU]
      rw [← rV]
      exact Qs l _ _ _ i hi hn
    . simp only [dU]
      have hlt := rE hn l.length hi
      have hmono : pl l (n + 1) ≤ pl l N := by
        have : ∀ a b, a ≤ b → pl l a ≤ pl l b := by
          intro a b hab
          induction b with
          | zero => have : a = 0 := by omega
                    rw [this]; exact a0a _
          | succ b ihb =>
            by_cases e2 : a = b + 1
            . rw [e2]; exact a0a _
            . have := ihb (by omega)
              simp only [pl]; omega
        exact this _ _ (by omega)
      have hp : pl l (n + 1) = pl l n + many l ((n : Int) + 1) l.length := rfl
      rw [Qt _ _ _ _ _ (by rw [rV]; omega)]
      exact ih (by omega)
def So(l:List Int)(n:Int)(k t:Nat)(h:t<many l n k):∃i,i<k/\l.getD i 0=n/\many l n i=t:=by
 induction k with
 | zero=>simp[many]at h
 | succ k ih=>
  simp only[many]at h
  split at h
  case isTrue hn=>
   by_cases e:t=many l n k
   . exact⟨k,a0j _,hn,e.symm⟩
   . obtain⟨i,b,a,h2⟩:=ih (by omega);exact⟨i,by omega,a,h2⟩
  case isFalse=>
   obtain⟨i,b,a,h2⟩:=ih h;exact⟨i,by omega,a,h2⟩
def pG(i:Nat):Int:=if i<144 then 8 else if i<256 then 9 else if i<280 then 7 else 8
def cm(k:Nat):List Int:=(List.range k).map pG
def dy(k:Nat):(cm k).length=k:=by simp[cm]
def oT(k:Nat):cm (k+1)=cm k++[pG k]:=by simp[cm,a3T]
def ud(w:World) :
  Calls prog 202 #[] w fun e w'=>∃v,e = .returned v/\an w' w.heap.size v (List.replicate 32 5)/\Below w.heap.size w w':=by
 obtain⟨i0,x,q,r,s⟩:=a0p Tryz.infoInt;have o:Hid (an (w.alloc (.cells #[] 3)) w.heap.size (.slice w.heap.size 0 0) []):=an.lit _ _ (a0a _);have m:Hid (Below w.heap.size w (w.alloc (.cells #[] 3))):=cC;go_enter func202,ntmps202;go_wp2_with fail
 go_loopw [1,2] (fun v i wr=>∃k:Nat,k<=32/\i = .int .i64 k/\an wr w.heap.size v (List.replicate k 5)/\Below w.heap.size w wr) (fun _ i _=>32-(intOf i).toNat)
 case atStart=>exact⟨0,a0g _,rfl,o,m⟩
 case round=>
  obtain⟨k,A,rfl,hq,a⟩:=hrel;have c:Hid ((List.replicate k (5:Int)).length=k):=a0y;obtain⟨va,vc,rfl⟩:=hq.formN c;have y:(k:Int)<=32:=by omega
  by_cases z:k<32
  .
   have u:(k:Int)<32:=(by omega);have p:Hid (List.replicate k (5:Int)++[5]=List.replicate (k+1) 5):=by show _=_;rw[a3f]
   have t:Hid (k+1<=maxLen/\(k+1)*8<=140737488355328):=by show _/\_;unfold maxLen;omega
   have l:=af (hq.own c);have g:=a.size;have f:=af a;clear hq a;go_wp2_with (at_builtin;refine a0w _ rfl _ _ 129 rfl w.heap.size 3 i0 (.int .i64 0) 1 8 a0F x q r s rfl (by decide) (.slice va k vc) _ _ rfl (a0o l _) ⟨wr.heap.size,0,none⟩ 1 1 [.int .i64 5] rfl rfl (cK _ _ rfl _ _) (fD _) t.1 t.2 (ar g _) ?_;intro v' x2 d b h;clear h);have n:=aH (v:=.slice va k vc) b l (a0a _) g f;have j:=dN c d;rw[ae p]at j;clear d b;go_wp2;go_roundw
   case rel=>exact⟨k+1,by omega,by go_num,j,n⟩
   case measure=>simp[intOf];omega
  .
   obtain rfl:k=32:=by omega
   go_wp2;go_ret;exact⟨_,rfl,hq,a⟩
def ue(w:World) :
  Calls prog 201 #[] w fun e w'=>∃v,e = .returned v/\an w' w.heap.size v (cm 288)/\Below w.heap.size w w':=by
 obtain⟨i0,t,p,q,r⟩:=a0p Tryz.infoInt;have x:Hid (an (w.alloc (.cells #[] 3)) w.heap.size (.slice w.heap.size 0 0) (cm 0)):=an.lit _ _ (a0a _);have u:Hid (Below w.heap.size w (w.alloc (.cells #[] 3))):=cC;go_enter func201,ntmps201;go_wp2_with fail
 go_loopw [1,2] (fun v i wr=>∃k:Nat,k<=288/\i = .int .i64 k/\an wr w.heap.size v (cm k)/\Below w.heap.size w wr) (fun _ i _=>288-(intOf i).toNat)
 case atStart=>exact⟨0,a0g _,rfl,x,u⟩
 case round=>
  obtain⟨k,D,rfl,hq,o⟩:=hrel;have f:=af (dy k);obtain⟨va,vc,rfl⟩:=hq.formN f;have z:(k:Int)<=288:=by omega
  by_cases A:k<288
  .
   have y:(k:Int)<288:=(by omega);have s:Hid (k+1<=maxLen/\(k+1)*8<=140737488355328):=by show _/\_;unfold maxLen;omega
   have h:=af (hq.own f);have g:=o.size;have n:=af o;clear hq o;by_cases B:(k:Int)<144
   .
    have j:Hid (pG k=8):=by show _=_;unfold pG;rw[a0d (by omega)]
    have m:Hid (cm k++[8]=cm (k+1)):=by show _=_;rw[oT,ae j]
    go_wp2_with (at_builtin;refine a0w _ rfl _ _ 129 rfl w.heap.size 3 i0 (.int .i64 0) 1 8 a0F t p q r rfl (by decide) (.slice va k vc) _ _ rfl (a0o h _) ⟨wr.heap.size,0,none⟩ 1 1 [.int .i64 8] rfl rfl (cK _ _ rfl _ _) (fD _) s.1 s.2 (ar g _) ?_;intro v' x2 b a c;clear c);have l:=aH (v:=.slice va k vc) a h (a0a _) g n;have d:=dN f b;rw[ae m]at d;clear b a;go_wp2;go_roundw
    case rel=>exact⟨k+1,by omega,by go_num,d,l⟩
    case measure=>simp[intOf];omega
   .
    by_cases h2:(k:Int)<256
    .
     have j:Hid (pG k=9):=by show _=_;unfold pG;rw[a0e (by omega),a0d (by omega)]
     have m:Hid (cm k++[9]=cm (k+1)):=by show _=_;rw[oT,ae j]
     go_wp2_with (at_builtin;refine a0w _ rfl _ _ 129 rfl w.heap.size 3 i0 (.int .i64 0) 1 8 a0F t p q r rfl (by decide) (.slice va k vc) _ _ rfl (a0o h _) ⟨wr.heap.size,0,none⟩ 1 1 [.int .i64 9] rfl rfl (cK _ _ rfl _ _) (fD _) s.1 s.2 (ar g _) ?_;intro v' x2 b a c;clear c);have l:=aH (v:=.slice va k vc) a h (a0a _) g n;have d:=dN f b;rw[ae m]at d;clear b a;go_wp2;go_roundw
     case rel=>exact⟨k+1,by omega,by go_num,d,l⟩
     case measure=>simp[intOf];omega
    .
     by_cases C:(k:Int)<280
     .
      have j:Hid (pG k=7):=by show _=_;unfold pG;rw[a0e (by omega),a0e (by omega),a0d (by omega)]
      have m:Hid (cm k++[7]=cm (k+1)):=by show _=_;rw[oT,ae j]
      go_wp2_with (at_builtin;refine a0w _ rfl _ _ 129 rfl w.heap.size 3 i0 (.int .i64 0) 1 8 a0F t p q r rfl (by decide) (.slice va k vc) _ _ rfl (a0o h _) ⟨wr.heap.size,0,none⟩ 1 1 [.int .i64 7] rfl rfl (cK _ _ rfl _ _) (fD _) s.1 s.2 (ar g _) ?_;intro v' x2 b a c;clear c);have l:=aH (v:=.slice va k vc) a h (a0a _) g n;have d:=dN f b;rw[ae m]at d;clear b a;go_wp2;go_roundw
      case rel=>exact⟨k+1,by omega,by go_num,d,l⟩
      case measure=>simp[intOf];omega
     .
      have j:Hid (pG k=8):=by show _=_;unfold pG;rw[a0e (by omega),a0e (by omega),a0e (by omega)]
      have m:Hid (cm k++[8]=cm (k+1)):=by show _=_;rw[oT,ae j]
      go_wp2_with (at_builtin;refine a0w _ rfl _ _ 129 rfl w.heap.size 3 i0 (.int .i64 0) 1 8 a0F t p q r rfl (by decide) (.slice va k vc) _ _ rfl (a0o h _) ⟨wr.heap.size,0,none⟩ 1 1 [.int .i64 8] rfl rfl (cK _ _ rfl _ _) (fD _) s.1 s.2 (ar g _) ?_;intro v' x2 b a c;clear c);have l:=aH (v:=.slice va k vc) a h (a0a _) g n;have d:=dN f b;rw[ae m]at d;clear b a;go_wp2;go_roundw
      case rel=>exact⟨k+1,by omega,by go_num,d,l⟩
      case measure=>simp[intOf];omega
  .
   obtain rfl:k=288:=by omega
   go_wp2;go_ret;exact⟨_,rfl,hq,o⟩
def fnd(L G num:Nat):Nat->Nat
 | 0=>0
 | k+1=>if num<(stF L G (k+1)).1 then fnd L G num k else k+1
def iH(L G num k:Nat):fnd L G num k<=k:=by
 induction k with
 | zero=>exact a0a _
 | succ k ih=>simp only[fnd];split<;>omega
def Oc{num:Nat}(h:num<(stF L G (k+1)).1):fnd L G num (k+1)=fnd L G num k:=by simp only[fnd];rw[a0d h]
def Od{num:Nat}(h:¬ num<(stF L G k).1):fnd L G num k=k:=by
 cases k with
 | zero=>rfl
 | succ k=>simp only[fnd];rw[a0e h]
def tF(e:L<=3)(a:1<=G)(b:G<=4)(f:k/G<=15):(stF L G k).1<=200000/\(stF L G k).2<=14:=by
 unfold stF
 split
 . simp only;omega
 .
  have c:p2 (k/G-1)<=p2 14:=a0P (by omega) (by omega);have h2:p2 14=16384:=by decide
  have d:(G+k%G)*p2 (k/G-1)<=8*16384:=a2t (by have:=a0Z k a;omega) (by omega);simp only;omega
def sY{x:Value}(h:w.heap[b]?=some (Obj.cells #[x,y] t))(u v:Value):((w.setCell ⟨b,0,none⟩ u).setCell ⟨b,1,none⟩ v).heap[b]?=some (Obj.cells #[u,v] t):=by
 have a:(w.setCell ⟨b,0,none⟩ u).heap[b]?=some (Obj.cells #[u,y] t):=by
  show(w.heap.modify b _)[b]?=_;rw[Array.getElem?_modify,a0d rfl,h];simp
 generalize w.setCell ⟨b,0,none⟩ u=W at *;show(W.heap.modify b _)[b]?=_;rw[Array.getElem?_modify,a0d rfl,a];simp
def oZ{x:Value}(h:w.heap[b]?=some (Obj.cells #[x,y] t)):w.frozen? ⟨b,0,none⟩=false/\w.frozen? ⟨b,1,none⟩=false:=⟨by simp[World.frozen?,h],by simp[World.frozen?,h]⟩
def Du(L G M num:Nat)(w:World)(O:L<=3)(N:1<=G)(r:G<=4)(P:1<=M)(hM:M<=30)(l:(M-1)/G<=15)(z:L<=num)(hn:num<=1000) :
  Ds 215 #[.agg #[L,G,M],num] w (.tuple #[.int .i64 (fnd L G num (M-1):Nat),.agg #[.int .i64 ((num:Int)-((stF L G (fnd L G num (M-1))).1:Int)),.int .i64 ((stF L G (fnd L G num (M-1))).2:Nat)]]):=by
 obtain⟨q,hq⟩:∃q,M-1=q:=⟨_,rfl⟩;have ac:(M:Int)-1=(q:Int):=by omega
 have aa:(M:Int)<=30:=by omega
 have ab:(num:Int)<=1000:=by omega
 rw[hq]at l ⊢;have Q:=af (fun k (t:k<=q) W=>Fp L G M k W O N r (a0E (Nat.div_le_div_right t) l) (by omega));have V:=af (fun k (t:k<=q)=>tF (L:=L) (G:=G) (k:=k) O N r (a0E (Nat.div_le_div_right t) l));have U:Hid ((stF L G 0).1=L):=by show _=_;unfold stF;rw[a0d (by omega)];simp
 have Z:=af z;have x:Hid (((w.alloc (.cells #[L,G,M] 294)).alloc (.cells #[.int .i64 0,.int .i64 0] 167)).heap[w.heap.size]?=some (Obj.cells #[L,G,M] 294)):=(a1k _ _ _ (by simp)).trans (alloc_at _ _);have y:Hid (((w.alloc (.cells #[L,G,M] 294)).alloc (.cells #[.int .i64 0,.int .i64 0] 167)).heap[w.heap.size+1]?=some (Obj.cells #[.int .i64 0,.int .i64 0] 167)):=by
  have e:(w.alloc (.cells #[L,G,M] 294)).heap.size=w.heap.size+1:=by simp
  have:=alloc_at (w.alloc (.cells #[L,G,M] 294)) (.cells #[.int .i64 0,.int .i64 0] 167);rw[e]at this;exact this
 have H:Hid (Below w.heap.size w ((w.alloc (.cells #[L,G,M] 294)).alloc (.cells #[.int .i64 0,.int .i64 0] 167))):=((a0c _ w).alloc (a0a _) _).alloc (by simp) _;clear O N r P hM l z hn hq;go_enter func215,ntmps215;go_wp2_with fail;apply(Q q (a0a _) _).mono;rintro e x1⟨rfl,a⟩;have m:Hid (x1.heap[w.heap.size]?=some (Obj.cells #[L,G,M] 294)):=(a.block _ (dS x)).trans x;have o:Hid (x1.heap[w.heap.size+1]?=some (Obj.cells #[.int .i64 0,.int .i64 0] 167)):=(a.block _ (dS y)).trans y;have I:=af (aj H a);clear a;go_wp2_with fail
 go_loopw [6,7,8] (fun s f b wr=>∃k:Nat,k<=q/\s = .int .i64 k/\f = .int .i64 ((stF L G k).1:Nat)/\b = .int .i64 ((stF L G k).2:Nat)/\fnd L G num q=fnd L G num k/\Below x1.heap.size x1 wr) (fun s _ _ _=>(intOf s).toNat)
 case atStart=>exact⟨q,a0a _,rfl,rfl,rfl,rfl,a0c _ _⟩
 case round=>
  obtain⟨k,t,rfl,rfl,rfl,R,g⟩:=hrel;have D:=af R;obtain⟨a,d⟩:=ae V k t;have n:=(g.block _ (dS m)).trans m;have h:=(g.block _ (dS o)).trans o;obtain⟨c0,c1,c2,_⟩:=wu n;obtain⟨d0,d1,_⟩:=ea h;obtain⟨f0,f1⟩:=oZ h;have K:=af (aj I g);clear R;by_cases i:num<(stF L G k).1
  .
   obtain⟨j,rfl⟩:∃j,k=j+1:=by
    cases k with
    | zero=>rw[ae U]at i;have:=ae Z;omega
    | succ j=>exact⟨j,rfl⟩
   have A:=af (Oc i);have c:(num:Int)<((stF L G (j+1)).1:Int):=(by omega);have S:j<=q:=(by omega);have Y:=af (ae Q j S);obtain⟨u,hu⟩:∃u:Nat,j+1=u:=⟨_,rfl⟩;have ad:(u:Int)-1=(j:Int):=(by omega);rw[hu]at c A D a d ⊢;generalize stF L G u=E at *;obtain⟨E1,E2⟩:=E;simp only at c a d ⊢;have T:(u:Int)<=31:=(by omega);clear i hu a d t;go_wp2_with fail;apply(Y _).mono;rintro e x2⟨rfl,d⟩;go_wp2;go_roundw
   case rel=>exact⟨j,S,by go_num,rfl,rfl,by rw[ae D,ae A],aj g d⟩
   case measure=>simp[intOf];omega
  .
   have C:=af (Od i);have c:((stF L G k).1:Int)<=(num:Int):=(by omega);have F:Hid (fnd L G num q=k):=by show _=_;rw[ae D,ae C]
   obtain⟨E1,E2,hE⟩:∃E1 E2,stF L G k=(E1,E2):=⟨_,_,rfl⟩;have X:=af hE;rw[hE]at c a d ⊢;simp only at c a d ⊢;have B:=af (sY h (.int .i64 ((num:Int)-(E1:Int))) (.int .i64 (E2:Nat)));have J:Hid (Below w.heap.size w ((wr.setCell ⟨w.heap.size+1,0,none⟩ (.int .i64 ((num:Int)-(E1:Int)))).setCell ⟨w.heap.size+1,1,none⟩ (.int .i64 (E2:Nat)))):=(K.setCell (p:=⟨w.heap.size+1,0,none⟩) (a06 _) _).setCell (p:=⟨w.heap.size+1,1,none⟩) (a06 _) _;clear i t D C hE n h;go_wp2;obtain⟨z0,z1,_⟩:=ea B;refine a0x (v:=.tuple #[k,.agg #[.int .i64 ((num:Int)-(E1:Int)),.int .i64 (E2:Nat)]]) (by simp[results,results215,go_sem,z0,z1]) rfl ⟨?_,J⟩;rw[ae F,ae X]
structure eo (B:Nat) (w w':World):Prop where
 below:Below B w w'
 keep:∀k,k<w.heap.size->(∀cur fr,w.heap[k]?≠some (.cells cur 5 fr))->w'.heap[k]?=w.heap[k]?
def eo.refl(B:Nat)(w:World):eo B w w:=⟨a0c _ _,fun _ _ _=>rfl⟩
def eo.size(h:eo B w w'):w.heap.size<=w'.heap.size:=h.1.size
def eo.alloc(h:eo B w w')(b:B<=w'.heap.size)(o:Obj):eo B w (w'.alloc o):=
 ⟨h.1.alloc b o,fun j a c=>(a1k w' o j (a0h a h.size)).trans (h.2 j a c)⟩
def eo.drew(h:eo B w w'):eo B w w'.drew:=⟨h.1.drew,h.2⟩
def jA{y:World}{o:Obj}{size base:Nat}(f:(y.alloc o).grownBy y' v.ownBlock)(k:y.ownsRow base 5 size v n xs)(b:B<=base)(m:B<=y.heap.size)(hb:eo B x y):eo B x y':=by
 refine⟨aH f k b m hb.1,fun j h i=>?_⟩;have a:=hb.2 j h i;have d:j<y.heap.size:=a0h h hb.size;rw[f.block j (by simp;omega) ?_,a1k y o j d]
 . exact a
 .
  intro e;rcases k.2 with⟨rfl,_⟩|⟨g,cap,l,rfl,_,c,_⟩
  . cases e
  . simp only[Value.ownBlock,a0l]at e;subst e;rw[c]at a;exact i _ _ a.symm
def Ij{base size:Nat}(h:w.ownsRow base 5 size v n xs):∀g,v.ownBlock=some g->∃a fr,w.heap[g]?=some (.cells a 5 fr):=by
 intro g e;rcases h.2 with⟨rfl,_⟩|⟨g',cap,a,rfl,_,b,_⟩
 . cases e
 . simp only[Value.ownBlock,a0l]at e;subst e;exact⟨_,_,b⟩
def eo.grown{y:World}{row:Option Nat}(h:eo B x y)(c:y.grownBy y' row)(i:B<=y.heap.size)(k:∀g,row=some g->B<=g)(l:∀g,row=some g->∃a fr,y.heap[g]?=some (.cells a 5 fr)):eo B x y':=by
 refine⟨h.1.grown c i k,fun j d f=>?_⟩;have b:=h.2 j d f;rw[c.block j (a0h d h.size) ?_]
 . exact b
 . intro e;obtain⟨a,fr,h2⟩:=l j e.symm;rw[h2]at b;exact f _ _ b.symm
def pK(w:World) :
  Ds 214 #[] w (.agg #[.int .i64 3,.int .i64 4,.int .i64 28]):=by
 go_enter func214,ntmps214;go_wp2;refine a0x (v:=.agg #[.int .i64 3,.int .i64 4,.int .i64 28]) (by simp[results,results214,go_sem]) rfl ⟨rfl,(a0c _ w).alloc (a0a _) _⟩
def pD(w:World) :
  Ds 216 #[] w (.agg #[.int .i64 1,.int .i64 2,.int .i64 30]):=by
 go_enter func216,ntmps216;go_wp2;refine a0x (v:=.agg #[.int .i64 1,.int .i64 2,.int .i64 30]) (by simp[results,results216,go_sem]) rfl ⟨rfl,(a0c _ w).alloc (a0a _) _⟩
def AV(num:Nat)(w:World)(a:3<=num)(b:num<=60) :
  Ds 215 #[.agg #[.int .i64 3,.int .i64 4,.int .i64 28],num] w (.tuple #[.int .i64 (fnd 3 4 num 27:Nat),.agg #[.int .i64 ((num:Int)-((stF 3 4 (fnd 3 4 num 27)).1:Int)),.int .i64 ((stF 3 4 (fnd 3 4 num 27)).2:Nat)]]):=
 Du 3 4 28 num w (by omega) (by omega) (by omega) (by omega) (by omega) (by decide) a (by omega)
def AU(num:Nat)(w:World)(a:1<=num)(b:num<=250) :
  Ds 215 #[.agg #[.int .i64 1,.int .i64 2,.int .i64 30],num] w (.tuple #[.int .i64 (fnd 1 2 num 29:Nat),.agg #[.int .i64 ((num:Int)-((stF 1 2 (fnd 1 2 num 29)).1:Int)),.int .i64 ((stF 1 2 (fnd 1 2 num 29)).2:Nat)]]):=
 Du 1 2 30 num w (by omega) (by omega) (by omega) (by omega) (by omega) (by decide) a (by omega)
def xP(l:List ByteArray):List Value:=l.map Value.string
def eV(w:World)(base:Nat)(v:Value)(l:List ByteArray):Prop:=w.ownsRow base 9 1 v l.length (xP l)
def eV.form{base:Nat}{l:List ByteArray}(h:eV w base v l):∃a cap,v = .slice a l.length cap:=by
 rcases h.2 with⟨e,b⟩|⟨g,cap,_,e,_⟩
 . exact⟨none,0,by rw[e,b]⟩
 . exact⟨_,cap,e⟩
def eV.formN{base:Nat}{l:List ByteArray}(b:l.length=n)(h:eV w base v l):∃a cap,v = .slice a n cap:=by
 subst b;exact h.form
def eV.own{base:Nat}{l:List ByteArray}(a:l.length=n)(h:eV w base v l):w.ownsRow base 9 1 v n (xP l):=by
 subst a;exact h
def eV.at{base:Nat}{cap:Nat}{l:List ByteArray}(f:l.length=n)(h:eV w base (.slice a n cap) l)(i:0<n) :
  ∃g,a=some ⟨g,0,none⟩/\g<w.heap.size/\∀j,j<n->w.cell? ⟨g,j,none⟩=some (.string (l.getD j ByteArray.empty)):=by
 subst f;rcases h.2 with⟨_,e⟩|⟨g,b,c,e,_⟩
 . omega
 . simp only[a0L]at e;obtain⟨rfl,_,rfl⟩:=e;refine⟨g,rfl,(a0z h g rfl).2,fun j d=>?_⟩;rw[a1f h j (by omega)];simp[xP,d,List.getD]
def eV.lit(w:World)(base:Nat)(hb:base<=w.heap.size):eV (w.alloc (.cells #[] 9)) base (.slice w.heap.size 0 0) []:=a0S w #[] 0 hb (by unfold maxLen;omega) rfl
def mt{base:Nat}{l:List ByteArray}{b:ByteArray}(a:l.length=n)(h:x.ownsRow base 9 1 v (n+1) (xP l++[.string b])):eV x base v (l++[b]):=by
 subst a;show World.ownsRow _ _ _ _ _ (l++[b]).length _;simpa[xP]using h
def Tryz.infoStr:(prog.info? 9).map (fun i=>(i.zero,i.size,i.bytes))=some (some (.string ByteArray.empty),1,16):=by kernel_rfl
def Jr(x:ByteArray):∀u∈[Value.string x],u.oneCell'=true:=by
 intro u a;simp at a;subst a;rfl
def Gv(s:ByteArray)(w:World):∃(c:Nat) (x:World) (cs:Array Value) (f:Nat×Nat),(convert 9 22 (.string s)).run prog w = .ok (.slice w.heap.size s.size c) x/\Below w.heap.size w x/\x.heap[w.heap.size]?=some (.cells cs 5 f)/\∀i (h:i<s.size),cs[i]?=some (.int .u8 (s[i].toNat:Int)):=by
 refine⟨_,_,bytesRow s (grownCap w s.size 0 5),((bytesRow s (grownCap w s.size 0 5)).size,(bytesRow s (grownCap w s.size 0 5)).size+1),run_bytes_of_string w _ _ _ s a17 a01 a16,?_,?_,?_⟩
 . exact((a0c _ w).drew).alloc (by simp) _
 . exact Array.getElem?_push_size
 . intro i h;exact bytesRow_at s (grownCap w s.size 0 5) i h
def Ma{a:Array Value}(h:w.heap[b]?=some (.cells a t f))(c:a[i]?=some v):w.cell? ⟨b,i,none⟩=some v:=by
 unfold World.cell?;rw[h];exact c
def ext_list(s:ByteArray)(i j:Nat):(s.extract i j).data.toList=(s.data.toList.drop i).take (j-i):=by
 rw[ByteArray.data_extract,Array.toList_extract]
def vL(s t:ByteArray):(s++t).data.toList=s.data.toList++t.data.toList:=by simp
def Eg(s:ByteArray):s.data.toList.length=s.size:=by simp
def vM(s t:ByteArray):(s++t).size=s.size+t.size:=by simp
def J4(s t:ByteArray)(k:Nat):(s.extract 0 k++t++s.extract (k+1) s.size).data.toList=s.data.toList.take k++(t.data.toList++s.data.toList.drop (k+1)):=by
 rw[vL,vL,ext_list,ext_list,a1L,a3g,a0I]
 congr 2
 rw[a0t];rw[a04,Eg];exact a0a _
def vz(s t:ByteArray):Prop:=t=s∨(∃k b,k<s.size/\t.data.toList=s.data.toList.set k b)∨(∃k,k<s.size/\t.data.toList=s.data.toList.take k)∨∃x,t.data.toList=s.data.toList++x
def Nj(s:ByteArray)(k:Nat)(a:k<s.size)(y:UInt8):vz s (s.extract 0 k++(⟨[y].toArray⟩:ByteArray)++s.extract (k+1) s.size):=by
 refine .inr (.inl ⟨k,y,a,?_⟩);rw[J4,List.set_eq_take_append_cons_drop,a0d (by rw[Eg];exact a)];rfl
def Ni(s:ByteArray)(k:Nat)(a:k<s.size):vz s (s.extract 0 k):=.inr (.inr (.inl ⟨k,a,by rw[ext_list,a1L,a3g]⟩))
def Nh(s x:ByteArray):vz s (s++x):=.inr (.inr (.inr ⟨x.data.toList,vL s x⟩))
def sx(s:ByteArray):vz s s:=.inl rfl
def byte_back(x:World)(n:Nat)(c:n<256) :
  (convert 22 9 (.slice x.heap.size 1 1)).run prog (x.alloc (.cells #[.int .u8 (n:Int)] 5)).drew =
   .ok (.string ⟨[UInt8.ofNat n].toArray⟩) (x.alloc (.cells #[.int .u8 (n:Int)] 5)).drew:=by
 refine a3e _ _ _ 5 ⟨x.heap.size,0,none⟩ 1 [UInt8.ofNat n] a01 a16 a17 (fun j b=>?_);have a:j=0:=by simpa using b
 subst a;have e:((UInt8.ofNat n).toNat:Int)=(n:Int):=by
  rw[a3h];omega
 rw[←e];simp[Addr.add]
def Gj(x:World)(n:Nat)(c:n<256) :
  (convert 22 9 (.slice x.heap.size 1 1)).run prog (x.alloc (.cells #[.int .u8 (n:Int)] 5)) =
   .ok (.string ⟨[UInt8.ofNat n].toArray⟩) (x.alloc (.cells #[.int .u8 (n:Int)] 5)):=by
 refine a3e _ _ _ 5 ⟨x.heap.size,0,none⟩ 1 [UInt8.ofNat n] a01 a16 a17 (fun j b=>?_);have a:j=0:=by simpa using b
 subst a;have e:((UInt8.ofNat n).toNat:Int)=(n:Int):=by
  rw[a3h];omega
 rw[←e];simp[Addr.add]
def four(a b c d:ByteArray):Nat->ByteArray
 | 0=>a | 1=>b | 2=>c|_=>d
def seven(a b c d e f g:ByteArray):Nat->ByteArray
 | 0=>a | 1=>b | 2=>c | 3=>d | 4=>e | 5=>f|_=>g
def DG(w:World)(a b c d:ByteArray)(t:TypeId):∀i,i<4->(w.alloc (.cells #[a,b,c,d] t)).cell? ⟨w.heap.size,0+i,none⟩=some (.string (four a b c d i)):=by
 intro i e
 match i,e with
 | 0,_=>simp[four]
 | 1,_=>simp[four]
 | 2,_=>simp[four]
 | 3,_=>simp[four]
def Fg(w:World)(a b c d e f g:ByteArray)(t:TypeId):∀i,i<7->(w.alloc (.cells #[a,b,c,d,e,f,g] t)).cell? ⟨w.heap.size,0+i,none⟩=some (.string (seven a b c d e f g i)):=by
 intro i h
 match i,h with
 | 0,_=>simp[seven]
 | 1,_=>simp[seven]
 | 2,_=>simp[seven]
 | 3,_=>simp[seven]
 | 4,_=>simp[seven]
 | 5,_=>simp[seven]
 | 6,_=>simp[seven]
def KM{a b c d:ByteArray}(e:a.size<=n)(hb:b.size<=n)(f:c.size<=n)(hd:d.size<=n)(i:Nat):(four a b c d i).size<=n:=by
 match i with
 | 0=>exact e
 | 1=>exact hb
 | 2=>exact f
 | _+3=>exact hd
def Iu{a b c d e f g:ByteArray}(h:a.size<=n)(hb:b.size<=n)(j:c.size<=n)(hd:d.size<=n)(k:e.size<=n)(l:f.size<=n)(m:g.size<=n)(i:Nat):(seven a b c d e f g i).size<=n:=by
 match i with
 | 0=>exact h
 | 1=>exact hb
 | 2=>exact j
 | 3=>exact hd
 | 4=>exact k
 | 5=>exact l
 | _+6=>exact m
def of_le(B b m lb lo n cap M:Nat)(v:Nat->ByteArray)(w:World)(h:Rd w B b m)(f:m<=100000)(n1:0<n)(n2:n<=70000)(a:lb≠b)(c:∀i,i<n->w.cell? ⟨lb,lo+i,none⟩=some (.string (v i)))(k:∀i,(v i).size<=M) :
  Calls prog 75 #[.pointer b,.slice (some ⟨lb,lo,none⟩) n cap] w fun e w'=>∃t:ByteArray,t.size<=M/\e = .returned (.string t)/\Rd w' B b (m+1)/\pQ b w w':=by
 apply(Ul B b m lb lo n cap v w h f n1 n2 a c).mono;rintro e w'⟨i,_,d,j,g⟩;exact⟨v i,k i,d,j,g⟩
def Gn{cap:Nat}{l:List UInt8}{base:Nat}(h:w.ownsRow base 5 1 (.slice g l.length cap) l.length (l.map fun x=>Value.int .u8 (x.toNat:Int))) :
  (convert 22 9 (.slice g l.length cap)).run prog w = .ok (.string ⟨l.toArray⟩) w:=
 a3e w _ _ _ ⟨g,0,none⟩ cap l a01 a16 a17 (fun j a=>by
  have:=h.cells (g:=g) rfl j (.int .u8 (l[j].toNat:Int)) (by simp[a]);exact this)
def Tryz.infoByte:(prog.info? 5).map (fun i=>(i.zero,i.size,i.bytes))=some (some (.int .u8 0),1,1):=by kernel_rfl
def byte_of(r:Int)(a:0<=r)(b:r<256):∃x:UInt8,(x.toNat:Int)=r:=by
 obtain⟨k,rfl⟩:=a0r a;refine⟨UInt8.ofNat k,?_⟩;have:k%256=k:=a1g (by omega);simp[this]
def D4{a: World}{row : Option Nat}(h : Kn b a w)(c : w.grownBy w' row)(g : ∀j, row = some j -> a.heap.size <= j)(hb : b < a.heap.size) : Kn b a w' :=
  ⟨h.1.grown c (a0E (a0s hb) h.2.2) (fun j i => a0E (a0s hb) (g j i)),
   fun k f d => (c.block k (a0h f h.2.2) (fun e => by have := g k e.symm;omega)).trans (h.2.1 k f d),
   a0E h.2.2 c.size⟩
def rq(B b m:Nat)(w:World)(h:Rd w B b m)(hm:m<=90000) :
  Calls prog 125 #[.pointer b] w fun e w'=>(∃s:ByteArray,e = .returned (.string s)/\s.size<=400)/\Rd w' B b (m+50)/\Kn b w w':=by
 obtain⟨i0,hi,W,X,Y⟩:=a0p Tryz.infoByte;have J:=h.lt;go_enter func125,ntmps125;go_wp2_with fail;apply(bY B b m _ _ h (by omega) (by omega) (by omega)).mono;rintro e w1⟨r,rfl,r0,r1,d,a⟩;have F:=d.lt;by_cases R:r=0
 . subst R;go_wp2;go_ret;exact⟨⟨_,rfl,by decide⟩,d.mono (by omega),a.kn⟩
 have g0:(r == 0)=false:=by simpa using R
 by_cases S:r=1
 . subst S;clear R g0;go_wp2_with fail;apply(of_le B b (m+1) w1.heap.size 0 4 4 6 _ _ (d.alloc _) (by omega) (by omega) (by omega) (a13 F) (DG w1 _ _ _ _ _) (KM (by decide) (by decide) (by decide) (by decide))).mono;rintro e w2⟨t0,Q,rfl,p,c⟩;go_wp2_with fail;apply(bY B b (m+2) _ _ p (by omega) (by omega) (by omega)).mono;rintro e w3⟨r',rfl,K,Z,v,i⟩;go_wp2_with fail;apply(qf _ _ _ (by omega) (by omega) (by omega)).mono;rintro e w4⟨⟨t,rfl,ht⟩,rfl⟩;go_wp2;go_ret;refine⟨⟨t,rfl,?_⟩,v.mono (by omega),((a.kn.trans (gV w1 _ F)).trans c.kn).trans i.kn⟩;rw[ht];have:=a2t Q (show(1+r').toNat<=40 by omega);omega
 have g1:(r == 1)=false:=by simpa using S
 by_cases h2:r=2
 .
  subst h2;clear R S g0 g1;go_wp2_with fail;apply(bY B b (m+1) _ _ (d.alloc _) (by omega) (by omega) (by omega)).mono;rintro e w2⟨r',rfl,K,Z,p,c⟩;obtain⟨n0,rfl⟩:=a0r K;have H:w2.ownsRow w.heap.size 5 1 (.slice w1.heap.size 0 0) 0 []:=
   zG (a0S w1 #[] 0 a.kn.2.2 (by unfold maxLen;omega) rfl) c J
  have f:=(a.kn.trans (gV w1 (.cells #[] 5) F)).trans c.kn;go_wp2_with fail
  go_loopw [3,4] (fun o n wr=>∃(l:List UInt8) (k:Nat),n = .int .i64 k/\k<=39/\l.length+k<=39/\o ≠ .slice none 0 0/\wr.ownsRow w.heap.size 5 1 o l.length (l.map fun x=>Value.int .u8 (x.toNat:Int))/\Rd wr B b (m+42-k)/\Kn b w wr) (fun _ n _=>(intOf n).toNat)
  case atStart=>exact⟨[],n0,rfl,by omega,by simp;omega,by simp,H,p.mono (by omega),f⟩
  case round=>
   obtain⟨l,k,rfl,hk,T,ad,E,z,y⟩:=hrel;have G:=z.lt;have ac:(k:Int)<=39:=(by omega);have HL:=af T;clear hk T d p a c f H;by_cases hp:(0:Int)<(k:Int)
   .
    go_wp2_with fail;apply(bY B b (m+42-k) _ _ z (by omega) (by omega) (by omega)).mono;rintro e w3⟨q,rfl,q0,q1,v,i⟩;obtain⟨x,rfl⟩:=byte_of q q0 q1;have D:=zG E i J;have L:∀j,u3.ownBlock=some j->w.heap.size<=j:=fun j M=>(D.lt j M).1;have U:=v.lt;have A:=y.trans i.kn;clear E z i;go_wp2_with (at_builtin;refine a0w _ rfl _ _ 22 rfl w.heap.size 5 i0 (.int .u8 0) 1 1 a01 hi W X Y rfl (by decide) _ _ _ rfl (D.alloc _) ⟨w3.heap.size,0,none⟩ 1 1 [.int .u8 (x.toNat:Int)] rfl rfl ?c1 ?c2 ?c3 ?c4 ?c5 ?_)
    case c1=>
     intro j u M
     match j,M with
     | 0,M=>simp at M;subst M;simp[Addr.add]
    case c2=>intro u hu;simp at hu;subst hu;rfl
    case c3=>have:=ae HL;unfold maxLen;omega
    case c4=>have:=ae HL;omega
    case c5=>have:=A.2.2;simp;omega
    intro v' w4 I C N;have aa:Rd w4 B b (m+42-k+1):=(v.alloc _).grown C (fun j M=>a0h J (L j M));have O:Kn b w w4:=D4 (A.trans (gV w3 _ U)) C L J;have V:v' ≠ .slice none 0 0:=N;have P:w4.ownsRow w.heap.size 5 1 v' (l++[x]).length ((l++[x]).map fun x=>Value.int .u8 (x.toNat:Int)):=by simpa using I
    clear I C D v A N;go_wp2;go_roundw
    case rel=>exact⟨l++[x],k-1,by go_num,by omega,by have:=ae HL;simp;omega,V,P,aa.mono (by omega),O⟩
    case measure=>simp[intOf];omega
   .
    obtain⟨g,cap,rfl⟩:∃g cap,u3 = .slice (some ⟨g,0,none⟩) l.length cap:=by
     rcases E.2 with⟨e,_⟩|⟨g,cap,_,e,_⟩
     . exact absurd e ad
     . exact⟨g,cap,e⟩
    have ab:=Gn E;go_wp2;go_ret;exact⟨⟨_,rfl,by have:=ae HL;simp[ByteArray.size];omega⟩,z.mono (by omega),y⟩
 have g2:(r == 2)=false:=by simpa using h2
 by_cases h3:r=3
 . subst h3;clear R S h2 g0 g1 g2;go_wp2_with (go_at_call 127;apply(qf _ _ _ (by omega) (by omega) (by decide)).mono;rintro e w'⟨⟨t,rfl,ht⟩,rfl⟩);go_ret;exact⟨⟨t,rfl,by rw[ht];decide⟩,d.mono (by omega),a.kn⟩
 have g3:(r == 3)=false:=by simpa using h3
 clear R S h2 h3;go_wp2_with fail;apply(bY B b (m+1) _ _ d (by omega) (by omega) (by omega)).mono;rintro e w2⟨r',rfl,K,Z,p,c⟩;obtain⟨n0,rfl⟩:=a0r K;have f:=a.kn.trans c.kn;go_wp2_with fail
 go_loopw [5,6] (fun o n wr=>∃(s:ByteArray) (k:Nat),o = .string s/\n = .int .i64 k/\k<=11/\s.size+6*k<=66/\Rd wr B b (m+20-k)/\Kn b w wr) (fun _ n _=>(intOf n).toNat)
 case atStart=>exact⟨ByteArray.empty,n0,rfl,rfl,by omega,by show 0+6*n0<=66;omega,p.mono (by omega),f⟩
 case round=>
  obtain⟨s,k,rfl,rfl,hk,Q,z,y⟩:=hrel;have G:=z.lt;have ac:(k:Int)<=11:=by omega
  have al:(s.size:Int)+6*k<=66:=by omega
  have HK:=af hk;clear hk Q d p a c f hi W X Y;by_cases hp:(0:Int)<(k:Int)
  .
   go_wp2_with fail;apply(of_le B b (m+20-k) wr.heap.size 0 7 7 6 _ _ (z.alloc _) (by omega) (by omega) (by omega) (a13 G) (Fg wr _ _ _ _ _ _ _ _) (Iu (by decide) (by decide) (by decide) (by decide) (by decide) (by decide) (by decide))).mono;rintro e w3⟨t0,ao,rfl,v,i⟩;go_wp2;go_roundw
   case rel=>exact⟨s++t0,k-1,rfl,by go_num,by omega,by rw[a0H];omega,v.mono (by omega),(y.trans (gV wr _ G)).trans i.kn⟩
   case measure=>simp[intOf];omega
  . go_wp2;go_ret;exact⟨⟨s,rfl,by omega⟩,z.mono (by omega),y⟩
def Ss(l:List Int)(N d:Nat):nx l N*p2 d<=nx l (N+d):=by
 induction d with
 | zero=>simp[p2]
 | succ d ih=>
  have:nx l (N+d+1)=2*nx l (N+d)+many l (((N+d:Nat):Int)+1) l.length:=rfl;rw[lq,←a1R,←a2a,this];omega
section
variable {α : Type} {f : α → List Value} {c : Nat}
def dm(a:∀x,(f x).length=c)(l:List α):(l.flatMap f).length=l.length*c:=by
 induction l with
 | nil=>simp
 | cons x l ih=>simp only[a0W,a0i,a,ih,a0C];rw[a1y,a2P,a2F]
def flat_get(a:∀x,(f x).length=c)(l:List α)(d:α)(i j:Nat)(e:i<l.length)(g:j<c):(l.flatMap f)[i*c+j]?=(f (l.getD i d))[j]?:=by
 induction l generalizing i with
 | nil=>simp at e
 | cons x l ih=>
  simp only[a0W];cases i with
  | zero=>rw[Nat.zero_mul,a0G,List.getElem?_append_left (by rw[a];exact g)];simp
  | succ i=>
   have b:i<l.length:=by simpa using e
   have e1:(i+1)*c+j=c+(i*c+j):=by rw[a1y,a2P];omega
   rw[List.getElem?_append_right (by rw[a,e1];omega),a,e1,a1t,ih i b];simp
def setMany(w:World)(g:Nat):Nat->List Value->World
 | _,[]=>w
 | o,v :: vs=>setMany (w.setCell ⟨g,o,none⟩ v) g (o+1) vs
def BQ(xs:List Value):Nat->List Value->List Value
 | _,[]=>xs
 | o,v :: vs=>BQ (xs.set o v) (o+1) vs
def BR(vs xs:List Value)(o:Nat)(h:o+vs.length<=xs.length):BQ xs o vs=xs.take o++vs++xs.drop (o+vs.length):=by
 induction vs generalizing xs o with
 | nil=>simp[BQ]
 | cons v vs ih=>
  simp only[a0C]at h;rw[BQ,ih _ _ (by rw[a00];omega)];have e1:(xs.set o v).take (o+1)=xs.take o++[v]:=by
   rw[List.take_set];apply List.ext_getElem?;intro i;by_cases b:i<o
   . simp[List.getElem?_set,List.getElem?_append,List.getElem?_take,b];rw[a0e (by omega),a0d (by omega),a0d (by omega)]
   .
    by_cases a:i=o
    . subst a;simp[List.getElem?_set,List.getElem?_append,a0u];rw[a0d (by omega),a0e (by omega),show i-min i xs.length=0 by omega];rfl
    . rw[List.getElem?_eq_none (by simp;omega),List.getElem?_eq_none (by simp;omega)]
  have e2:(xs.set o v).drop (o+1+vs.length)=xs.drop (o+(vs.length+1)):=by
   rw[List.drop_set,a0d (by omega)]
   congr 1;omega
  rw[e1,e2];simp
def bj(T:TypeId)(c:Nat)(f:α->List Value)(w:World)(base:Nat)(v:Value)(l:List α):Prop:=w.ownsRow base T c v l.length (l.flatMap f)
variable {T : TypeId}
def bj.form{w:World}{base:Nat}{v:Value}{l:List α}(h:bj T c f w base v l):∃a cap,v = .slice a l.length cap/\l.length<=cap/\cap<=maxLen:=by
 rcases h.2 with⟨e,b⟩|⟨g,cap,_,e,_,_,d,h2,_⟩
 . exact⟨none,0,by rw[e,b],by omega,a0g _⟩
 . exact⟨_,cap,e,d,h2⟩
def bj.formN{w:World}{base n:Nat}{v:Value}{l:List α}(b:l.length=n)(h:bj T c f w base v l):∃a cap,v = .slice a n cap/\n<=cap/\cap<=maxLen:=by
 subst b;exact h.form
def bj.later{w w':World}{base B:Nat}{v:Value}{l:List α}(h:bj T c f w base v l)(hb:Below B w w')(a:w.heap.size<=B):bj T c f w' base v l:=
 a1V h (row:=none) ⟨hb.os,hb.tape,hb.output,hb.size,fun k b _=>hb.block k (by omega)⟩ (by
  cases d:v.ownBlock with
  | none=>exact .inl rfl
  | some k=>exact .inr (by simp))
def bj.mono{w:World}{base base':Nat}{v:Value}{l:List α}(h:bj T c f w base v l)(hb:base'<=base):bj T c f w base' v l:=by
 refine⟨h.1,?_⟩;rcases h.2 with d|⟨g,cap,a,e,b,rest⟩
 . exact .inl d
 . exact .inr ⟨g,cap,a,e,a0E hb b,rest⟩
def bj.own{w:World}{base n:Nat}{v:Value}{l:List α}(a:l.length=n)(h:bj T c f w base v l):w.ownsRow base T c v n (l.flatMap f):=by
 subst a;exact h
def bj.somes{w:World}{base cap n:Nat}{a:Option Addr}{l:List α}(h:bj T c f w base (.slice a n cap) l)(i:0<l.length):∃g,a=some ⟨g,0,none⟩:=by
 rcases h.2 with⟨_,e⟩|⟨g,b,d,e,_⟩
 . omega
 . simp only[a0L]at e;exact⟨g,e.1⟩
def bj.below{w:World}{base cap n g:Nat}{l:List α}(h:bj T c f w base (.slice g n cap) l):base<=g/\g<w.heap.size:=a0z h g rfl
def bj.at(b:∀x,(f x).length=c){w:World}{base g cap n:Nat}{l:List α}(d:α)(k:l.length=n)(h:bj T c f w base (.slice g n cap) l)(i j:Nat)(a:i<n)(e:j<c) :
  w.cell? ⟨g,i*c+j,none⟩=(f (l.getD i d))[j]?/\w.frozen? ⟨g,i*c+j,none⟩=false:=by
 subst k;refine⟨?_,a2O h _⟩;rw[←flat_get b l d i j a e];refine a1f h _ ?_;have:(i+1)*c<=l.length*c:=a2f c a;rw[a1y,a2P]at this;omega
def om{w:World}{base g cap n:Nat}{xs:List Value}(vs:List Value)(o:Nat)(h:w.ownsRow base T c (.slice g n cap) n xs):(setMany w g o vs).ownsRow base T c (.slice g n cap) n (BQ xs o vs):=by
 induction vs generalizing w o xs with
 | nil=>exact h
 | cons v vs ih=>exact ih (o+1) (a2u h o v).1
def kI{b g:Nat}{w0 w:World}(hb:Below b w0 w)(a:b<=g)(vs:List Value)(o:Nat):Below b w0 (setMany w g o vs):=by
 induction vs generalizing w o with
 | nil=>exact hb
 | cons v vs ih=>exact ih (ai hb a v) (o+1)
def bj.nil(w:World)(base:Nat):bj T c f w base (.slice none 0 0) []:=a1b _ _ _ _
def bj.snoc{x:World}{base n:Nat}{v:Value}{l:List α}{a:α}(b:l.length=n)(h:x.ownsRow base T c v (n+1) (l.flatMap f++f a)):bj T c f x base v (l++[a]):=by
 subst b;show World.ownsRow _ _ _ _ _ (l++[a]).length _;simpa using h
def qA(l:List α)(d:α)(k:Nat)(h:k<l.length):l.take (k+1)=l.take k++[l.getD k d]:=by
 rw[a1e h]
 congr 2
 simp[List.getD,h]
end
