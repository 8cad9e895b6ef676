/- Readers of bits, the model's and the program's, over this seat's program. -/
import Derived.Test.YtchidddpplangaaGreatDoorM6
import Derived.Test.YtchidddpplangaaGreatDoorM3
import Derived.Deep.RegionHeld3
import Derived.Deep.DrawnRows
set_option linter.unusedSimpArgs false
set_option linter.unusedVariables false
set_option maxHeartbeats 800000
namespace Go.Proofs.YtchidddpplangaaGreatDoor
open Go.Proofs.Tryz
open Go.RowKit Corb
variable {b p:Nat}{s:ByteArray}{v0 v1 v2:Value}{w w':World}
def Three(w:World)(b:Nat)(v0 v1 v2:Value):Prop:=
 w.cell? ⟨b,0,none⟩=some v0/\w.cell? ⟨b,1,none⟩=some v1/\w.cell? ⟨b,2,none⟩=some v2/\w.frozen? ⟨b,0,none⟩=false/\w.frozen? ⟨b,1,none⟩=false/\w.frozen? ⟨b,2,none⟩=false/\b<w.heap.size
theorem Three.set0(h:Three w b v0 v1 v2)(u:Value):Three (w.setCell ⟨b,0,none⟩ u) b u v1 v2:=by
 obtain⟨c0,c1,c2,f0,f1,f2,hb⟩:=h;refine⟨World.cell?_setCell_same _ _ _ c0,?_,?_,by simpa using f0,by simpa using f1,by simpa using f2,by simpa using hb⟩
 . rw[World.cell?_setCell_other _ _ _ _ (by simp)];exact c1
 . rw[World.cell?_setCell_other _ _ _ _ (by simp)];exact c2
theorem Three.set1(h:Three w b v0 v1 v2)(u:Value):Three (w.setCell ⟨b,1,none⟩ u) b v0 u v2:=by
 obtain⟨c0,c1,c2,f0,f1,f2,hb⟩:=h;refine⟨?_,World.cell?_setCell_same _ _ _ c1,?_,by simpa using f0,by simpa using f1,by simpa using f2,by simpa using hb⟩
 . rw[World.cell?_setCell_other _ _ _ _ (by simp)];exact c0
 . rw[World.cell?_setCell_other _ _ _ _ (by simp)];exact c2
theorem Three.set2(h:Three w b v0 v1 v2)(u:Value):Three (w.setCell ⟨b,2,none⟩ u) b v0 v1 u:=by
 obtain⟨c0,c1,c2,f0,f1,f2,hb⟩:=h;refine⟨?_,?_,World.cell?_setCell_same _ _ _ c2,by simpa using f0,by simpa using f1,by simpa using f2,by simpa using hb⟩
 . rw[World.cell?_setCell_other _ _ _ _ (by simp)];exact c0
 . rw[World.cell?_setCell_other _ _ _ _ (by simp)];exact c1
theorem Three.drew(h:Three w b v0 v1 v2):Three w.drew b v0 v1 v2:=h
theorem Three.kept(h:Three w b v0 v1 v2)(hb:Below (b+1) w w'):Three w' b v0 v1 v2:=by
 obtain⟨c0,c1,c2,f0,f1,f2,c⟩:=h;have a:=a0i b;exact⟨(hb.cell (p:=⟨b,0,none⟩) a).trans c0,(hb.cell (p:=⟨b,1,none⟩) a).trans c1,(hb.cell (p:=⟨b,2,none⟩) a).trans c2,(hb.frozen (p:=⟨b,0,none⟩) a).trans f0,(hb.frozen (p:=⟨b,1,none⟩) a).trans f1,(hb.frozen (p:=⟨b,2,none⟩) a).trans f2,a0m c hb.size⟩
theorem pw(k n:Nat)(h:k<=n):p2 k<=p2 n:=a0N (by omega) h
def aj(s:ByteArray):Nat:=cG s.data.toList
structure av (b:Nat) (w w':World):Prop where
 below:Below b w w'
 block:∀k,k<w.heap.size->k≠b->w'.heap[k]?=w.heap[k]?
 cells:∀j,3<=j->w'.cell? ⟨b,j,none⟩=w.cell? ⟨b,j,none⟩/\w'.frozen? ⟨b,j,none⟩=w.frozen? ⟨b,j,none⟩
theorem av.refl(b:Nat)(w:World):av b w w:=⟨a0c _ _,fun _ _ _=>rfl,fun _ _=>⟨rfl,rfl⟩⟩
theorem av.trans{w1 w2:World}(h:av b w w1)(k:av b w1 w2):av b w w2:=
 ⟨h.1.trans k.1,fun j a hb=>(k.2 j (a0m a h.1.size) hb).trans (h.2 j a hb),fun j a=>⟨(k.3 j a).1.trans (h.3 j a).1,(k.3 j a).2.trans (h.3 j a).2⟩⟩
theorem jh(w:World)(b o n:Nat)(u:Value)(d:o<3:=by omega):av b w ((w.drewN n).setCell ⟨b,o,none⟩ u):=
 ⟨ah (below_drewN (a0c _ _) _) (a0a _) _,fun k _ a=>a0O (w.drewN n) ⟨b,o,none⟩ u k a,fun j c=>⟨by rw[World.cell?_setCell_other _ _ _ _ (by simp only[ne_eq,a0B,a0P,true_and];omega)];rfl,by simp⟩⟩
theorem av.own{base:Nat}{e:TypeId}{size:Nat}{v:Value}{n:Nat}{xs:List Value}(h:av b w w')(f:w.ownsRow base e size v n xs)(hb:b<base):w'.ownsRow base e size v n xs:=by
 refine⟨f.1,?_⟩;rcases f.2 with i|⟨g,cap,c,rfl,d,a,rest⟩
 . exact .inl i
 . refine .inr ⟨g,cap,c,rfl,d,?_,rest⟩;rw[h.2 g (Array.getElem?_eq_some_iff.1 a).1 (by omega)];exact a
def Rdr(w:World)(b:Nat)(s:ByteArray)(p:Nat):Prop:=
 Three w b (.string s) (.int .i64 (min p (8*s.size):Nat)) (.bool (decide (8*s.size<p)))
theorem nj(s:ByteArray)(p:Nat)(h:8*s.size<=p):aj s/2 ^ p%2=0:=
 I2 _ _ (by simpa using h)
theorem ut(s:ByteArray)(p:Nat)(h:p/8<s.size):(s[p/8]).toNat/2 ^ (p%8)%2=aj s/2 ^ p%2:=by
 rw[aj,←NN]
 congr 3
 rw[List.getD_eq_getElem?_getD];have a:p/8<s.data.toList.length:=by simpa using h
 rw[List.getElem?_eq_getElem a];simp;rfl
theorem Rdr.before(h:Rdr w b s p)(a:p<8*s.size):Three w b (.string s) (.int .i64 (p:Int)) (.bool false):=by
 unfold Rdr at h;rwa[a1h (by omega),a0h (by omega)]at h
theorem Rdr.next(h:Three w b (.string s) (.int .i64 ((p:Int)+1)) (.bool false))(a:p<8*s.size):Rdr w b s (p+1):=by
 unfold Rdr;rwa[a1h (by omega),a0h (by omega)]
theorem Rdr.past(h:Rdr w b s p)(a:8*s.size<=p):Three w b (.string s) (.int .i64 (8*s.size:Nat)) (.bool (decide (8*s.size<p))):=by
 unfold Rdr at h;rwa[a20 (by omega)]at h
theorem Rdr.bad(h:Three w b (.string s) (.int .i64 (8*s.size:Nat)) (.bool true))(a:8*s.size<=p):Rdr w b s (p+1):=by
 unfold Rdr;rwa[a20 (by omega),a0v (by omega)]
theorem MQ(R a:Nat)(w:World)(b:R<=60)(h:p2 R=a) :
  Calls prog 163 #[.int .i64 (R:Int)] w fun e w'=>e = .returned (.int .i64 (a:Int))/\w'=w:=by
 have:=fu (R:Int) w (by omega);rw[a0p,h]at this;exact this
theorem Rdr.at(h:Rdr w b s p)(a:p<=8*s.size):Three w b (.string s) (.int .i64 (p:Int)) (.bool false):=by
 unfold Rdr at h;rwa[a1h (by omega),a0h (by omega)]at h
theorem Rdr.kept(h:Rdr w b s p)(hb:Below (b+1) w w'):Rdr w' b s p:=Three.kept h hb
theorem Rdr.alloc(h:Rdr w b s p)(o:Obj):Rdr (w.alloc o) b s p:=
 h.kept ((a0c _ _).alloc (by have:b<w.heap.size:=h.2.2.2.2.2.2;omega) _)
theorem Rdr.lt(h:Rdr w b s p):b<w.heap.size:=h.2.2.2.2.2.2
theorem av.alloc(h:av b w w')(hb:b<w'.heap.size)(o:Obj):av b w (w'.alloc o):=
 ⟨h.1.alloc (a0z hb) o,fun j a c=>(a1i w' o j (a0m a h.1.size)).trans (h.2 j a c),fun j a=>by
  have d:Below w'.heap.size w' (w'.alloc o):=(a0c _ _).alloc (a0a _) o;exact⟨(d.cell (p:=⟨b,j,none⟩) hb).trans (h.3 j a).1,(d.frozen (p:=⟨b,j,none⟩) hb).trans (h.3 j a).2⟩⟩
theorem MV(w:World)(s:ByteArray)(t:TypeId):Rdr (w.alloc (.cells #[.string s,.int .i64 0,.bool false] t)) w.heap.size s 0:=by
 unfold Rdr;simp only[Nat.zero_min,Nat.not_lt_zero,decide_false];exact⟨by simp,by simp,by simp,by simp,by simp,by simp,by simp⟩
attribute [local go_sem ↓] Go.wp_at_zero Go.wp_at_succ
theorem lz(b p:Nat)(s:ByteArray)(w:World)(h:Rdr w b s p)(r:s.size<=2000000) :
  Calls prog 158 #[.pointer (some ⟨b,0,none⟩)] w fun e w'=>e = .returned (.int .i64 (aj s/2 ^ p%2:Nat))/\Rdr w' b s (p+1)/\av b w w':=by
 have u:(s.size:Int)<=2000000:=by omega
 by_cases g:p<8*s.size
 .
  have d:=h.before g;have hq:p/8<s.size:=by omega
  have hb:=ut s p hq;generalize m:aj s/2 ^ p%2=N at *
  have l:=ae g;have t:(p:Int)<8*(s.size:Int):=by omega
  have j:p2 (p%8)<=128:=pw (p%8) 7 (by omega);have i:=mw (p%8);have a:=ae d;obtain⟨c0,c1,c2,f0,f1,f2,n⟩:=d;have c:(s[p/8]).toNat/p2 (p%8)%2=N:=hb;clear h m hb;obtain⟨Q,hQ⟩:∃Q,p/8=Q:=⟨_,rfl⟩;obtain⟨R,hR⟩:∃R,p%8=R:=⟨_,rfl⟩;simp only[hQ,hR]at c j i hq;have o:=(s[Q]).toNat_lt;generalize f:p2 R=PW at *
  have k:=ae (fun W=>MQ R PW W (by omega) f);have e1:IntKind.i64.wrap (Q:Int)=(Q:Int):=bK _ (by omega) (by omega);have e2:(p:Int)/8=(Q:Int):=by omega
  have e3:(p:Int)%8=(R:Int):=by omega
  have e4:Int.tmod (p:Int) 8=(R:Int):=by rw[a2b (by omega)];exact e3
  have e5:(Q:Int)<(s.size:Int):=by omega
  have e6:(0:Int)<=(Q:Int):=by omega
  have q:(s[Q]).toNat/PW<=(s[Q]).toNat:=a1V _ _;have e7:((s[Q]).toNat:Int)/(PW:Int)=(((s[Q]).toNat/PW:Nat):Int):=by simp
  have e0:(0:Int)<=((s[Q]).toNat:Int)/(PW:Int)/\((s[Q]).toNat:Int)/(PW:Int)<=255:=by rw[e7];exact⟨a3x _,by omega⟩
  have e8:IntKind.i64.wrap (((s[Q]).toNat:Int)/(PW:Int))=((s[Q]).toNat:Int)/(PW:Int):=bK _ (by omega) (by omega);have e10:((s[Q]).toNat:Int)/(PW:Int)%2=(N:Int):=by rw[e7];exact_mod_cast c
  have e9:Int.tmod (((s[Q]).toNat:Int)/(PW:Int)) 2=(N:Int):=by rw[a2b e0.1];exact e10
  have e14:IntKind.i64.wrap ((s[Q]).toNat:Int)=((s[Q]).toNat:Int):=bK _ (by omega) (by omega);have e12:¬ PW=0:=by omega
  clear r g hQ hR f c q o j i e7 e0;go_enter a3y,a3z;go_wp2
  go_quiet (fail)
  go_wp2
  go_region_held3 (fun W=>W.cell? ⟨b,0,none⟩=some (.string s)/\W.cell? ⟨b,1,none⟩=some (.int .i64 (p:Int))) (first|exact⟨c0,c1⟩|assumption) (first|(go_at_call 163;refine(ab k _).mono ?_;rintro e w' ⟨rfl,rfl⟩))
  all_goals
   go_wp2;go_ret;exact⟨rfl,Rdr.next (by exact(ab a).set1 _) (ab l),jh _ _ _ _ _⟩
 .
  have d:=h.past (by omega);have a:=ae d;have l:=ae g;have m:=ae (nj s p (by omega));obtain⟨c0,c1,c2,f0,f1,f2,n⟩:=d;rw[a1v]at c1;clear h g r;go_enter a3y,a3z;go_wp2
  go_quiet (fail)
  go_wp2;go_ret;exact⟨aH (by rw[ab m];rfl),Rdr.bad ((ab a).set2 _) (by have:=ab l;omega),jh _ _ _ _ _⟩
theorem qG(b p:Nat)(s:ByteArray)(w:World)(h:Rdr w b s p)(l:s.size<=2000000) :
  Calls prog 177 #[.pointer (some ⟨b,0,none⟩)] w fun e w'=>e = .returned (.int .i64 (aj s/2 ^ p%2:Nat))/\Rdr w' b s (p+1)/\av b w w':=by
 have o:(s.size:Int)<=2000000:=by omega
 by_cases d:p<8*s.size
 .
  have c:=h.before d;have hq:p/8<s.size:=by omega
  have hb:=ut s p hq;generalize g:aj s/2 ^ p%2=N at *
  have f:=ae d;have n:(p:Int)<8*(s.size:Int):=by omega
  have a:=ae c;obtain⟨c0,c1,c2,f0,f1,f2,i⟩:=c;clear h g;obtain⟨Q,hQ⟩:∃Q,p/8=Q:=⟨_,rfl⟩;obtain⟨R,hR⟩:∃R,p%8=R:=⟨_,rfl⟩;simp only[hQ,hR]at hb hq;have j:=(s[Q]).toNat_lt;have m:(R:Int)<=7:=by omega
  have e1:IntKind.i64.wrap (Q:Int)=(Q:Int):=bK _ (by omega) (by omega);have e2:(p:Int)/8=(Q:Int):=by omega
  have e3:(p:Int)%8=(R:Int):=by omega
  have e4:Int.tmod (p:Int) 8=(R:Int):=by rw[a2b (by omega)];exact e3
  have e5:(Q:Int)<(s.size:Int):=by omega
  have e6:(0:Int)<=(Q:Int):=by omega
  have e7:((s[Q]).toNat:Int)/2 ^ R=(((s[Q]).toNat/2 ^ R:Nat):Int):=by simp
  have k:(s[Q]).toNat/2 ^ R<=(s[Q]).toNat:=a1V _ _;have e0:(0:Int)<=((s[Q]).toNat:Int)/2 ^ R/\((s[Q]).toNat:Int)/2 ^ R<=255:=by rw[e7];exact⟨a3x _,by omega⟩
  have e8:IntKind.i64.wrap (((s[Q]).toNat:Int)/2 ^ R)=((s[Q]).toNat:Int)/2 ^ R:=bK _ (by omega) (by omega);have e9:bits .and .i64 (((s[Q]).toNat:Int)/2 ^ R) 1=(N:Int):=by
   rw[mj _ e0.1 (by omega),e7];exact_mod_cast hb
  have e14:IntKind.i64.wrap ((s[Q]).toNat:Int)=((s[Q]).toNat:Int):=bK _ (by omega) (by omega);clear l d hQ hR hb k j e7 e0;go_enter func177,ntmps177;go_wp2
  go_quiet (fail)
  go_wp2
  go_quiet (fail)
  go_wp2;go_ret;exact⟨rfl,Rdr.next (by exact(ab a).set1 _) (ab f),jh _ _ _ _ _⟩
 .
  have c:=h.past (by omega);have a:=ae c;have f:=ae d;have g:=ae (nj s p (by omega));obtain⟨c0,c1,c2,f0,f1,f2,i⟩:=c;rw[a1v]at c1;have e1:((8:Nat):Int)*(s.size:Int)/8=(s.size:Int):=by omega
  have e2:(8:Int)*(s.size:Int)/8=(s.size:Int):=by omega
  have e3:IntKind.i64.wrap (s.size:Int)=(s.size:Int):=bK _ (by omega) (by omega);clear h d l;go_enter func177,ntmps177;go_wp2
  go_quiet (fail)
  go_wp2;go_ret;exact⟨aH (by rw[ab g];rfl),Rdr.bad ((ab a).set2 _) (by have:=ab f;omega),jh _ _ _ _ _⟩
end Go.Proofs.YtchidddpplangaaGreatDoor
