/- A file that is given another name: the model's ZipMove, the exact law. -/
import Derived.Test.YtchidddpplangaaGreatDoorM42
import Derived.Test.YtchidddpplangaaGreatDoorEd5
set_option maxRecDepth 100000
set_option linter.unusedSimpArgs false
set_option linter.unusedVariables false
set_option maxHeartbeats 3200000
namespace Go.Proofs.YtchidddpplangaaGreatDoor
open Go.Proofs.Tryz
open Go.RowKit Corb
theorem Gb(l:List En)(k:Nat)(b:k<l.length)(y:ByteArray):(l.flatMap fs).set (k*8) (.string y)=(l.set k (iP (l.getD k default) y)).flatMap fs:=by
 apply List.ext_getElem?;intro i;by_cases c:i<l.length*8
 .
  obtain⟨q,r,hr,rfl⟩:∃q r,r<8/\i=q*8+r:=⟨i/8,i%8,a0Y _ (by omega),by omega⟩;have hq:q<l.length:=by omega
  rw[flat_get bQ _ default q r (by rw[a1d];exact hq) hr,List.getElem?_set,ez bQ];by_cases e:k=q
  .
   subst e;have e1:(l.set k (iP (l.getD k default) y)).getD k default=iP (l.getD k default) y:=by simp[List.getD,b]
   rw[e1];by_cases a:r=0
   . subst a;rw[a0e (by omega),a0e (by omega)];rfl
   .
    rw[a0d (by omega),flat_get bQ l default k r b hr]
    match r,hr,a with
    | 1,_,_=>rfl
    | 2,_,_=>rfl
    | 3,_,_=>rfl
    | 4,_,_=>rfl
    | 5,_,_=>rfl
    | 6,_,_=>rfl
    | 7,_,_=>rfl
  .
   have e1:(l.set k (iP (l.getD k default) y)).getD q default=l.getD q default:=by simp[List.getD,e]
   rw[e1,a0d (by omega),flat_get bQ l default q r hq hr]
 . rw[List.getElem?_eq_none (by rw[a1d,ez bQ];omega),List.getElem?_eq_none (by rw[ez bQ,a1d];omega)]
theorem KE{w:World}{base g cap n:Nat}{l:List En}(b:l.length=n)(h:gQ w base (.slice (some ⟨g,0,none⟩) n cap) l)(k:Nat)(a:k<n)(y:ByteArray):gQ (w.setCell ⟨g,k*8,none⟩ (.string y)) base (.slice (some ⟨g,0,none⟩) n cap) (l.set k (iP (l.getD k default) y)):=by
 subst b;have:=(a1M (show w.ownsRow _ _ _ _ _ _ from h) (k*8) (.string y)).1;rw[Gb l k a]at this;show World.ownsRow _ _ _ _ _ (l.set k _).length _;rw[a1d];exact this
theorem sg(s x y:ByteArray)(w:World)(hs:s.size<=1048576)(hy:y.size<=1048576) :
  Calls prog 9 #[.string s,.string x,.string y] w fun f w'=>f = .returned (edR s (dI x y))/\Below w.heap.size w w':=by
 have C:=ae (fun W=>uN s W hs);have CN:=ae (fun W=>mH y W hy);have hz:=LL (s:=s);have HY:=ae (show(y.size:Int)<=1048576 by omega);clear hs hy;go_enter func9,ntmps9;go_wp2_with fail;refine(ab C _).mono ?_;rintro f x1 ⟨⟨v,rfl,e⟩,R⟩;have D:=ae R;obtain⟨L,hL⟩:∃l,(dU s).getD []=l:=⟨_,rfl⟩;rw[hL]at e hz;obtain⟨n,hn⟩:∃n,L.length=n:=⟨_,rfl⟩;obtain⟨a,c,rfl,hc,_⟩:=e.formN hn;have a1:(n:Int)<=6:=by omega
 have C2:=ae (Aa a c L n hn x x1 (iC hn e) (by omega));have HL:=ae hL;have HO:=ae e;have N:=ae hn;clear R C e hL hc hz;go_wp2_with fail;refine(ab C2).mono ?_;rintro f x2 ⟨rfl,aa⟩;subst aa;clear C2;rcases T:dU s with _|l
 .
  have t:=ae (EG T (dI x y));clear T;go_wp2_with fail;refine(tV s false _).mono ?_;rintro f x3 ⟨rfl,ac⟩;subst ac;go_wp2
  go_ret2
  exact⟨by rw[ab t];rfl,ab D⟩
 .
  obtain rfl:l=L:=by have:=ab HL;rw[T]at this;exact this
  have M:=ae T;clear T HL;go_wp2_with fail;refine(ab CN _).mono ?_;rintro f x3 ⟨rfl,H⟩;have q:=ae (ai (ab D) H);have u:=ae ((ab HO).later H (a0a _));clear CN H HO D;obtain⟨E,hE⟩:∃b,gu y.data.toList=b:=⟨_,rfl⟩;have F:Hid (gu y.data.toList=E):=hE;rw[hE];clear hE;cases E
  .
   have t:=ae (EF (d:=dI x y) (c:=1) (r:=[]) (ab M) (by unfold dI;rw[a0d (by rw[ab F];decide)]) (by decide));go_wp2_with fail;refine(tV s true _).mono ?_;rintro f x4 ⟨rfl,ad⟩;subst ad;go_wp2
   go_ret2
   exact⟨by rw[ab t];rfl,ab q⟩
  .
   rcases Cm l x with h|⟨k,hk,h⟩
   .
    have t:=ae (EF (d:=dI x y) (c:=2) (r:=[]) (ab M) (by unfold dI;rw[a0e (ab F),a0e (by omega)]) (by decide));rw[h];clear h;go_wp2
    go_ret2
    exact⟨by rw[ab t];rfl,ab q⟩
   .
    have V:Hid (dI x y l=if i7 (l.eraseIdx k) y=true then(3,[])else(0,l.set k (iP (l.getD k default) y))):=by show _=_;unfold dI;rw[a0e (ab F),a0d (by omega),h,a0p]
    have U:=qW (sJ (ab M)) k;have G:=ae U;rw[h];have J:k<n:=by have:=ab N;omega
    have a0:(k:Int)<(n:Int):=by omega
    have Y:=ae J;obtain⟨g,rfl⟩:=(ab u).somes (by omega);have CW:=ae (vr g c n k l _ x3 (ab N) (ab u) (by omega) J);clear h hk J U;go_wp2_with fail;refine(ab CW).mono ?_;rintro f x4 ⟨⟨v4,rfl,K⟩,I⟩;have O:=ae (ai (ab q) I);have m:=ae ((ab u).later I (a0a _));obtain⟨n4,hn4⟩:∃n,(l.eraseIdx k).length=n:=⟨_,rfl⟩;obtain⟨a4,c4,rfl,_,_⟩:=K.formN hn4;have Q:(n4:Int)<=1048576:=by have:=(jf (ab G)).2;omega
    have CC:=ae (Ab a4 c4 (l.eraseIdx k) n4 hn4 y x4 (iC hn4 K) Q (ab HY) (fun i hi=>by have:=(nB (ab G) i (by omega)).1;omega));clear I CW K hn4 Q u q G;go_wp2_with fail;refine(ab CC).mono ?_;rintro f x5 ⟨rfl,al⟩;subst al;clear CC;by_cases j:i7 (l.eraseIdx k) y=true
    .
     have t:=ae (EF (d:=dI x y) (c:=3) (r:=[]) (ab M) (by rw[ab V,a0e j]) (by decide));rw[j];clear j V;go_wp2
     go_ret2
     exact⟨by rw[ab t];rfl,ab O⟩
    .
     have hd:dI x y l=(0,l.set k (iP (l.getD k default) y)):=by rw[ab V,a0d j]
     have t:=ae (Jj (ab M) hd);have z:=E6 (x:=x) (y:=y) (sJ (ab M)) (by rw[hd]);rw[hd]at z;have A:i7 (l.eraseIdx k) y=false:=by cases hh:i7 (l.eraseIdx k) y with
      | true=>exact absurd hh j
      | false=>rfl
     rw[A];have p:(l.set k (iP (l.getD k default) y)).length=n:=by rw[a1d];exact ab N
     have B:=KE (ab N) (ab m) k (ab Y) y;have d0:=(sr (ab N) (ab m) k (ab Y)).1;have f0:=(vP (ab N) (ab m) k (ab Y)).1;have P:=ae (ah (o:=k*8) (ab O) (ab m).below.1 (.string y));have C5:=ae (Gv (some ⟨g,0,none⟩) c n (l.set k (iP (l.getD k default) y)) _ p (iC p B) (by omega) (fun i hi=>xC z (by omega)));have Z:=ae (Nr z p);have an:=(ab m).below.2;clear j A B hd z V;go_wp2_with fail;refine(ab C5).mono ?_;rintro f x6 ⟨rfl,S⟩;have X:=ae (ai (ab P) S);rw[←ab Z];clear S P C5;go_wp2
     go_ret2
     exact⟨by rw[ab t];rfl,ab X⟩
theorem td(s x y:ByteArray)(m:Int)(w:World)(_hn:s.size<=9223372036854775807)(_ht:x.size<=9223372036854775807)(_hu:y.size<=9223372036854775807)(i:w.cell? ⟨2,0,none⟩=some (.int .i64 m))(n:pR w)(l:dT w) :
  Ds 4 #[.string s,.string x,.string y] w (.bool true):=by
 by_cases o:(1048576:Int)<(s.size:Int)
 . go_enter func4,ntmps4;go_wp2;go_ret;exact⟨rfl,a0c _ _⟩
 .
  by_cases h2:(1048576:Int)<(x.size:Int)
  . go_enter func4,ntmps4;go_wp2;go_ret;exact⟨rfl,a0c _ _⟩
  .
   by_cases q:(1048576:Int)<(y.size:Int)
   . go_enter func4,ntmps4;go_wp2;go_ret;exact⟨rfl,a0c _ _⟩
   . have k:=ae (sg s x y w (by omega) (by omega));have j:=ae (fun W (hb:Below w.heap.size w W)=>rY s x y m W (by omega) (by omega) ((hb.cell (p:=⟨2,0,none⟩) (World.block_lt_of_cell? _ _ i)).trans i) (n.later hb) (l.later hb));clear i n l;go_enter func4,ntmps4;go_wp2_with fail;refine(ab k).mono ?_;rintro e x1 ⟨rfl,b⟩;have f:=ae b;have a:=ae (ab j x1 b);clear b k j;obtain⟨T,c,h⟩:=EE s (dI x y);rw[h]at a;rw[h];clear h;go_wp2_with fail;refine(ab a).mono ?_;rintro e x2 ⟨rfl,d⟩;have g:=ae (ai (ab f) d);clear d a;go_wp2;go_ret;exact⟨rfl,ab g⟩
end Go.Proofs.YtchidddpplangaaGreatDoor
