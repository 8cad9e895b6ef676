/- Of what the proof is made: 3 texts, one behind the other. -/
import Derived.Test.YtchidddpplangaaGreatDoorM21
import Derived.Test.YtchidddpplangaaGreatDoorM28
set_option linter.unusedSimpArgs false
set_option linter.unusedVariables false
set_option maxHeartbeats 4000000
namespace Go.Proofs.YtchidddpplangaaGreatDoor
open Go.Proofs.Tryz
open Go.RowKit
def gV(e:En):Bool:=iB e.n e.y e.mo e.d e.h e.mi e.s e.t
def ri(l:List En)(i:Nat):Bool:=(List.range l.length).all fun k=>!fB (l.getD i default).n.data.toList (l.getD k default).n.data.toList
def uv(l:List En)(i:Nat):Bool:=gV (l.getD i default)&&(decide (atN l (l.getD i default).n=(i:Int))&&ri l i)
def dm(l:List En):Bool:=(List.range l.length).all (uv l)&&decide (l.length<=6)
theorem Ot{l:List En}{i:Nat}(a:i<l.length)(h:uv l i=false):dm l=false:=by
 have:(List.range l.length).all (uv l)=false:=by
  rw[a3Q];exact⟨i,List.mem_range.2 a,by simp[h]⟩
 simp[dm,this]
theorem Fy{l:List En}(h:∀i,i<l.length->uv l i=true):dm l=decide (l.length<=6):=by
 have:(List.range l.length).all (uv l)=true:=by
  rw[a1a];exact fun i a=>h i (List.mem_range.1 a)
 simp[dm,this]
theorem Ml{l:List En}{i k:Nat}(a:k<l.length)(h:fB (l.getD i default).n.data.toList (l.getD k default).n.data.toList=true):ri l i=false:=by
 unfold ri;rw[a3Q];exact⟨k,List.mem_range.2 a,by rw[h];decide⟩
theorem zG{l:List En}{i:Nat}(h:∀k,k<l.length->fB (l.getD i default).n.data.toList (l.getD k default).n.data.toList=false):ri l i=true:=by
 unfold ri;rw[a1a];exact fun k a=>by rw[h k (List.mem_range.1 a)];rfl
theorem vz(a:Option Addr)(cap:Nat)(l:List En)(n:Nat)(hn:l.length=n)(w:World)(h:kj w a l)(hl:(n:Int)<=1048576)
  (hs:∀i,i<n->(l.getD i default).n.size<=1048576/\((l.getD i default).t.size:Int)<=9223372036854775807) :
  Ds 26 #[.slice a n cap] w (.bool (dm l)):=by
 have HS:=ae hs;have HR:=ae h;have R:=ae (fun i (hi:i<l.length)=>@Ot l i hi);have S:=ae (@Fy l);have K:=ae (fun i k (hk:k<l.length)=>@Ml l i k hk);have M:=ae (fun i=>@zG l i);rw[hn]at R S K M;have P:=ae hn;clear h hs hn;go_enter func26,ntmps26;go_wp2_with fail
 go_loopw [3,4] (fun i _ wr=>∃k:Nat,k<=n/\i = .int .i64 k/\(∀j,j<k->uv l j=true)/\Below w.heap.size w wr) (fun i _ _=>n-(intOf i).toNat)
 case atStart=>exact⟨0,a0g _,rfl,fun j E=>absurd E (by omega),a0c _ _⟩
 case round=>
  obtain⟨k,hk,rfl,D,b⟩:=hrel;have r:=ae D;have c:=ae b;clear D b;by_cases z:k<n
  .
   have a4:(k:Int)<(n:Int):=by omega
   have RW:=ae ((ab HR).later (ab c));obtain⟨g,o,rfl,hg,hc⟩:=ab RW (by have:=ab P;omega);obtain⟨c0,c1,c2,c3,c4,c5,c6,c7⟩:=hc k (by have:=ab P;omega);have x:=ae z;have H:=ae (ab HS k z);have I:=ae (ab R k z);have f:Hid (uv l k=(gV (l.getD k default)&&(decide (atN l (l.getD k default).n=(k:Int))&&ri l k))):=rfl;have aa:Hid (uv l k=true->∀j,j<k+1->uv l j=true):=by
    intro e j E;by_cases a0:j=k
    . rw[a0];exact e
    . exact ab r j (by omega)
   have L:=ae (ab K k);have N:=ae (ab M k);have a2:((l.getD k default).n.size:Int)<=1048576:=by have:=(ab H).1;omega
   have C:=ae (fun W=>lP (l.getD k default).n (l.getD k default).y (l.getD k default).mo (l.getD k default).d (l.getD k default).h (l.getD k default).mi (l.getD k default).s (l.getD k default).t W (ab H).1 (ab H).2);have X:=ae (fun W hW=>Aa (some ⟨g,o,none⟩) cap l n (ab P) (l.getD k default).n W hW hl);have ac:=ae (fun j (E:j<n) W=>mn (l.getD k default).n (l.getD j default).n W a2 (by have:=(ab HS j E).1;omega));have G:Hid (∀W,Below w.heap.size w W->∀j,j<n->W.cell? ⟨g,o+j*8,none⟩=some (.string (l.getD j default).n)):=by
    intro W hW j E;obtain⟨g',o',e',_,al⟩:=(ab HR).later hW (by have:=ab P;omega);simp only[a0l,a0B,a0P]at e';obtain⟨rfl,rfl⟩:=e';exact(al j (by have:=ab P;omega)).1
   have J:Hid (gV (l.getD k default)=iB (l.getD k default).n (l.getD k default).y (l.getD k default).mo (l.getD k default).d (l.getD k default).h (l.getD k default).mi (l.getD k default).s (l.getD k default).t):=rfl;clear hc hk r z;generalize gV (l.getD k default)=be at *
   go_wp2_with fail;refine(ab C _).mono ?_;rintro e z1 ⟨rfl,U⟩;rw[←ab J];have p:=ae (ai (ab c) U);have an:=ab G _ (ab p) k (ab x);clear U c0 c1 c2 c3 c4 c5 c6 c7 J C;cases be
   . have HP:=ae (ab I (by rw[ab f];rfl));go_wp2;go_ret;exact⟨ak (ab HP).symm,ab p⟩
   .
    go_wp2_with fail;refine(ab X _ ((ab HR).later (ab p))).mono ?_;rintro e z2 ⟨rfl,V⟩;rw[V];clear V;generalize atN l (l.getD k default).n=A at *
    by_cases hA:A=(k:Int)
    .
     subst hA;go_wp2_with fail
     go_loopw [4] (fun q wr=>∃m:Nat,m<=n/\q = .int .i64 m/\(∀j,j<m->fB (l.getD k default).n.data.toList (l.getD j default).n.data.toList=false)/\Below w.heap.size w wr) (fun q _=>n-(intOf q).toNat)
     case atStart=>exact⟨0,a0g _,rfl,fun j E=>absurd E (by omega),ab p⟩
     case round=>
      obtain⟨m,hm,rfl,T,b⟩:=hrel;have F:=ae T;have v:=ae b;clear T b an;by_cases B:m<n
      .
       have a5:(m:Int)<(n:Int):=by omega
       have d0:=ab G _ (ab v) k (ab x);have d1:=ab G _ (ab v) m B;have Q:=ae (ab ac m B);have Z:=ae (ab L m B);have O:=ae B;have Y:Hid (fB (l.getD k default).n.data.toList (l.getD m default).n.data.toList=false->∀j,j<m+1->fB (l.getD k default).n.data.toList (l.getD j default).n.data.toList=false):=by
        intro e j E;by_cases a1:j=m
        . rw[a1];exact e
        . exact ab F j (by omega)
       clear hm F;generalize fB (l.getD k default).n.data.toList (l.getD m default).n.data.toList=u at *
       cases u
       .
        have HX:=ae (ab Y rfl);go_wp2_with fail
        go_quiet ((go_at_call 40;exact a1g (ab Q _)))
        go_wp2;go_roundw
        case rel=>exact⟨m+1,by have:=ab O;omega,by go_num,ab HX,below_drewN (ab v) _⟩
        case measure=>have:=ab O;simp[intOf];omega
       .
        have HP:=ae (ab I (by rw[ab f,ab Z rfl];simp));go_wp2_with fail
        go_quiet ((go_at_call 40;exact a1g (ab Q _)))
        go_wp2;go_ret;exact⟨ak (ab HP).symm,below_drewN (ab v) _⟩
      .
       obtain rfl:m=n:=by omega
       have HX:=ae (ab aa (by rw[ab f,ab N (ab F)];simp));go_wp2;go_roundw
       case rel=>exact⟨k+1,by have:=ab x;omega,by go_num,ab HX,ab v⟩
       case measure=>have:=ab x;simp[intOf];omega
    .
     have HP:=ae (ab I (by rw[ab f];simp[hA]));have a3:(A == (k:Int))=false:=by simp[hA]
     go_wp2;go_ret;exact⟨ak (ab HP).symm,ab p⟩
  .
   obtain rfl:k=n:=by omega
   have HY:=ae (ab S (ab r));by_cases h6:k<=6
   .
    have ad:(k:Int)<=6:=by omega
    go_wp2;go_ret;exact⟨ak (by rw[ab HY];simp[h6]),ab c⟩
   .
    have ad:¬ (k:Int)<=6:=by omega
    go_wp2;go_ret;exact⟨ak (by rw[ab HY];simp[h6]),ab c⟩
theorem Bi(n:ByteArray)(y mo d h mi s:Int)(t:ByteArray)(b:Nat)(x:ByteArray)(w:World)(hb:w.cell? ⟨b,0,none⟩=some (.string x))(i:(n.size:Int)<=1048576)(j:(x.size:Int)<=1048576) :
  Ds 61 #[.agg #[.string n,.int .i64 y,.int .i64 mo,.int .i64 d,.int .i64 h,.int .i64 mi,.int .i64 s,.string t],.pointer (some ⟨b,0,none⟩)] w (.bool (bZ n.data.toList x.data.toList)):=by
 have a:b<w.heap.size:=World.block_lt_of_cell? _ _ hb;have g:(w.alloc (.cells #[.string n,.int .i64 y,.int .i64 mo,.int .i64 d,.int .i64 h,.int .i64 mi,.int .i64 s,.string t] 31)).cell? ⟨b,0,none⟩=some (.string x):=by
  rw[World.cell?_alloc_past _ _ _ a];exact hb
 have f:=ae (fun W=>uo n x W i j);clear hb;go_enter func61,ntmps61;go_wp2_with fail;refine(ab f _).mono ?_;rintro e w1 ⟨rfl,c⟩;rw[c];clear c;go_wp2;go_ret;exact⟨rfl,(a0c _ _).alloc (a0a _) _⟩
def i7(l:List En)(x:ByteArray):Bool:=l.any fun e=>bZ e.n.data.toList x.data.toList
theorem sO{l:List En}{x:ByteArray}{k:Nat}(a:k<l.length)(e:bZ (l.getD k default).n.data.toList x.data.toList=true):i7 l x=true:=by
 unfold i7;rw[List.any_eq_true];refine⟨l.getD k default,?_,e⟩;simp[List.getD,a]
theorem pS{l:List En}{x:ByteArray}(h:∀j,j<l.length->bZ (l.getD j default).n.data.toList x.data.toList=false):i7 l x=false:=by
 unfold i7;rw[List.any_eq_false];intro e b;obtain⟨j,a,rfl⟩:=a1z b;have:=h j a;simp only[List.getD,List.getElem?_eq_getElem a,a1x]at this;simp[this]
theorem vo(a:Option Addr)(cap:Nat)(l:List En)(n:Nat)(J:l.length=n)(b:Nat)(x:ByteArray)(w:World)(h:kj w a l)(hl:(n:Int)<=1048576)(hb:w.cell? ⟨b,0,none⟩=some (.string x))(hx:(x.size:Int)<=1048576)
  (Q:∀i,i<n->((l.getD i default).n.size:Int)<=1048576) :
  Calls prog 65 #[.slice a n cap,.func (.func 61) #[] #[.pointer (some ⟨b,0,none⟩)]] w fun e w'=>(∃r:Int,e = .returned (.int .i64 r)/\decide (0<=r)=i7 l x/\r<1048577)/\Below w.heap.size w w':=by
 have A:b<w.heap.size:=World.block_lt_of_cell? _ _ hb;have T:=ae Q;have S:=ae h;have C:=ae hb;have F:=ae A;have L:=ae (fun k (I:k<l.length)=>@sO l x k I);have M:=ae (@pS l x);rw[J]at L M;have N:=ae J;clear h Q J hb A;go_enter func65,ntmps65;go_wp2_with fail
 go_loopw [5,8] (fun _ i wr=>∃k:Nat,k<=n/\i = .int .i64 k/\(∀j,j<k->bZ (l.getD j default).n.data.toList x.data.toList=false)/\Below w.heap.size w wr) (fun _ i _=>n-(intOf i).toNat)
 case atStart=>exact⟨0,a0g _,rfl,fun j P=>absurd P (by omega),a0c _ _⟩
 case round=>
  obtain⟨k,I,rfl,q,v⟩:=hrel;have f:=ae q;have c:=ae v;clear q v;by_cases m:k<n
  .
   have aa:(k:Int)<(n:Int):=by omega
   obtain⟨g,o,rfl,hg,O⟩:=(ab S).later (ab c) (by have:=ab N;omega);obtain⟨c0,c1,c2,c3,c4,V,X,Y⟩:=O k (by have:=ab N;omega);have z:=ae m;have E:=ae (ab L k m);have R:=ae (fun W (Z:Below w.heap.size w W)=>Bi (l.getD k default).n (l.getD k default).y (l.getD k default).mo (l.getD k default).d (l.getD k default).h (l.getD k default).mi (l.getD k default).s (l.getD k default).t b x W ((Z.cell (p:=⟨b,0,none⟩) (ab F)).trans (ab C)) (ab T k m) hx);have G:Hid (bZ (l.getD k default).n.data.toList x.data.toList=false->∀j,j<k+1->bZ (l.getD j default).n.data.toList x.data.toList=false):=by
    intro e j P;by_cases H:j=k
    . rw[H];exact e
    . exact ab f j (by omega)
   clear O I f m;generalize bZ (l.getD k default).n.data.toList x.data.toList=u at *
   go_wp2_with fail;refine(ab R _ (ab c)).mono ?_;rintro e z1 ⟨rfl,B⟩;have K:=ae (ai (ab c) B);clear B c0 c1 c2 c3 c4 V X Y;cases u
   .
    have U:=ae (ab G rfl);go_wp2;go_roundw
    case rel=>exact⟨k+1,by have:=ab z;omega,by go_num,ab U,ab K⟩
    case measure=>have:=ab z;simp[intOf];omega
   . have D:=ae (ab E rfl);go_wp2;go_ret;exact⟨⟨(k:Int),rfl,by rw[ab D];simp,by omega⟩,ab K⟩
  .
   obtain rfl:k=n:=by omega
   have D:=ae (ab M (ab f));go_wp2;go_ret;exact⟨⟨-1,rfl,by rw[ab D];rfl,by omega⟩,ab c⟩
theorem pW(a:Option Addr)(cap:Nat)(l:List En)(n:Nat)(d:l.length=n)(b:Nat)(x:ByteArray)(w:World)(h:kj w a l)(o:(n:Int)<=1048576)(hb:w.cell? ⟨b,0,none⟩=some (.string x))(p:(x.size:Int)<=1048576)
  (g:∀i,i<n->((l.getD i default).n.size:Int)<=1048576) :
  Ds 60 #[.slice a n cap,.func (.func 61) #[] #[.pointer (some ⟨b,0,none⟩)]] w (.bool (i7 l x)):=by
 have k:=ae (vo a cap l n d b x w h o hb p g);clear h hb g d;go_enter func60,ntmps60;go_wp2_with fail;refine(ab k).mono ?_;rintro e w1 ⟨⟨r,rfl,f,_⟩,c⟩;have m:=ae f;have j:=ae c;clear f c;go_wp2;go_ret;exact⟨ak (ab m),ab j⟩
def bW(l:List En)(e:En):Int:=if gV e then(if i7 l e.n then 3 else if 6<=l.length then 4 else 0)else 1
def dG(c:Int):Value:=if c=0 then .nilIface else .iface 76 (.agg #[.int .i64 c])
theorem mP(a:Option Addr)(cap:Nat)(l:List En)(n:Nat)(C:l.length=n)(e:En)(m:Int)(w:World)(h:kj w a l)(K:(n:Int)<=1048576)
  (D:∀i,i<n->((l.getD i default).n.size:Int)<=1048576) (J:e.n.size<=1048576) (L:(e.t.size:Int)<=9223372036854775807) (z:w.cell? ⟨2,0,none⟩=some (.int .i64 m)) :
  Calls prog 38 #[.slice a n cap,.agg #[.string e.n,.int .i64 e.y,.int .i64 e.mo,.int .i64 e.d,.int .i64 e.h,.int .i64 e.mi,.int .i64 e.s,.string e.t]] w fun f w'=>f = .returned (dG (bW l e))/\Below w.heap.size w w':=by
 have E:Hid ((w.alloc (.cells #[.string e.n,.int .i64 e.y,.int .i64 e.mo,.int .i64 e.d,.int .i64 e.h,.int .i64 e.mi,.int .i64 e.s,.string e.t] 31)).cell? ⟨2,0,none⟩=some (.int .i64 m)):=by
  show _=_;rw[World.cell?_alloc_past _ _ _ (World.block_lt_of_cell? _ _ z)];exact z
 have j:=ae (lJ e.n e.y e.mo e.d e.h e.mi e.s e.t m _ J L (ab E));have F:=ae h;have G:=ae D;have A:=ae C;have x:(e.n.size:Int)<=1048576:=by omega
 clear h D z C;cases v:gV e
 .
  have I:bW l e=1:=by simp[bW,v]
  rw[I];go_enter func38,ntmps38;go_wp2_with fail;refine(ab j).mono ?_;rintro f w1 ⟨rfl,b⟩;rw[show iB e.n e.y e.mo e.d e.h e.mi e.s e.t=false from v];have c:=ae (lZ b).2;clear b;go_wp2;go_ret;exact⟨rfl,ab c⟩
 .
  have k:Hid (bW l e=if i7 l e.n then 3 else if 6<=n then 4 else 0):=by show _=_;rw[←ab A];simp[bW,v]
  go_enter func38,ntmps38;go_wp2_with fail;refine(ab j).mono ?_;rintro f w1 ⟨rfl,b⟩;rw[show iB e.n e.y e.mo e.d e.h e.mi e.s e.t=true from v];have c:=ae (lZ b).2;have q:=ae (lZ b).1;clear b;have p:=ae (pW a cap l n (ab A) w.heap.size e.n w1 ((ab F).later (ab c)) K (ab q).1.1 x (ab G));clear q j;generalize i7 l e.n=u at *
  go_wp2_with fail;refine(ab p).mono ?_;rintro f w2 ⟨rfl,r⟩;have g:=ae (ai (ab c) r);clear r p;cases u
  .
   by_cases B:6<=n
   .
    have H:(6:Int)<=(n:Int):=by omega
    have o:Hid (bW l e=4):=by show _=_;rw[ab k];simp[B]
    go_wp2;go_ret;exact⟨by rw[ab o];rfl,ab g⟩
   .
    have o:Hid (bW l e=0):=by show _=_;rw[ab k];simp[B]
    go_wp2;go_ret;exact⟨by rw[ab o];rfl,ab g⟩
  .
   have o:Hid (bW l e=3):=by show _=_;rw[ab k];simp
   go_wp2;go_ret;exact⟨by rw[ab o];rfl,ab g⟩
end Go.Proofs.YtchidddpplangaaGreatDoor
