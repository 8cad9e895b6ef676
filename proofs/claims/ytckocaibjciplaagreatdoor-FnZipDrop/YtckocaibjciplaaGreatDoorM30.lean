/- Texts. -/
import Derived.Test.YtckocaibjciplaaGreatDoorM21
import Derived.Test.YtckocaibjciplaaGreatDoorM28
set_option linter.all false
set_option maxHeartbeats 4000000
namespace Go.Proofs.YtckocaibjciplaaGreatDoor
open Go.Proofs.Tryz
open Go.RowKit
def je(e:En):Bool:=iv e.n e.y e.mo e.d e.h e.mi e.s e.t
def te(l:List En)(i:Nat):Bool:=(List.range l.length).all fun k=>!fW (l.getD i default).n.data.toList (l.getD k default).n.data.toList
def wu(l:List En)(i:Nat):Bool:=je (l.getD i default)&&(decide (atN l (l.getD i default).n=(i:Int))&&te l i)
def bF(l:List En):Bool:=(List.range l.length).all (wu l)&&decide (l.length<=6)
def S7{l:List En}{i:Nat}(a:i<l.length)(h:wu l i=false):bF l=false:=by
 have:(List.range l.length).all (wu l)=false:=by
  rw[a3W];exact⟨i,List.mem_range.2 a,by simp[h]⟩
 simp[bF,this]
def I0{l:List En}(h:∀i,i<l.length->wu l i=true):bF l=decide (l.length<=6):=by
 have:(List.range l.length).all (wu l)=true:=by
  rw[a08];exact fun i a=>h i (List.mem_range.1 a)
 simp[bF,this]
def Qr{l:List En}{i k:Nat}(a:k<l.length)(h:fW (l.getD i default).n.data.toList (l.getD k default).n.data.toList=true):te l i=false:=by
 unfold te;rw[a3W];exact⟨k,List.mem_range.2 a,by rw[h];decide⟩
def Co{l:List En}{i:Nat}(h:∀k,k<l.length->fW (l.getD i default).n.data.toList (l.getD k default).n.data.toList=false):te l i=true:=by
 unfold te;rw[a08];exact fun k a=>by rw[h k (List.mem_range.1 a)];rfl
def xO(a:Option Addr)(cap:Nat)(l:List En)(n:Nat)(hn:l.length=n)(w:World)(h:jI w a l)(hl:(n:Int)<=1048576)
  (hs:∀i,i<n->(l.getD i default).n.size<=1048576/\((l.getD i default).t.size:Int)<=9223372036854775807) :
  Ds 48 #[.slice a n cap] w (.bool (bF l)):=by
 have HS:=af hs;have HR:=af h;have R:=af (fun i (hi:i<l.length)=>@S7 l i hi);have S:=af (@I0 l);have K:=af (fun i k (hk:k<l.length)=>@Qr l i k hk);have M:=af (fun i=>@Co l i);rw[hn]at R S K M;have P:=af hn;clear h hs hn;go_enter func48,ntmps48;go_wp2_with fail
 go_loopw [3,4] (fun i _ wr=>∃k:Nat,k<=n/\i = .int .i64 k/\(∀j,j<k->wu l j=true)/\Below w.heap.size w wr) (fun i _ _=>n-(intOf i).toNat)
 case atStart=>exact⟨0,a0g _,rfl,fun j E=>absurd E (by omega),a0c _ _⟩
 case round=>
  obtain⟨k,hk,rfl,D,b⟩:=hrel;have r:=af D;have c:=af b;clear D b;by_cases z:k<n
  .
   have a3:(k:Int)<(n:Int):=(by omega);have RW:=af (HR.later c);obtain⟨g,o,rfl,hg,hc⟩:=ae RW (by have:=ae P;omega);obtain⟨c0,c1,c2,c3,c4,c5,c6,c7⟩:=hc k (by have:=ae P;omega);have x:=af z;have H:=af (ae HS k z);have I:=af (ae R k z);have f:Hid (wu l k=(je (l.getD k default)&&(decide (atN l (l.getD k default).n=(k:Int))&&te l k))):=rfl;have aa:Hid (wu l k=true->∀j,j<k+1->wu l j=true):=by
    intro e j E;by_cases ao:j=k
    . rw[ao];exact e
    . exact r j (by omega)
   have L:=af (ae K k);have N:=af (ae M k);have a1:((l.getD k default).n.size:Int)<=1048576:=by have:=H.1;omega
   have C:=af (fun W=>jy (l.getD k default).n (l.getD k default).y (l.getD k default).mo (l.getD k default).d (l.getD k default).h (l.getD k default).mi (l.getD k default).s (l.getD k default).t W H.1 H.2);have X:=af (fun W hW=>Di (some ⟨g,o,none⟩) cap l n P (l.getD k default).n W hW hl);have ab:=af (fun j (E:j<n) W=>nB (l.getD k default).n (l.getD j default).n W a1 (by have:=(HS j E).1;omega));have G:Hid (∀W,Below w.heap.size w W->∀j,j<n->W.cell? ⟨g,o+j*8,none⟩=some (.string (l.getD j default).n)):=by
    intro W hW j E;obtain⟨g',o',e',_,ad⟩:=HR.later hW (by have:=ae P;omega);simp only[a0k,a0A,a0Q]at e';obtain⟨rfl,rfl⟩:=e';exact(ad j (by have:=ae P;omega)).1
   have J:Hid (je (l.getD k default)=iv (l.getD k default).n (l.getD k default).y (l.getD k default).mo (l.getD k default).d (l.getD k default).h (l.getD k default).mi (l.getD k default).s (l.getD k default).t):=rfl;clear hc hk r z;generalize je (l.getD k default)=be at *;go_wp2_with fail;apply(C _).mono;rintro e z1⟨rfl,U⟩;rw[←ae J];have p:=af (aj c U);have al:=ae G _ (ae p) k (ae x);clear U c0 c1 c2 c3 c4 c5 c6 c7 J C;cases be
   . have HP:=af (ae I (by rw[ae f];rfl));go_wp2;go_ret;exact⟨am HP.symm,p⟩
   .
    go_wp2_with fail;apply(X _ (HR.later p)).mono;rintro e z2⟨rfl,V⟩;rw[V];clear V;generalize atN l (l.getD k default).n=A at *;by_cases hA:A=(k:Int)
    .
     subst hA;go_wp2_with fail
     go_loopw [4] (fun q wr=>∃m:Nat,m<=n/\q = .int .i64 m/\(∀j,j<m->fW (l.getD k default).n.data.toList (l.getD j default).n.data.toList=false)/\Below w.heap.size w wr) (fun q _=>n-(intOf q).toNat)
     case atStart=>exact⟨0,a0g _,rfl,fun j E=>absurd E (by omega),p⟩
     case round=>
      obtain⟨m,hm,rfl,T,b⟩:=hrel;have F:=af T;have v:=af b;clear T b al;by_cases B:m<n
      .
       have a4:(m:Int)<(n:Int):=(by omega);have d0:=ae G _ (ae v) k (ae x);have d1:=ae G _ (ae v) m B;have Q:=af (ae ab m B);have Z:=af (ae L m B);have O:=af B;have Y:Hid (fW (l.getD k default).n.data.toList (l.getD m default).n.data.toList=false->∀j,j<m+1->fW (l.getD k default).n.data.toList (l.getD j default).n.data.toList=false):=by
        intro e j E;by_cases a0:j=m
        . rw[a0];exact e
        . exact F j (by omega)
       clear hm F;generalize fW (l.getD k default).n.data.toList (l.getD m default).n.data.toList=u at *;cases u
       .
        have HX:=af (ae Y rfl);go_wp2_with fail
        go_quiet ((go_at_call 81;exact a1g (Q _)))
        go_wp2;go_roundw
        case rel=>exact⟨m+1,by have:=ae O;omega,by go_num,HX,below_drewN v _⟩
        case measure=>have:=ae O;simp[intOf];omega
       .
        have HP:=af (ae I (by rw[ae f,ae Z rfl];simp));go_wp2_with fail
        go_quiet ((go_at_call 81;exact a1g (Q _)))
        go_wp2;go_ret;exact⟨am HP.symm,below_drewN v _⟩
      .
       obtain rfl:m=n:=by omega
       have HX:=af (ae aa (by rw[ae f,ae N (ae F)];simp));go_wp2;go_roundw
       case rel=>exact⟨k+1,by have:=ae x;omega,by go_num,HX,v⟩
       case measure=>have:=ae x;simp[intOf];omega
    .
     have HP:=af (ae I (by rw[ae f];simp[hA]));have a2:(A == (k:Int))=false:=by simp[hA]
     go_wp2;go_ret;exact⟨am HP.symm,p⟩
  .
   obtain rfl:k=n:=by omega
   have HY:=af (ae S (ae r));by_cases h6:k<=6
   .
    have ac:(k:Int)<=6:=(by omega);go_wp2;go_ret;exact⟨am (by rw[ae HY];simp[h6]),c⟩
   .
    have ac:¬ (k:Int)<=6:=(by omega);go_wp2;go_ret;exact⟨am (by rw[ae HY];simp[h6]),c⟩
def Eg(n:ByteArray)(y mo d h mi s:Int)(t:ByteArray)(b:Nat)(x:ByteArray)(w:World)(hb:w.cell? ⟨b,0,none⟩=some (.string x))(i:(n.size:Int)<=1048576)(j:(x.size:Int)<=1048576) :
  Ds 79 #[.agg #[n,y,mo,d,h,mi,s,t],.pointer b] w (.bool (bW n.data.toList x.data.toList)):=by
 have a:b<w.heap.size:=World.block_lt_of_cell? _ _ hb;have g:(w.alloc (.cells #[n,y,mo,d,h,mi,s,t] 34)).cell? ⟨b,0,none⟩=some (.string x):=by
  rw[World.cell?_alloc_past _ _ _ a];exact hb
 have f:=af (fun W=>wl n x W i j);clear hb;go_enter func79,ntmps79;go_wp2_with fail;apply(f _).mono;rintro e w1⟨rfl,c⟩;rw[c];clear c;go_wp2;go_ret;exact⟨rfl,cC⟩
def iG(l:List En)(x:ByteArray):Bool:=l.any fun e=>bW e.n.data.toList x.data.toList
def uK{l:List En}{x:ByteArray}{k:Nat}(a:k<l.length)(e:bW (l.getD k default).n.data.toList x.data.toList=true):iG l x=true:=by
 unfold iG;rw[List.any_eq_true];refine⟨l.getD k default,?_,e⟩;simp[List.getD,a]
def rz{l:List En}{x:ByteArray}(h:∀j,j<l.length->bW (l.getD j default).n.data.toList x.data.toList=false):iG l x=false:=by
 unfold iG;rw[List.any_eq_false];intro e b;obtain⟨j,a,rfl⟩:=a1I b;have:=h j a;simp only[List.getD,List.getElem?_eq_getElem a,a1G]at this;simp[this]
def xD(a:Option Addr)(cap:Nat)(l:List En)(n:Nat)(J:l.length=n)(b:Nat)(x:ByteArray)(w:World)(h:jI w a l)(hl:(n:Int)<=1048576)(hb:w.cell? ⟨b,0,none⟩=some (.string x))(hx:(x.size:Int)<=1048576)
  (Q:∀i,i<n->((l.getD i default).n.size:Int)<=1048576) :
  Calls prog 109 #[.slice a n cap,.func (.func 79) #[] #[.pointer b]] w fun e w'=>(∃r:Int,e = .returned (.int .i64 r)/\decide (0<=r)=iG l x/\r<1048577)/\Below w.heap.size w w':=by
 have A:b<w.heap.size:=World.block_lt_of_cell? _ _ hb;have T:=af Q;have S:=af h;have C:=af hb;have F:=af A;have L:=af (fun k (I:k<l.length)=>@uK l x k I);have M:=af (@rz l x);rw[J]at L M;have N:=af J;clear h Q J hb A;go_enter func109,ntmps109;go_wp2_with fail
 go_loopw [5,8] (fun _ i wr=>∃k:Nat,k<=n/\i = .int .i64 k/\(∀j,j<k->bW (l.getD j default).n.data.toList x.data.toList=false)/\Below w.heap.size w wr) (fun _ i _=>n-(intOf i).toNat)
 case atStart=>exact⟨0,a0g _,rfl,fun j P=>absurd P (by omega),a0c _ _⟩
 case round=>
  obtain⟨k,I,rfl,q,v⟩:=hrel;have f:=af q;have c:=af v;clear q v;by_cases m:k<n
  .
   have aa:(k:Int)<(n:Int):=(by omega);obtain⟨g,o,rfl,hg,O⟩:=S.later c (by have:=ae N;omega);obtain⟨c0,c1,c2,c3,c4,V,X,Y⟩:=O k (by have:=ae N;omega);have z:=af m;have E:=af (ae L k m);have R:=af (fun W (Z:Below w.heap.size w W)=>Eg (l.getD k default).n (l.getD k default).y (l.getD k default).mo (l.getD k default).d (l.getD k default).h (l.getD k default).mi (l.getD k default).s (l.getD k default).t b x W ((Z.cell (p:=⟨b,0,none⟩) F).trans C) (T k m) hx);have G:Hid (bW (l.getD k default).n.data.toList x.data.toList=false->∀j,j<k+1->bW (l.getD j default).n.data.toList x.data.toList=false):=by
    intro e j P;by_cases H:j=k
    . rw[H];exact e
    . exact f j (by omega)
   clear O I f m;generalize bW (l.getD k default).n.data.toList x.data.toList=u at *;go_wp2_with fail;apply(R _ (ae c)).mono;rintro e z1⟨rfl,B⟩;have K:=af (aj c B);clear B c0 c1 c2 c3 c4 V X Y;cases u
   .
    have U:=af (ae G rfl);go_wp2;go_roundw
    case rel=>exact⟨k+1,by have:=ae z;omega,by go_num,U,K⟩
    case measure=>have:=ae z;simp[intOf];omega
   . have D:=af (ae E rfl);go_wp2;go_ret;exact⟨⟨(k:Int),rfl,by rw[ae D];simp,by omega⟩,K⟩
  .
   obtain rfl:k=n:=by omega
   have D:=af (ae M (ae f));go_wp2;go_ret;exact⟨⟨-1,rfl,by rw[ae D];rfl,by omega⟩,c⟩
def rJ(a:Option Addr)(cap:Nat)(l:List En)(n:Nat)(d:l.length=n)(b:Nat)(x:ByteArray)(w:World)(h:jI w a l)(o:(n:Int)<=1048576)(hb:w.cell? ⟨b,0,none⟩=some (.string x))(p:(x.size:Int)<=1048576)
  (g:∀i,i<n->((l.getD i default).n.size:Int)<=1048576) :
  Ds 78 #[.slice a n cap,.func (.func 79) #[] #[.pointer b]] w (.bool (iG l x)):=by
 have k:=af (xD a cap l n d b x w h o hb p g);clear h hb g d;go_enter func78,ntmps78;go_wp2_with fail;apply k.mono;rintro e w1⟨⟨r,rfl,f,_⟩,c⟩;have m:=af f;have j:=af c;clear f c;go_wp2;go_ret;exact⟨am m,j⟩
def aH(l:List En)(e:En):Int:=if je e then(if iG l e.n then 3 else if 6<=l.length then 4 else 0)else 1
def dJ(c:Int):Value:=if c=0 then .nilIface else .iface 99 (.agg #[c])
def nZ(a:Option Addr)(cap:Nat)(l:List En)(n:Nat)(C:l.length=n)(e:En)(m:Int)(w:World)(h:jI w a l)(K:(n:Int)<=1048576)
  (D:∀i,i<n->((l.getD i default).n.size:Int)<=1048576) (J:e.n.size<=1048576) (L:(e.t.size:Int)<=9223372036854775807) (z:w.cell? ⟨2,0,none⟩=some (.int .i64 m)) :
  Calls prog 44 #[.slice a n cap,.agg e] w fun f w'=>f = .returned (dJ (aH l e))/\Below w.heap.size w w':=by
 have E:Hid ((w.alloc (.cells e 34)).cell? ⟨2,0,none⟩=some (.int .i64 m)):=by
  show _=_;rw[World.cell?_alloc_past _ _ _ (World.block_lt_of_cell? _ _ z)];exact z
 have j:=af (mH e.n e.y e.mo e.d e.h e.mi e.s e.t m _ J L E);have F:=af h;have G:=af D;have A:=af C;have x:(e.n.size:Int)<=1048576:=by omega
 clear h D z C;cases v:je e
 .
  have I:aH l e=1:=by simp[aH,v]
  rw[I];go_enter func44,ntmps44;go_wp2_with fail;apply j.mono;rintro f w1⟨rfl,b⟩;rw[show iv e.n e.y e.mo e.d e.h e.mi e.s e.t=false from v];have c:=af (ng b).2;clear b;go_wp2;go_ret;exact⟨rfl,c⟩
 .
  have k:Hid (aH l e=if iG l e.n then 3 else if 6<=n then 4 else 0):=by show _=_;rw[←ae A];simp[aH,v]
  go_enter func44,ntmps44;go_wp2_with fail;apply j.mono;rintro f w1⟨rfl,b⟩;rw[show iv e.n e.y e.mo e.d e.h e.mi e.s e.t=true from v];have c:=af (ng b).2;have q:=af (ng b).1;clear b;have p:=af (rJ a cap l n A w.heap.size e.n w1 (F.later c) K q.1.1 x G);clear q j;generalize iG l e.n=u at *;go_wp2_with fail;apply p.mono;rintro f w2⟨rfl,r⟩;have g:=af (aj c r);clear r p;cases u
  .
   by_cases B:6<=n
   .
    have H:(6:Int)<=(n:Int):=(by omega);have o:Hid (aH l e=4):=by show _=_;rw[ae k];simp[B]
    go_wp2;go_ret;exact⟨by rw[ae o];rfl,g⟩
   .
    have o:Hid (aH l e=0):=by show _=_;rw[ae k];simp[B]
    go_wp2;go_ret;exact⟨by rw[ae o];rfl,g⟩
  .
   have o:Hid (aH l e=3):=by show _=_;rw[ae k];simp
   go_wp2;go_ret;exact⟨by rw[ae o];rfl,g⟩
