/- Texts. -/
import Derived.Test.YtfannoajibacnaaGreatDoorM23
import Derived.Test.YtfannoajibacnaaGreatDoorM29
set_option linter.all false
set_option maxHeartbeats 4000000
namespace Go.Proofs.YtfannoajibacnaaGreatDoor
open Go.Proofs.Tryz
open Go.RowKit
def fi(e:En):Bool:=gQ e.n e.y e.mo e.d e.h e.mi e.s e.t
def tW(l:List En)(i:Nat):Bool:=(List.range l.length).all fun k=>!gr (l.getD i default).n.data.toList (l.getD k default).n.data.toList
def xy(l:List En)(i:Nat):Bool:=fi (l.getD i default)&&(decide (atN l (l.getD i default).n=(i:Int))&&tW l i)
def bi(l:List En):Bool:=(List.range l.length).all (xy l)&&decide (l.length<=6)
def Uz{l:List En}{i:Nat}(a:i<l.length)(h:xy l i=false):bi l=false:=by
 have:(List.range l.length).all (xy l)=false:=by
  rw[a32];exact⟨i,List.mem_range.2 a,by simp[h]⟩
 simp[bi,this]
def JQ{l:List En}(h:∀i,i<l.length->xy l i=true):bi l=decide (l.length<=6):=by
 have:(List.range l.length).all (xy l)=true:=by
  rw[a1c];exact fun i a=>h i (List.mem_range.1 a)
 simp[bi,this]
def RH{l:List En}{i k:Nat}(a:k<l.length)(h:gr (l.getD i default).n.data.toList (l.getD k default).n.data.toList=true):tW l i=false:=by
 unfold tW;rw[a32];exact⟨k,List.mem_range.2 a,by rw[h];decide⟩
def DJ{l:List En}{i:Nat}(h:∀k,k<l.length->gr (l.getD i default).n.data.toList (l.getD k default).n.data.toList=false):tW l i=true:=by
 unfold tW;rw[a1c];exact fun k a=>by rw[h k (List.mem_range.1 a)];rfl
def yM(a:Option Addr)(cap:Nat)(l:List En)(n:Nat)(hn:l.length=n)(w:World)(h:iA w a l)(hl:(n:Int)<=1048576)
  (hs:∀i,i<n->(l.getD i default).n.size<=1048576/\((l.getD i default).t.size:Int)<=9223372036854775807) :
  Ds 56 #[.slice a n cap] w (.bool (bi l)):=by
 have HS:=af hs;have HR:=af h;have R:=af (fun i (hi:i<l.length)=>@Uz l i hi);have S:=af (@JQ l);have K:=af (fun i k (hk:k<l.length)=>@RH l i k hk);have M:=af (fun i=>@DJ l i);rw[hn]at R S K M;have P:=af hn;clear h hs hn;go_enter func56,ntmps56;go_wp2_with fail
 go_loopw [3,4] (fun i _ wr=>∃k:Nat,k<=n/\i = .int .i64 k/\(∀j,j<k->xy l j=true)/\Below w.heap.size w wr) (fun i _ _=>n-(intOf i).toNat)
 case atStart=>exact⟨0,a0g _,rfl,fun j E=>absurd E (by omega),a0c _ _⟩
 case round=>
  obtain⟨k,hk,rfl,D,b⟩:=hrel;have r:=af D;have c:=af b;clear D b;by_cases z:k<n
  .
   have a3:(k:Int)<(n:Int):=(by omega);have RW:=af (HR.later c);obtain⟨g,o,rfl,hg,hc⟩:=ae RW (by have:=ae P;omega);obtain⟨c0,c1,c2,c3,c4,c5,c6,c7⟩:=hc k (by have:=ae P;omega);have x:=af z;have H:=af (ae HS k z);have I:=af (ae R k z);have f:Hid (xy l k=(fi (l.getD k default)&&(decide (atN l (l.getD k default).n=(k:Int))&&tW l k))):=rfl;have aa:Hid (xy l k=true->∀j,j<k+1->xy l j=true):=by
    intro e j E;by_cases ao:j=k
    . rw[ao];exact e
    . exact r j (by omega)
   have L:=af (ae K k);have N:=af (ae M k);have a1:((l.getD k default).n.size:Int)<=1048576:=by have:=H.1;omega
   have C:=af (fun W=>ie (l.getD k default).n (l.getD k default).y (l.getD k default).mo (l.getD k default).d (l.getD k default).h (l.getD k default).mi (l.getD k default).s (l.getD k default).t W H.1 H.2);have X:=af (fun W hW=>wL (some ⟨g,o,none⟩) cap l n P (l.getD k default).n W hW hl);have ab:=af (fun j (E:j<n) W=>od (l.getD k default).n (l.getD j default).n W a1 (by have:=(HS j E).1;omega));have G:Hid (∀W,Below w.heap.size w W->∀j,j<n->W.cell? ⟨g,o+j*8,none⟩=some (.string (l.getD j default).n)):=by
    intro W hW j E;obtain⟨g',o',e',_,ad⟩:=HR.later hW (by have:=ae P;omega);simp only[a0l,a0A,a0Q]at e';obtain⟨rfl,rfl⟩:=e';exact(ad j (by have:=ae P;omega)).1
   have J:Hid (fi (l.getD k default)=gQ (l.getD k default).n (l.getD k default).y (l.getD k default).mo (l.getD k default).d (l.getD k default).h (l.getD k default).mi (l.getD k default).s (l.getD k default).t):=rfl;clear hc hk r z;generalize fi (l.getD k default)=be at *;go_wp2_with fail;apply(C _).mono;rintro e z1⟨rfl,U⟩;rw[←ae J];have p:=af (aj c U);have al:=ae G _ (ae p) k (ae x);clear U c0 c1 c2 c3 c4 c5 c6 c7 J C;cases be
   . have HP:=af (ae I (by rw[ae f];rfl));go_wp2;go_ret;exact⟨am HP.symm,p⟩
   .
    go_wp2_with fail;apply(X _ (HR.later p)).mono;rintro e z2⟨rfl,V⟩;rw[V];clear V;generalize atN l (l.getD k default).n=A at *;by_cases hA:A=(k:Int)
    .
     subst hA;go_wp2_with fail
     go_loopw [4] (fun q wr=>∃m:Nat,m<=n/\q = .int .i64 m/\(∀j,j<m->gr (l.getD k default).n.data.toList (l.getD j default).n.data.toList=false)/\Below w.heap.size w wr) (fun q _=>n-(intOf q).toNat)
     case atStart=>exact⟨0,a0g _,rfl,fun j E=>absurd E (by omega),p⟩
     case round=>
      obtain⟨m,hm,rfl,T,b⟩:=hrel;have F:=af T;have v:=af b;clear T b al;by_cases B:m<n
      .
       have a4:(m:Int)<(n:Int):=(by omega);have d0:=ae G _ (ae v) k (ae x);have d1:=ae G _ (ae v) m B;have Q:=af (ae ab m B);have Z:=af (ae L m B);have O:=af B;have Y:Hid (gr (l.getD k default).n.data.toList (l.getD m default).n.data.toList=false->∀j,j<m+1->gr (l.getD k default).n.data.toList (l.getD j default).n.data.toList=false):=by
        intro e j E;by_cases a0:j=m
        . rw[a0];exact e
        . exact F j (by omega)
       clear hm F;generalize gr (l.getD k default).n.data.toList (l.getD m default).n.data.toList=u at *;cases u
       .
        have HX:=af (ae Y rfl);go_wp2_with fail
        go_quiet ((go_at_call 81;exact a1i (Q _)))
        go_wp2;go_roundw
        case rel=>exact⟨m+1,by have:=ae O;omega,by go_num,HX,below_drewN v _⟩
        case measure=>have:=ae O;simp[intOf];omega
       .
        have HP:=af (ae I (by rw[ae f,ae Z rfl];simp));go_wp2_with fail
        go_quiet ((go_at_call 81;exact a1i (Q _)))
        go_wp2;go_ret;exact⟨am HP.symm,below_drewN v _⟩
      .
       obtain rfl:m=n:=by omega
       have HX:=af (ae aa (by rw[ae f,ae N (ae F)];simp));go_wp2;go_roundw
       case rel=>exact⟨k+1,by have:=ae x;omega,by go_num,HX,v⟩
       case measure=>have:=ae x;simp[intOf];omega
    .
     have HP:=af (ae I (by rw[ae f];simp[hA]));have a2:(A == (k:Int))=false:=by simp[hA]
     go_wp2;go_ret;exact⟨am HP.symm,p⟩
  .
   obtain rfl:k=n:=by omega
   have HY:=af (ae S (ae r));by_cases h6:k<=6
   .
    have ac:(k:Int)<=6:=(by omega);go_wp2;go_ret;exact⟨am (by rw[ae HY];simp[h6]),c⟩
   .
    have ac:¬ (k:Int)<=6:=(by omega);go_wp2;go_ret;exact⟨am (by rw[ae HY];simp[h6]),c⟩
def Fe(n:ByteArray)(y mo d h mi s:Int)(t:ByteArray)(b:Nat)(x:ByteArray)(w:World)(hb:w.cell? ⟨b,0,none⟩=some (.string x))(i:(n.size:Int)<=1048576)(j:(x.size:Int)<=1048576) :
  Ds 107 #[.agg #[n,y,mo,d,h,mi,s,t],.pointer b] w (.bool (cb n.data.toList x.data.toList)):=by
 have a:b<w.heap.size:=World.block_lt_of_cell? _ _ hb;have g:(w.alloc (.cells #[n,y,mo,d,h,mi,s,t] 26)).cell? ⟨b,0,none⟩=some (.string x):=by
  rw[World.cell?_alloc_past _ _ _ a];exact hb
 have f:=af (fun W=>xo n x W i j);clear hb;go_enter func107,ntmps107;go_wp2_with fail;apply(f _).mono;rintro e w1⟨rfl,c⟩;rw[c];clear c;go_wp2;go_ret;exact⟨rfl,cC⟩
def fI(l:List En)(x:ByteArray):Bool:=l.any fun e=>cb e.n.data.toList x.data.toList
def vD{l:List En}{x:ByteArray}{k:Nat}(a:k<l.length)(e:cb (l.getD k default).n.data.toList x.data.toList=true):fI l x=true:=by
 unfold fI;rw[List.any_eq_true];refine⟨l.getD k default,?_,e⟩;simp[List.getD,a]
def sj{l:List En}{x:ByteArray}(h:∀j,j<l.length->cb (l.getD j default).n.data.toList x.data.toList=false):fI l x=false:=by
 unfold fI;rw[List.any_eq_false];intro e b;obtain⟨j,a,rfl⟩:=a1M b;have:=h j a;simp only[List.getD,List.getElem?_eq_getElem a,a1K]at this;simp[this]
def yB(a:Option Addr)(cap:Nat)(l:List En)(n:Nat)(J:l.length=n)(b:Nat)(x:ByteArray)(w:World)(h:iA w a l)(hl:(n:Int)<=1048576)(hb:w.cell? ⟨b,0,none⟩=some (.string x))(hx:(x.size:Int)<=1048576)
  (Q:∀i,i<n->((l.getD i default).n.size:Int)<=1048576) :
  Calls prog 90 #[.slice a n cap,.func (.func 107) #[] #[.pointer b]] w fun e w'=>(∃r:Int,e = .returned (.int .i64 r)/\decide (0<=r)=fI l x/\r<1048577)/\Below w.heap.size w w':=by
 have A:b<w.heap.size:=World.block_lt_of_cell? _ _ hb;have T:=af Q;have S:=af h;have C:=af hb;have F:=af A;have L:=af (fun k (I:k<l.length)=>@vD l x k I);have M:=af (@sj l x);rw[J]at L M;have N:=af J;clear h Q J hb A;go_enter func90,ntmps90;go_wp2_with fail
 go_loopw [5,8] (fun _ i wr=>∃k:Nat,k<=n/\i = .int .i64 k/\(∀j,j<k->cb (l.getD j default).n.data.toList x.data.toList=false)/\Below w.heap.size w wr) (fun _ i _=>n-(intOf i).toNat)
 case atStart=>exact⟨0,a0g _,rfl,fun j P=>absurd P (by omega),a0c _ _⟩
 case round=>
  obtain⟨k,I,rfl,q,v⟩:=hrel;have f:=af q;have c:=af v;clear q v;by_cases m:k<n
  .
   have aa:(k:Int)<(n:Int):=(by omega);obtain⟨g,o,rfl,hg,O⟩:=S.later c (by have:=ae N;omega);obtain⟨c0,c1,c2,c3,c4,V,X,Y⟩:=O k (by have:=ae N;omega);have z:=af m;have E:=af (ae L k m);have R:=af (fun W (Z:Below w.heap.size w W)=>Fe (l.getD k default).n (l.getD k default).y (l.getD k default).mo (l.getD k default).d (l.getD k default).h (l.getD k default).mi (l.getD k default).s (l.getD k default).t b x W ((Z.cell (p:=⟨b,0,none⟩) F).trans C) (T k m) hx);have G:Hid (cb (l.getD k default).n.data.toList x.data.toList=false->∀j,j<k+1->cb (l.getD j default).n.data.toList x.data.toList=false):=by
    intro e j P;by_cases H:j=k
    . rw[H];exact e
    . exact f j (by omega)
   clear O I f m;generalize cb (l.getD k default).n.data.toList x.data.toList=u at *;go_wp2_with fail;apply(R _ (ae c)).mono;rintro e z1⟨rfl,B⟩;have K:=af (aj c B);clear B c0 c1 c2 c3 c4 V X Y;cases u
   .
    have U:=af (ae G rfl);go_wp2;go_roundw
    case rel=>exact⟨k+1,by have:=ae z;omega,by go_num,U,K⟩
    case measure=>have:=ae z;simp[intOf];omega
   . have D:=af (ae E rfl);go_wp2;go_ret;exact⟨⟨(k:Int),rfl,by rw[ae D];simp,by omega⟩,K⟩
  .
   obtain rfl:k=n:=by omega
   have D:=af (ae M (ae f));go_wp2;go_ret;exact⟨⟨-1,rfl,by rw[ae D];rfl,by omega⟩,c⟩
def sE(a:Option Addr)(cap:Nat)(l:List En)(n:Nat)(d:l.length=n)(b:Nat)(x:ByteArray)(w:World)(h:iA w a l)(o:(n:Int)<=1048576)(hb:w.cell? ⟨b,0,none⟩=some (.string x))(p:(x.size:Int)<=1048576)
  (g:∀i,i<n->((l.getD i default).n.size:Int)<=1048576) :
  Ds 106 #[.slice a n cap,.func (.func 107) #[] #[.pointer b]] w (.bool (fI l x)):=by
 have k:=af (yB a cap l n d b x w h o hb p g);clear h hb g d;go_enter func106,ntmps106;go_wp2_with fail;apply k.mono;rintro e w1⟨⟨r,rfl,f,_⟩,c⟩;have m:=af f;have j:=af c;clear f c;go_wp2;go_ret;exact⟨am m,j⟩
def aK(l:List En)(e:En):Int:=if fi e then(if fI l e.n then 3 else if 6<=l.length then 4 else 0)else 1
def cX(c:Int):Value:=if c=0 then .nilIface else .iface 83 (.agg #[c])
def lA(a:Option Addr)(cap:Nat)(l:List En)(n:Nat)(C:l.length=n)(e:En)(m:Int)(w:World)(h:iA w a l)(K:(n:Int)<=1048576)
  (D:∀i,i<n->((l.getD i default).n.size:Int)<=1048576) (J:e.n.size<=1048576) (L:(e.t.size:Int)<=9223372036854775807) (z:w.cell? ⟨2,0,none⟩=some (.int .i64 m)) :
  Calls prog 66 #[.slice a n cap,.agg e] w fun f w'=>f = .returned (cX (aK l e))/\Below w.heap.size w w':=by
 have E:Hid ((w.alloc (.cells e 26)).cell? ⟨2,0,none⟩=some (.int .i64 m)):=by
  show _=_;rw[World.cell?_alloc_past _ _ _ (World.block_lt_of_cell? _ _ z)];exact z
 have j:=af (jO e.n e.y e.mo e.d e.h e.mi e.s e.t m _ J L E);have F:=af h;have G:=af D;have A:=af C;have x:(e.n.size:Int)<=1048576:=by omega
 clear h D z C;cases v:fi e
 .
  have I:aK l e=1:=by simp[aK,v]
  rw[I];go_enter func66,ntmps66;go_wp2_with fail;apply j.mono;rintro f w1⟨rfl,b⟩;rw[show gQ e.n e.y e.mo e.d e.h e.mi e.s e.t=false from v];have c:=af (nM b).2;clear b;go_wp2;go_ret;exact⟨rfl,c⟩
 .
  have k:Hid (aK l e=if fI l e.n then 3 else if 6<=n then 4 else 0):=by show _=_;rw[←ae A];simp[aK,v]
  go_enter func66,ntmps66;go_wp2_with fail;apply j.mono;rintro f w1⟨rfl,b⟩;rw[show gQ e.n e.y e.mo e.d e.h e.mi e.s e.t=true from v];have c:=af (nM b).2;have q:=af (nM b).1;clear b;have p:=af (sE a cap l n A w.heap.size e.n w1 (F.later c) K q.1.1 x G);clear q j;generalize fI l e.n=u at *;go_wp2_with fail;apply p.mono;rintro f w2⟨rfl,r⟩;have g:=af (aj c r);clear r p;cases u
  .
   by_cases B:6<=n
   .
    have H:(6:Int)<=(n:Int):=(by omega);have o:Hid (aK l e=4):=by show _=_;rw[ae k];simp[B]
    go_wp2;go_ret;exact⟨by rw[ae o];rfl,g⟩
   .
    have o:Hid (aK l e=0):=by show _=_;rw[ae k];simp[B]
    go_wp2;go_ret;exact⟨by rw[ae o];rfl,g⟩
  .
   have o:Hid (aK l e=3):=by show _=_;rw[ae k];simp
   go_wp2;go_ret;exact⟨by rw[ae o];rfl,g⟩
