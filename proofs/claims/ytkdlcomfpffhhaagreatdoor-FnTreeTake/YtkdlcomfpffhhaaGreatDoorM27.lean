/- Of what the proof is made. -/
import Derived.Test.YtkdlcomfpffhhaaGreatDoorM8
import Derived.Test.YtkdlcomfpffhhaaGreatDoorM20
import Derived.RangeFuncNested
import Derived.RangeFuncBound
import Derived.RangeFuncCalls
import Derived.RangeFuncLeaves
import Derived.RangeFuncBox
import Derived.Shelf.Abstract
import Derived.Shelf.RegionOpen
import Derived.WalkKit
import Derived.OwnWalkIn
import Derived.TacticsInMore
import Derived.LoopNIn
import Derived.LoopIn
import Derived.Maps.AppendAt
import Derived.Test.YtkdlcomfpffhhaaGreatDoorTo3
import Derived.Test.YtkdlcomfpffhhaaGreatDoorM26
set_option linter.unusedSimpArgs false
set_option linter.unusedVariables false
namespace Go.Proofs.YtkdlcomfpffhhaaGreatDoor
open Go.RowKit
variable {w:World}
def iX(e:En):List Value:=[.string e.n,.int .i64 e.y,.int .i64 e.mo,.int .i64 e.d,.int .i64 e.h,.int .i64 e.mi,.int .i64 e.s,.string e.t]
theorem Hu(e:En):(iX e).length=8:=rfl
theorem ik(e:En):∀u∈iX e,u.oneCell'=true:=by
 intro u a;simp only[iX,a1h,a1M,a1C]at a;rcases a with rfl|rfl|rfl|rfl|rfl|rfl|rfl|rfl<;>rfl
abbrev ie(w:World)(base:Nat)(v:Value)(l:List En):Prop:=aN 32 8 iX w base v l
theorem NO{g o:Nat}{e:En}(h:∀j,j<8->w.cell? ⟨g,o+j,none⟩=(iX e)[j]?):MJ w g o e:=
 ⟨h 0 (by omega),h 1 (by omega),h 2 (by omega),h 3 (by omega),h 4 (by omega),h 5 (by omega),h 6 (by omega),h 7 (by omega)⟩
theorem vL{base g cap n:Nat}{l:List En}(c:l.length=n)(h:ie w base (.slice (some ⟨g,0,none⟩) n cap) l)(i:Nat)(a:i<n):MJ w g (i*8) (l.getD i default):=
 NO fun j b=>(aN.at Hu default c h i j a b).1
theorem im{base cap n:Nat}{a:Option Addr}{l:List En}(c:l.length=n)(h:ie w base (.slice a n cap) l):lT w a l:=by
 intro b;obtain⟨g,rfl⟩:=h.somes b;refine⟨g,0,rfl,h.below.2,fun i d=>?_⟩;rw[a0B];exact vL c h i (by omega)
theorem Tryz.infoEnt:(Tryz.prog.info? 32).map (fun i=>(i.zero,i.size,i.bytes))=some (some (.agg #[.string ⟨#[]⟩,.int .i64 0,.int .i64 0,.int .i64 0,.int .i64 0,.int .i64 0,.int .i64 0,.string ⟨#[]⟩]),8,80):=by kernel_rfl
end Go.Proofs.YtkdlcomfpffhhaaGreatDoor
namespace Go.Proofs.YtkdlcomfpffhhaaGreatDoor
open Go.RowKit Go.Shelf
attribute [local go_sem] Oper.semAt_some
theorem AO{w w':World}(h:Below w.heap.size w w'):w.grownBy w' none:=⟨h.os,h.tape,h.output,h.size,fun k a _=>h.block k a⟩
end Go.Proofs.YtkdlcomfpffhhaaGreatDoor
namespace Go.Proofs.YtkdlcomfpffhhaaGreatDoor
open Go.RowKit Go.Shelf
attribute [local go_sem] Oper.semAt_some
theorem pj{W x1:World}{n₀:Nat}{e:TypeId}{size k:Nat}{v:Value}{xs:List Value}(a:W.ownsRow n₀ e size v k xs)(b:Below W.heap.size W x1):x1.ownsRow n₀ e size v k xs:=
 a.kept (AO b) (by cases v.ownBlock with
  | none=>exact .inl rfl
  | some _=>exact .inr (by simp))
end Go.Proofs.YtkdlcomfpffhhaaGreatDoor
namespace Go.Proofs.YtkdlcomfpffhhaaGreatDoor
open Go.RowKit Go.Shelf
attribute [local go_sem] Oper.semAt_some
end Go.Proofs.YtkdlcomfpffhhaaGreatDoor
set_option linter.unusedSimpArgs false
set_option linter.unusedVariables false
set_option maxHeartbeats 4000000
namespace Go.Proofs.YtkdlcomfpffhhaaGreatDoor
open Go.Proofs.Tryz
open Go.RowKit
def jk(e:En):Bool:=fV e.n e.y e.mo e.d e.h e.mi e.s e.t
def pO(l:List En)(i:Nat):Bool:=(List.range l.length).all fun k=>!ce (l.getD i default).n.data.toList (l.getD k default).n.data.toList
def sw(l:List En)(i:Nat):Bool:=jk (l.getD i default)&&(decide (atN l (l.getD i default).n=(i:Int))&&pO l i)
def dS(l:List En):Bool:=(List.range l.length).all (sw l)&&decide (l.length<=6)
theorem Ny{l:List En}{i:Nat}(a:i<l.length)(h:sw l i=false):dS l=false:=by
 have:(List.range l.length).all (sw l)=false:=by
  rw[a2r];exact⟨i,List.mem_range.2 a,by simp[h]⟩
 simp[dS,this]
theorem DG{l:List En}(h:∀i,i<l.length->sw l i=true):dS l=decide (l.length<=6):=by
 have:(List.range l.length).all (sw l)=true:=by
  rw[a06];exact fun i a=>h i (List.mem_range.1 a)
 simp[dS,this]
theorem KV{l:List En}{i k:Nat}(a:k<l.length)(h:ce (l.getD i default).n.data.toList (l.getD k default).n.data.toList=true):pO l i=false:=by
 unfold pO;rw[a2r];exact⟨k,List.mem_range.2 a,by rw[h];decide⟩
theorem xE{l:List En}{i:Nat}(h:∀k,k<l.length->ce (l.getD i default).n.data.toList (l.getD k default).n.data.toList=false):pO l i=true:=by
 unfold pO;rw[a06];exact fun k a=>by rw[h k (List.mem_range.1 a)];rfl
theorem tS(a:Option Addr)(cap:Nat)(l:List En)(n:Nat)(hn:l.length=n)(w:World)(h:lT w a l)(hl:(n:Int)<=1048576)
  (hs:∀i,i<n->(l.getD i default).n.size<=1048576/\((l.getD i default).t.size:Int)<=9223372036854775807) :
  CD 70 #[.slice a n cap] w (.bool (dS l)):=by
 have HS:=af hs;have HR:=af h;have R:=af (fun i (hi:i<l.length)=>@Ny l i hi);have S:=af (@DG l);have K:=af (fun i k (hk:k<l.length)=>@KV l i k hk);have M:=af (fun i=>@xE l i);rw[hn]at R S K M;have P:=af hn;clear h hs hn;go_enter func70,ntmps70;go_wp2_with fail
 go_loopw [3,4] (fun i _ wr=>∃k:Nat,k<=n/\i = .int .i64 k/\(∀j,j<k->sw l j=true)/\Below w.heap.size w wr) (fun i _ _=>n-(intOf i).toNat)
 case atStart=>exact⟨0,a0h _,rfl,fun j E=>absurd E (by omega),a0c _ _⟩
 case round=>
  obtain⟨k,hk,rfl,D,b⟩:=hrel;have r:=af D;have c:=af b;clear D b;by_cases z:k<n
  .
   have a2:(k:Int)<(n:Int):=by omega
   have RW:=af ((ae HR).later (ae c));obtain⟨g,o,rfl,hg,hc⟩:=ae RW (by have:=ae P;omega);obtain⟨c0,c1,c2,c3,c4,c5,c6,c7⟩:=hc k (by have:=ae P;omega);have x:=af z;have H:=af (ae HS k z);have I:=af (ae R k z);have f:Hid (sw l k=(jk (l.getD k default)&&(decide (atN l (l.getD k default).n=(k:Int))&&pO l k))):=rfl;have aa:Hid (sw l k=true->∀j,j<k+1->sw l j=true):=by
    intro e j E;by_cases an:j=k
    . rw[an];exact e
    . exact ae r j (by omega)
   have L:=af (ae K k);have N:=af (ae M k);have a0:((l.getD k default).n.size:Int)<=1048576:=by have:=(ae H).1;omega
   have C:=af (fun W=>gG (l.getD k default).n (l.getD k default).y (l.getD k default).mo (l.getD k default).d (l.getD k default).h (l.getD k default).mi (l.getD k default).s (l.getD k default).t W (ae H).1 (ae H).2);have X:=af (fun W hW=>Iz (some ⟨g,o,none⟩) cap l n (ae P) (l.getD k default).n W hW hl);have ab:=af (fun j (E:j<n) W=>iP (l.getD k default).n (l.getD j default).n W a0 (by have:=(ae HS j E).1;omega));have G:Hid (∀W,Below w.heap.size w W->∀j,j<n->W.cell? ⟨g,o+j*8,none⟩=some (.string (l.getD j default).n)):=by
    intro W hW j E;obtain⟨g',o',e',_,ad⟩:=(ae HR).later hW (by have:=ae P;omega);simp only[a0m,a0F,a1a]at e';obtain⟨rfl,rfl⟩:=e';exact(ad j (by have:=ae P;omega)).1
   have J:Hid (jk (l.getD k default)=fV (l.getD k default).n (l.getD k default).y (l.getD k default).mo (l.getD k default).d (l.getD k default).h (l.getD k default).mi (l.getD k default).s (l.getD k default).t):=rfl;clear hc hk r z;generalize jk (l.getD k default)=be at *
   go_wp2_with fail;refine(ae C _).mono ?_;rintro e z1 ⟨rfl,U⟩;rw[←ae J];have p:=af (am (ae c) U);have al:=ae G _ (ae p) k (ae x);clear U c0 c1 c2 c3 c4 c5 c6 c7 J C;cases be
   . have HP:=af (ae I (by rw[ae f];rfl));go_wp2;go_ret;exact⟨aj (ae HP).symm,ae p⟩
   .
    go_wp2_with fail;refine(ae X _ ((ae HR).later (ae p))).mono ?_;rintro e z2 ⟨rfl,V⟩;rw[V];clear V;generalize atN l (l.getD k default).n=A at *
    by_cases hA:A=(k:Int)
    .
     subst hA;go_wp2_with fail
     go_loopw [4] (fun q wr=>∃m:Nat,m<=n/\q = .int .i64 m/\(∀j,j<m->ce (l.getD k default).n.data.toList (l.getD j default).n.data.toList=false)/\Below w.heap.size w wr) (fun q _=>n-(intOf q).toNat)
     case atStart=>exact⟨0,a0h _,rfl,fun j E=>absurd E (by omega),ae p⟩
     case round=>
      obtain⟨m,hm,rfl,T,b⟩:=hrel;have F:=af T;have v:=af b;clear T b al;by_cases B:m<n
      .
       have a3:(m:Int)<(n:Int):=by omega
       have d0:=ae G _ (ae v) k (ae x);have d1:=ae G _ (ae v) m B;have Q:=af (ae ab m B);have Z:=af (ae L m B);have O:=af B;have Y:Hid (ce (l.getD k default).n.data.toList (l.getD m default).n.data.toList=false->∀j,j<m+1->ce (l.getD k default).n.data.toList (l.getD j default).n.data.toList=false):=by
        intro e j E;by_cases ao:j=m
        . rw[ao];exact e
        . exact ae F j (by omega)
       clear hm F;generalize ce (l.getD k default).n.data.toList (l.getD m default).n.data.toList=u at *
       cases u
       .
        have HX:=af (ae Y rfl);go_wp2_with fail
        go_quiet ((go_at_call 28;exact a1b (ae Q _)))
        go_wp2;go_roundw
        case rel=>exact⟨m+1,by have:=ae O;omega,by go_num,ae HX,below_drewN (ae v) _⟩
        case measure=>have:=ae O;simp[intOf];omega
       .
        have HP:=af (ae I (by rw[ae f,ae Z rfl];simp));go_wp2_with fail
        go_quiet ((go_at_call 28;exact a1b (ae Q _)))
        go_wp2;go_ret;exact⟨aj (ae HP).symm,below_drewN (ae v) _⟩
      .
       obtain rfl:m=n:=by omega
       have HX:=af (ae aa (by rw[ae f,ae N (ae F)];simp));go_wp2;go_roundw
       case rel=>exact⟨k+1,by have:=ae x;omega,by go_num,ae HX,ae v⟩
       case measure=>have:=ae x;simp[intOf];omega
    .
     have HP:=af (ae I (by rw[ae f];simp[hA]));have a1:(A == (k:Int))=false:=by simp[hA]
     go_wp2;go_ret;exact⟨aj (ae HP).symm,ae p⟩
  .
   obtain rfl:k=n:=by omega
   have HY:=af (ae S (ae r));by_cases h6:k<=6
   .
    have ac:(k:Int)<=6:=by omega
    go_wp2;go_ret;exact⟨aj (by rw[ae HY];simp[h6]),ae c⟩
   .
    have ac:¬ (k:Int)<=6:=by omega
    go_wp2;go_ret;exact⟨aj (by rw[ae HY];simp[h6]),ae c⟩
theorem zd(n:ByteArray)(y mo d h mi s:Int)(t:ByteArray)(b:Nat)(x:ByteArray)(w:World)(hb:w.cell? ⟨b,0,none⟩=some (.string x))(i:(n.size:Int)<=1048576)(j:(x.size:Int)<=1048576) :
  CD 121 #[.agg #[.string n,.int .i64 y,.int .i64 mo,.int .i64 d,.int .i64 h,.int .i64 mi,.int .i64 s,.string t],.pointer (some ⟨b,0,none⟩)] w (.bool (aZ n.data.toList x.data.toList)):=by
 have a:b<w.heap.size:=World.block_lt_of_cell? _ _ hb;have g:(w.alloc (.cells #[.string n,.int .i64 y,.int .i64 mo,.int .i64 d,.int .i64 h,.int .i64 mi,.int .i64 s,.string t] 32)).cell? ⟨b,0,none⟩=some (.string x):=by
  rw[World.cell?_alloc_past _ _ _ a];exact hb
 have f:=af (fun W=>kR n x W i j);clear hb;go_enter func121,ntmps121;go_wp2_with fail;refine(ae f _).mono ?_;rintro e w1 ⟨rfl,c⟩;rw[c];clear c;go_wp2;go_ret;exact⟨rfl,(a0c _ _).alloc (a0a _) _⟩
def jF(l:List En)(x:ByteArray):Bool:=l.any fun e=>aZ e.n.data.toList x.data.toList
theorem qZ{l:List En}{x:ByteArray}{k:Nat}(a:k<l.length)(e:aZ (l.getD k default).n.data.toList x.data.toList=true):jF l x=true:=by
 unfold jF;rw[List.any_eq_true];refine⟨l.getD k default,?_,e⟩;simp[List.getD,a]
theorem ox{l:List En}{x:ByteArray}(h:∀j,j<l.length->aZ (l.getD j default).n.data.toList x.data.toList=false):jF l x=false:=by
 unfold jF;rw[a3V];intro e b;obtain⟨j,a,rfl⟩:=a2b b;have:=h j a;simp only[List.getD,List.getElem?_eq_getElem a,a1q]at this;simp[this]
theorem tE(a:Option Addr)(cap:Nat)(l:List En)(n:Nat)(J:l.length=n)(b:Nat)(x:ByteArray)(w:World)(h:lT w a l)(hl:(n:Int)<=1048576)(hb:w.cell? ⟨b,0,none⟩=some (.string x))(hx:(x.size:Int)<=1048576)
  (Q:∀i,i<n->((l.getD i default).n.size:Int)<=1048576) :
  Calls prog 163 #[.slice a n cap,.func (.func 121) #[] #[.pointer (some ⟨b,0,none⟩)]] w fun e w'=>(∃r:Int,e = .returned (.int .i64 r)/\decide (0<=r)=jF l x/\r<1048577)/\Below w.heap.size w w':=by
 have A:b<w.heap.size:=World.block_lt_of_cell? _ _ hb;have T:=af Q;have S:=af h;have C:=af hb;have F:=af A;have L:=af (fun k (I:k<l.length)=>@qZ l x k I);have M:=af (@ox l x);rw[J]at L M;have N:=af J;clear h Q J hb A;go_enter func163,ntmps163;go_wp2_with fail
 go_loopw [5,8] (fun _ i wr=>∃k:Nat,k<=n/\i = .int .i64 k/\(∀j,j<k->aZ (l.getD j default).n.data.toList x.data.toList=false)/\Below w.heap.size w wr) (fun _ i _=>n-(intOf i).toNat)
 case atStart=>exact⟨0,a0h _,rfl,fun j P=>absurd P (by omega),a0c _ _⟩
 case round=>
  obtain⟨k,I,rfl,q,v⟩:=hrel;have f:=af q;have c:=af v;clear q v;by_cases m:k<n
  .
   have aa:(k:Int)<(n:Int):=by omega
   obtain⟨g,o,rfl,hg,O⟩:=(ae S).later (ae c) (by have:=ae N;omega);obtain⟨c0,c1,c2,c3,c4,V,X,Y⟩:=O k (by have:=ae N;omega);have z:=af m;have E:=af (ae L k m);have R:=af (fun W (Z:Below w.heap.size w W)=>zd (l.getD k default).n (l.getD k default).y (l.getD k default).mo (l.getD k default).d (l.getD k default).h (l.getD k default).mi (l.getD k default).s (l.getD k default).t b x W ((Z.cell (p:=⟨b,0,none⟩) (ae F)).trans (ae C)) (ae T k m) hx);have G:Hid (aZ (l.getD k default).n.data.toList x.data.toList=false->∀j,j<k+1->aZ (l.getD j default).n.data.toList x.data.toList=false):=by
    intro e j P;by_cases H:j=k
    . rw[H];exact e
    . exact ae f j (by omega)
   clear O I f m;generalize aZ (l.getD k default).n.data.toList x.data.toList=u at *
   go_wp2_with fail;refine(ae R _ (ae c)).mono ?_;rintro e z1 ⟨rfl,B⟩;have K:=af (am (ae c) B);clear B c0 c1 c2 c3 c4 V X Y;cases u
   .
    have U:=af (ae G rfl);go_wp2;go_roundw
    case rel=>exact⟨k+1,by have:=ae z;omega,by go_num,ae U,ae K⟩
    case measure=>have:=ae z;simp[intOf];omega
   . have D:=af (ae E rfl);go_wp2;go_ret;exact⟨⟨(k:Int),rfl,by rw[ae D];simp,by omega⟩,ae K⟩
  .
   obtain rfl:k=n:=by omega
   have D:=af (ae M (ae f));go_wp2;go_ret;exact⟨⟨-1,rfl,by rw[ae D];rfl,by omega⟩,ae c⟩
theorem oA(a:Option Addr)(cap:Nat)(l:List En)(n:Nat)(d:l.length=n)(b:Nat)(x:ByteArray)(w:World)(h:lT w a l)(o:(n:Int)<=1048576)(hb:w.cell? ⟨b,0,none⟩=some (.string x))(p:(x.size:Int)<=1048576)
  (g:∀i,i<n->((l.getD i default).n.size:Int)<=1048576) :
  CD 120 #[.slice a n cap,.func (.func 121) #[] #[.pointer (some ⟨b,0,none⟩)]] w (.bool (jF l x)):=by
 have k:=af (tE a cap l n d b x w h o hb p g);clear h hb g d;go_enter func120,ntmps120;go_wp2_with fail;refine(ae k).mono ?_;rintro e w1 ⟨⟨r,rfl,f,_⟩,c⟩;have m:=af f;have j:=af c;clear f c;go_wp2;go_ret;exact⟨aj (ae m),ae j⟩
def cj(l:List En)(e:En):Int:=if jk e then(if jF l e.n then 3 else if 6<=l.length then 4 else 0)else 1
def io(c:Int):Value:=if c=0 then .nilIface else .iface 121 (.agg #[.int .i64 c])
theorem Ab(a:Option Addr)(cap:Nat)(l:List En)(n:Nat)(C:l.length=n)(e:En)(m:Int)(w:World)(h:lT w a l)(K:(n:Int)<=1048576)
  (D:∀i,i<n->((l.getD i default).n.size:Int)<=1048576) (J:e.n.size<=1048576) (L:(e.t.size:Int)<=9223372036854775807) (z:w.cell? ⟨2,0,none⟩=some (.int .i64 m)) :
  Calls prog 80 #[.slice a n cap,.agg #[.string e.n,.int .i64 e.y,.int .i64 e.mo,.int .i64 e.d,.int .i64 e.h,.int .i64 e.mi,.int .i64 e.s,.string e.t]] w fun f w'=>f = .returned (io (cj l e))/\Below w.heap.size w w':=by
 have E:Hid ((w.alloc (.cells #[.string e.n,.int .i64 e.y,.int .i64 e.mo,.int .i64 e.d,.int .i64 e.h,.int .i64 e.mi,.int .i64 e.s,.string e.t] 32)).cell? ⟨2,0,none⟩=some (.int .i64 m)):=by
  show _=_;rw[World.cell?_alloc_past _ _ _ (World.block_lt_of_cell? _ _ z)];exact z
 have j:=af (kj e.n e.y e.mo e.d e.h e.mi e.s e.t m _ J L (ae E));have F:=af h;have G:=af D;have A:=af C;have x:(e.n.size:Int)<=1048576:=by omega
 clear h D z C;cases v:jk e
 .
  have I:cj l e=1:=by simp[cj,v]
  rw[I];go_enter func80,ntmps80;go_wp2_with fail;refine(ae j).mono ?_;rintro f w1 ⟨rfl,b⟩;rw[show fV e.n e.y e.mo e.d e.h e.mi e.s e.t=false from v];have c:=af (kE b).2;clear b;go_wp2;go_ret;exact⟨rfl,ae c⟩
 .
  have k:Hid (cj l e=if jF l e.n then 3 else if 6<=n then 4 else 0):=by show _=_;rw[←ae A];simp[cj,v]
  go_enter func80,ntmps80;go_wp2_with fail;refine(ae j).mono ?_;rintro f w1 ⟨rfl,b⟩;rw[show fV e.n e.y e.mo e.d e.h e.mi e.s e.t=true from v];have c:=af (kE b).2;have q:=af (kE b).1;clear b;have p:=af (oA a cap l n (ae A) w.heap.size e.n w1 ((ae F).later (ae c)) K (ae q).1.1 x (ae G));clear q j;generalize jF l e.n=u at *
  go_wp2_with fail;refine(ae p).mono ?_;rintro f w2 ⟨rfl,r⟩;have g:=af (am (ae c) r);clear r p;cases u
  .
   by_cases B:6<=n
   .
    have H:(6:Int)<=(n:Int):=by omega
    have o:Hid (cj l e=4):=by show _=_;rw[ae k];simp[B]
    go_wp2;go_ret;exact⟨by rw[ae o];rfl,ae g⟩
   .
    have o:Hid (cj l e=0):=by show _=_;rw[ae k];simp[B]
    go_wp2;go_ret;exact⟨by rw[ae o];rfl,ae g⟩
  .
   have o:Hid (cj l e=3):=by show _=_;rw[ae k];simp
   go_wp2;go_ret;exact⟨by rw[ae o];rfl,ae g⟩
end Go.Proofs.YtkdlcomfpffhhaaGreatDoor
