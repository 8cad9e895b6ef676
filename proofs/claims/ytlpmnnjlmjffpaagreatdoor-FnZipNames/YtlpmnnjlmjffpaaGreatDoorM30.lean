/- Of what the proof is made: 4 texts, one behind the other. -/
import Derived.Test.YtlpmnnjlmjffpaaGreatDoorM28
import Derived.Defers
import Derived.Recover
import Derived.Test.YtlpmnnjlmjffpaaGreatDoorM24
import Derived.Test.YtlpmnnjlmjffpaaGreatDoorM29
set_option maxRecDepth 100000
set_option linter.unusedSimpArgs false
set_option linter.unusedVariables false
set_option maxHeartbeats 4000000
namespace Go.Proofs.YtlpmnnjlmjffpaaGreatDoor
open Go.Proofs.Tryz
open Go.RowKit Corb
theorem Bw(w:World) :
  CallsD prog 177 #[] .returning w fun e u' w'=>e = .returned (.tuple #[])/\u' = .returning/\w'=w:=by
 refine callsD_of_wpS func177 rfl fun a c b=>?_;apply wpS_seq;apply wpS_region;simp[wpOpsS,go_sem,recoverD,b,ntmps177,Exit.thenS];refine wpS_of_wp ?_;go_wp2_with fail;cases a
 simp_all [bodyPostS,results,results177]
theorem xM(w:World) :
  CallsD prog 177 #[] (.panicking [{ v:=.iface 244 (.agg #[]),recovered:=false }]) w fun e u' w'=>e = .returned (.tuple #[])/\u' = .panicking [{ v:=.iface 244 (.agg #[]),recovered:=true }]/\Below w.heap.size w w':=by
 refine callsD_of_wpS func177 rfl fun d c b=>?_;apply wpS_seq;apply wpS_region;simp[wpOpsS,go_sem,recoverD,b,ntmps177,Exit.thenS];have a:(Instr.typeAssert (.iface 244 (.agg #[])) 20 244 true).run prog w = .ok (.tuple #[.agg #[],.bool true]) w:=by kernel_rfl
 refine wpS_of_wp ?_;go_wp2_with fail;simp[bodyPostS,results,results177];exact(a0c _ _).alloc (a0a _) _
def UnP(w:World)(b:Nat)(s:ByteArray)(d:Option (List UInt8×Nat))(e:Ending)(w':World):Prop:=
 KU b w w'/\match d with
  | none=>e = .returned (.bool false)
  | some (T,q)=>e = .returned (.bool true)/\Sou w' b s q T
theorem xo(b p:Nat)(s:ByteArray)(T:List UInt8)(w:World)(h:Sou w b s p T)(j:T.length<=300)(k:p<=8*s.size)(l:s.size<=2000000)(i:dO w)(hb:2<b) :
  Calls prog 150 #[.pointer (some ⟨b,0,none⟩)] w (UnP w b s (eE (ai s) (8*s.size) p T)):=by
 have HP:=af (Gx b p s T w h j k l i hb);have g:=h.lt;clear h j k l i hb;generalize eE (ai s) (8*s.size) p T=d at *
 unfold cP at HP;unfold UnP;rcases d with _|⟨T',q⟩
 .
  go_enter_defers func150,ntmps150
  go_wp2_with fail;refine(ae HP).mono ?_;rintro e x1 ⟨a,rfl⟩;have c:=af (a0b a (show b<x1.heap.size from a0j g a.1.size));clear a HP;unfold jE;refine leaves_cons (f:=177) (args:=#[]) (by simp) (by simp[go_sem]) ?_;refine(xM x1).mono ?_;rintro e u' w'' ⟨rfl,rfl,m⟩;have n:=(ae c).1.later m (ae c).2;simp[Leaves,settle,results,results150,go_sem];exact n
 .
  go_enter_defers func150,ntmps150
  go_wp2_with fail;refine(ae HP).mono ?_;rintro e x1 ⟨a,rfl,s1⟩;have c:=af (a0b a s1);clear a s1 HP;go_wp2_with fail;refine leaves_cons (f:=177) (args:=#[]) (by simp) (by simp[go_sem]) ?_;refine(Bw x1).mono ?_;rintro e u' w'' ⟨rfl,rfl,rfl⟩;simp[Leaves,settle,results,results150,go_sem];exact ae c
def jW(e:En):Bool:=gn e.n e.y e.mo e.d e.h e.mi e.s e.t
def qu(l:List En)(i:Nat):Bool:=(List.range l.length).all fun k=>!fs (l.getD i default).n.data.toList (l.getD k default).n.data.toList
def tr(l:List En)(i:Nat):Bool:=jW (l.getD i default)&&(decide (atN l (l.getD i default).n=(i:Int))&&qu l i)
def bC(l:List En):Bool:=(List.range l.length).all (tr l)&&decide (l.length<=6)
theorem OV{l:List En}{i:Nat}(a:i<l.length)(h:tr l i=false):bC l=false:=by
 have:(List.range l.length).all (tr l)=false:=by
  rw[a3N];exact⟨i,List.mem_range.2 a,by simp[h]⟩
 simp[bC,this]
theorem EI{l:List En}(h:∀i,i<l.length->tr l i=true):bC l=decide (l.length<=6):=by
 have:(List.range l.length).all (tr l)=true:=by
  rw[a05];exact fun i a=>h i (List.mem_range.1 a)
 simp[bC,this]
theorem Mj{l:List En}{i k:Nat}(a:k<l.length)(h:fs (l.getD i default).n.data.toList (l.getD k default).n.data.toList=true):qu l i=false:=by
 unfold qu;rw[a3N];exact⟨k,List.mem_range.2 a,by rw[h];decide⟩
theorem yw{l:List En}{i:Nat}(h:∀k,k<l.length->fs (l.getD i default).n.data.toList (l.getD k default).n.data.toList=false):qu l i=true:=by
 unfold qu;rw[a05];exact fun k a=>by rw[h k (List.mem_range.1 a)];rfl
theorem uz(a:Option Addr)(cap:Nat)(l:List En)(n:Nat)(hn:l.length=n)(w:World)(h:jK w a l)(hl:(n:Int)<=1048576)
  (hs:∀i,i<n->(l.getD i default).n.size<=1048576/\((l.getD i default).t.size:Int)<=9223372036854775807) :
  CD 56 #[.slice a n cap] w (.bool (bC l)):=by
 have HS:=af hs;have HR:=af h;have R:=af (fun i (hi:i<l.length)=>@OV l i hi);have S:=af (@EI l);have K:=af (fun i k (hk:k<l.length)=>@Mj l i k hk);have M:=af (fun i=>@yw l i);rw[hn]at R S K M;have P:=af hn;clear h hs hn;go_enter func56,ntmps56;go_wp2_with fail
 go_loopw [3,4] (fun i _ wr=>∃k:Nat,k<=n/\i = .int .i64 k/\(∀j,j<k->tr l j=true)/\Below w.heap.size w wr) (fun i _ _=>n-(intOf i).toNat)
 case atStart=>exact⟨0,a0g _,rfl,fun j E=>absurd E (by omega),a0c _ _⟩
 case round=>
  obtain⟨k,hk,rfl,D,b⟩:=hrel;have r:=af D;have c:=af b;clear D b;by_cases z:k<n
  .
   have a3:(k:Int)<(n:Int):=by omega
   have RW:=af ((ae HR).later (ae c));obtain⟨g,o,rfl,hg,hc⟩:=ae RW (by have:=ae P;omega);obtain⟨c0,c1,c2,c3,c4,c5,c6,c7⟩:=hc k (by have:=ae P;omega);have x:=af z;have H:=af (ae HS k z);have I:=af (ae R k z);have f:Hid (tr l k=(jW (l.getD k default)&&(decide (atN l (l.getD k default).n=(k:Int))&&qu l k))):=rfl;have aa:Hid (tr l k=true->∀j,j<k+1->tr l j=true):=by
    intro e j E;by_cases ao:j=k
    . rw[ao];exact e
    . exact ae r j (by omega)
   have L:=af (ae K k);have N:=af (ae M k);have a1:((l.getD k default).n.size:Int)<=1048576:=by have:=(ae H).1;omega
   have C:=af (fun W=>ia (l.getD k default).n (l.getD k default).y (l.getD k default).mo (l.getD k default).d (l.getD k default).h (l.getD k default).mi (l.getD k default).s (l.getD k default).t W (ae H).1 (ae H).2);have X:=af (fun W hW=>yX (some ⟨g,o,none⟩) cap l n (ae P) (l.getD k default).n W hW hl);have ab:=af (fun j (E:j<n) W=>lH (l.getD k default).n (l.getD j default).n W a1 (by have:=(ae HS j E).1;omega));have G:Hid (∀W,Below w.heap.size w W->∀j,j<n->W.cell? ⟨g,o+j*8,none⟩=some (.string (l.getD j default).n)):=by
    intro W hW j E;obtain⟨g',o',e',_,ad⟩:=(ae HR).later hW (by have:=ae P;omega);simp only[a0k,a0F,a03]at e';obtain⟨rfl,rfl⟩:=e';exact(ad j (by have:=ae P;omega)).1
   have J:Hid (jW (l.getD k default)=gn (l.getD k default).n (l.getD k default).y (l.getD k default).mo (l.getD k default).d (l.getD k default).h (l.getD k default).mi (l.getD k default).s (l.getD k default).t):=rfl;clear hc hk r z;generalize jW (l.getD k default)=be at *
   go_wp2_with fail;refine(ae C _).mono ?_;rintro e z1 ⟨rfl,U⟩;rw[←ae J];have p:=af (ak (ae c) U);have al:=ae G _ (ae p) k (ae x);clear U c0 c1 c2 c3 c4 c5 c6 c7 J C;cases be
   . have HP:=af (ae I (by rw[ae f];rfl));go_wp2;go_ret;exact⟨am (ae HP).symm,ae p⟩
   .
    go_wp2_with fail;refine(ae X _ ((ae HR).later (ae p))).mono ?_;rintro e z2 ⟨rfl,V⟩;rw[V];clear V;generalize atN l (l.getD k default).n=A at *
    by_cases hA:A=(k:Int)
    .
     subst hA;go_wp2_with fail
     go_loopw [4] (fun q wr=>∃m:Nat,m<=n/\q = .int .i64 m/\(∀j,j<m->fs (l.getD k default).n.data.toList (l.getD j default).n.data.toList=false)/\Below w.heap.size w wr) (fun q _=>n-(intOf q).toNat)
     case atStart=>exact⟨0,a0g _,rfl,fun j E=>absurd E (by omega),ae p⟩
     case round=>
      obtain⟨m,hm,rfl,T,b⟩:=hrel;have F:=af T;have v:=af b;clear T b al;by_cases B:m<n
      .
       have a4:(m:Int)<(n:Int):=by omega
       have d0:=ae G _ (ae v) k (ae x);have d1:=ae G _ (ae v) m B;have Q:=af (ae ab m B);have Z:=af (ae L m B);have O:=af B;have Y:Hid (fs (l.getD k default).n.data.toList (l.getD m default).n.data.toList=false->∀j,j<m+1->fs (l.getD k default).n.data.toList (l.getD j default).n.data.toList=false):=by
        intro e j E;by_cases a0:j=m
        . rw[a0];exact e
        . exact ae F j (by omega)
       clear hm F;generalize fs (l.getD k default).n.data.toList (l.getD m default).n.data.toList=u at *
       cases u
       .
        have HX:=af (ae Y rfl);go_wp2_with fail
        go_quiet ((go_at_call 78;exact a1j (ae Q _)))
        go_wp2;go_roundw
        case rel=>exact⟨m+1,by have:=ae O;omega,by go_num,ae HX,below_drewN (ae v) _⟩
        case measure=>have:=ae O;simp[intOf];omega
       .
        have HP:=af (ae I (by rw[ae f,ae Z rfl];simp));go_wp2_with fail
        go_quiet ((go_at_call 78;exact a1j (ae Q _)))
        go_wp2;go_ret;exact⟨am (ae HP).symm,below_drewN (ae v) _⟩
      .
       obtain rfl:m=n:=by omega
       have HX:=af (ae aa (by rw[ae f,ae N (ae F)];simp));go_wp2;go_roundw
       case rel=>exact⟨k+1,by have:=ae x;omega,by go_num,ae HX,ae v⟩
       case measure=>have:=ae x;simp[intOf];omega
    .
     have HP:=af (ae I (by rw[ae f];simp[hA]));have a2:(A == (k:Int))=false:=by simp[hA]
     go_wp2;go_ret;exact⟨am (ae HP).symm,ae p⟩
  .
   obtain rfl:k=n:=by omega
   have HY:=af (ae S (ae r));by_cases h6:k<=6
   .
    have ac:(k:Int)<=6:=by omega
    go_wp2;go_ret;exact⟨am (by rw[ae HY];simp[h6]),ae c⟩
   .
    have ac:¬ (k:Int)<=6:=by omega
    go_wp2;go_ret;exact⟨am (by rw[ae HY];simp[h6]),ae c⟩
theorem zZ(n:ByteArray)(y mo d h mi s:Int)(t:ByteArray)(b:Nat)(x:ByteArray)(w:World)(hb:w.cell? ⟨b,0,none⟩=some (.string x))(i:(n.size:Int)<=1048576)(j:(x.size:Int)<=1048576) :
  CD 93 #[.agg #[.string n,.int .i64 y,.int .i64 mo,.int .i64 d,.int .i64 h,.int .i64 mi,.int .i64 s,.string t],.pointer (some ⟨b,0,none⟩)] w (.bool (bV n.data.toList x.data.toList)):=by
 have a:b<w.heap.size:=World.block_lt_of_cell? _ _ hb;have g:(w.alloc (.cells #[.string n,.int .i64 y,.int .i64 mo,.int .i64 d,.int .i64 h,.int .i64 mi,.int .i64 s,.string t] 35)).cell? ⟨b,0,none⟩=some (.string x):=by
  rw[World.cell?_alloc_past _ _ _ a];exact hb
 have f:=af (fun W=>tm n x W i j);clear hb;go_enter func93,ntmps93;go_wp2_with fail;refine(ae f _).mono ?_;rintro e w1 ⟨rfl,c⟩;rw[c];clear c;go_wp2;go_ret;exact⟨rfl,(a0c _ _).alloc (a0a _) _⟩
def kv(l:List En)(x:ByteArray):Bool:=l.any fun e=>bV e.n.data.toList x.data.toList
theorem rM{l:List En}{x:ByteArray}{k:Nat}(a:k<l.length)(e:bV (l.getD k default).n.data.toList x.data.toList=true):kv l x=true:=by
 unfold kv;rw[List.any_eq_true];refine⟨l.getD k default,?_,e⟩;simp[List.getD,a]
theorem pj{l:List En}{x:ByteArray}(h:∀j,j<l.length->bV (l.getD j default).n.data.toList x.data.toList=false):kv l x=false:=by
 unfold kv;rw[List.any_eq_false];intro e b;obtain⟨j,a,rfl⟩:=a2k b;have:=h j a;simp only[List.getD,List.getElem?_eq_getElem a,a1c]at this;simp[this]
theorem uj(a:Option Addr)(cap:Nat)(l:List En)(n:Nat)(J:l.length=n)(b:Nat)(x:ByteArray)(w:World)(h:jK w a l)(hl:(n:Int)<=1048576)(hb:w.cell? ⟨b,0,none⟩=some (.string x))(hx:(x.size:Int)<=1048576)
  (Q:∀i,i<n->((l.getD i default).n.size:Int)<=1048576) :
  Calls prog 126 #[.slice a n cap,.func (.func 93) #[] #[.pointer (some ⟨b,0,none⟩)]] w fun e w'=>(∃r:Int,e = .returned (.int .i64 r)/\decide (0<=r)=kv l x/\r<1048577)/\Below w.heap.size w w':=by
 have A:b<w.heap.size:=World.block_lt_of_cell? _ _ hb;have T:=af Q;have S:=af h;have C:=af hb;have F:=af A;have L:=af (fun k (I:k<l.length)=>@rM l x k I);have M:=af (@pj l x);rw[J]at L M;have N:=af J;clear h Q J hb A;go_enter func126,ntmps126;go_wp2_with fail
 go_loopw [5,8] (fun _ i wr=>∃k:Nat,k<=n/\i = .int .i64 k/\(∀j,j<k->bV (l.getD j default).n.data.toList x.data.toList=false)/\Below w.heap.size w wr) (fun _ i _=>n-(intOf i).toNat)
 case atStart=>exact⟨0,a0g _,rfl,fun j P=>absurd P (by omega),a0c _ _⟩
 case round=>
  obtain⟨k,I,rfl,q,v⟩:=hrel;have f:=af q;have c:=af v;clear q v;by_cases m:k<n
  .
   have aa:(k:Int)<(n:Int):=by omega
   obtain⟨g,o,rfl,hg,O⟩:=(ae S).later (ae c) (by have:=ae N;omega);obtain⟨c0,c1,c2,c3,c4,V,X,Y⟩:=O k (by have:=ae N;omega);have z:=af m;have E:=af (ae L k m);have R:=af (fun W (Z:Below w.heap.size w W)=>zZ (l.getD k default).n (l.getD k default).y (l.getD k default).mo (l.getD k default).d (l.getD k default).h (l.getD k default).mi (l.getD k default).s (l.getD k default).t b x W ((Z.cell (p:=⟨b,0,none⟩) (ae F)).trans (ae C)) (ae T k m) hx);have G:Hid (bV (l.getD k default).n.data.toList x.data.toList=false->∀j,j<k+1->bV (l.getD j default).n.data.toList x.data.toList=false):=by
    intro e j P;by_cases H:j=k
    . rw[H];exact e
    . exact ae f j (by omega)
   clear O I f m;generalize bV (l.getD k default).n.data.toList x.data.toList=u at *
   go_wp2_with fail;refine(ae R _ (ae c)).mono ?_;rintro e z1 ⟨rfl,B⟩;have K:=af (ak (ae c) B);clear B c0 c1 c2 c3 c4 V X Y;cases u
   .
    have U:=af (ae G rfl);go_wp2;go_roundw
    case rel=>exact⟨k+1,by have:=ae z;omega,by go_num,ae U,ae K⟩
    case measure=>have:=ae z;simp[intOf];omega
   . have D:=af (ae E rfl);go_wp2;go_ret;exact⟨⟨(k:Int),rfl,by rw[ae D];simp,by omega⟩,ae K⟩
  .
   obtain rfl:k=n:=by omega
   have D:=af (ae M (ae f));go_wp2;go_ret;exact⟨⟨-1,rfl,by rw[ae D];rfl,by omega⟩,ae c⟩
theorem pq(a:Option Addr)(cap:Nat)(l:List En)(n:Nat)(d:l.length=n)(b:Nat)(x:ByteArray)(w:World)(h:jK w a l)(o:(n:Int)<=1048576)(hb:w.cell? ⟨b,0,none⟩=some (.string x))(p:(x.size:Int)<=1048576)
  (g:∀i,i<n->((l.getD i default).n.size:Int)<=1048576) :
  CD 92 #[.slice a n cap,.func (.func 93) #[] #[.pointer (some ⟨b,0,none⟩)]] w (.bool (kv l x)):=by
 have k:=af (uj a cap l n d b x w h o hb p g);clear h hb g d;go_enter func92,ntmps92;go_wp2_with fail;refine(ae k).mono ?_;rintro e w1 ⟨⟨r,rfl,f,_⟩,c⟩;have m:=af f;have j:=af c;clear f c;go_wp2;go_ret;exact⟨am (ae m),ae j⟩
def bv(l:List En)(e:En):Int:=if jW e then(if kv l e.n then 3 else if 6<=l.length then 4 else 0)else 1
def fG(c:Int):Value:=if c=0 then .nilIface else .iface 98 (.agg #[.int .i64 c])
theorem qX(a:Option Addr)(cap:Nat)(l:List En)(n:Nat)(C:l.length=n)(e:En)(m:Int)(w:World)(h:jK w a l)(K:(n:Int)<=1048576)
  (D:∀i,i<n->((l.getD i default).n.size:Int)<=1048576) (J:e.n.size<=1048576) (L:(e.t.size:Int)<=9223372036854775807) (z:w.cell? ⟨1,0,none⟩=some (.int .i64 m)) :
  Calls prog 63 #[.slice a n cap,.agg #[.string e.n,.int .i64 e.y,.int .i64 e.mo,.int .i64 e.d,.int .i64 e.h,.int .i64 e.mi,.int .i64 e.s,.string e.t]] w fun f w'=>f = .returned (fG (bv l e))/\Below w.heap.size w w':=by
 have E:Hid ((w.alloc (.cells #[.string e.n,.int .i64 e.y,.int .i64 e.mo,.int .i64 e.d,.int .i64 e.h,.int .i64 e.mi,.int .i64 e.s,.string e.t] 35)).cell? ⟨1,0,none⟩=some (.int .i64 m)):=by
  show _=_;rw[World.cell?_alloc_past _ _ _ (World.block_lt_of_cell? _ _ z)];exact z
 have j:=af (lc e.n e.y e.mo e.d e.h e.mi e.s e.t m _ J L (ae E));have F:=af h;have G:=af D;have A:=af C;have x:(e.n.size:Int)<=1048576:=by omega
 clear h D z C;cases v:jW e
 .
  have I:bv l e=1:=by simp[bv,v]
  rw[I];go_enter func63,ntmps63;go_wp2_with fail;refine(ae j).mono ?_;rintro f w1 ⟨rfl,b⟩;rw[show gn e.n e.y e.mo e.d e.h e.mi e.s e.t=false from v];have c:=af (lz b).2;clear b;go_wp2;go_ret;exact⟨rfl,ae c⟩
 .
  have k:Hid (bv l e=if kv l e.n then 3 else if 6<=n then 4 else 0):=by show _=_;rw[←ae A];simp[bv,v]
  go_enter func63,ntmps63;go_wp2_with fail;refine(ae j).mono ?_;rintro f w1 ⟨rfl,b⟩;rw[show gn e.n e.y e.mo e.d e.h e.mi e.s e.t=true from v];have c:=af (lz b).2;have q:=af (lz b).1;clear b;have p:=af (pq a cap l n (ae A) w.heap.size e.n w1 ((ae F).later (ae c)) K (ae q).1.1 x (ae G));clear q j;generalize kv l e.n=u at *
  go_wp2_with fail;refine(ae p).mono ?_;rintro f w2 ⟨rfl,r⟩;have g:=af (ak (ae c) r);clear r p;cases u
  .
   by_cases B:6<=n
   .
    have H:(6:Int)<=(n:Int):=by omega
    have o:Hid (bv l e=4):=by show _=_;rw[ae k];simp[B]
    go_wp2;go_ret;exact⟨by rw[ae o];rfl,ae g⟩
   .
    have o:Hid (bv l e=0):=by show _=_;rw[ae k];simp[B]
    go_wp2;go_ret;exact⟨by rw[ae o];rfl,ae g⟩
  .
   have o:Hid (bv l e=3):=by show _=_;rw[ae k];simp
   go_wp2;go_ret;exact⟨by rw[ae o];rfl,ae g⟩
end Go.Proofs.YtlpmnnjlmjffpaaGreatDoor
