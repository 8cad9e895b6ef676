/- Of what the proof is made: 5 texts, one behind the other. -/
import Derived.Test.YtchidddpplangaaGreatDoorM18
import Derived.Test.YtchidddpplangaaGreatDoorShelf
import Derived.Test.YtchidddpplangaaGreatDoorM9
import Derived.Test.YtchidddpplangaaGreatDoorM6
set_option maxRecDepth 100000
set_option linter.unusedSimpArgs false
set_option linter.unusedVariables false
set_option maxHeartbeats 4000000
namespace Go.Proofs.YtchidddpplangaaGreatDoor
open Go.Proofs.Tryz
open Go.RowKit
variable {B b c:Nat}{W w:World}{d h mi mo s y:Int}{n t:ByteArray}{vs:List Value}{x0 x1 x2 x3 x4 x5 x6:Value}
def Ff:ByteArray:=⟨#[97,98,99,100,101,102,103,104,105,106,107,108,109,110,111,112,113,114,115,116,117,118,119,120,121,122,48,49,50,51,52,53,54,55,56,57,46,45,95]⟩
theorem Dk(b:UInt8):Lib.indexByte Ff.data.toList ((b.toNat:Int).toNat.toUInt8)=Lib.indexByte Ba b:=by
 have:(b.toNat:Int).toNat.toUInt8=b:=by simp
 rw[this];rfl
theorem Gh(b:UInt8)(w:World):Calls prog 89 #[.string Ff,.int .u8 (b.toNat:Int)] w fun e w'=>e = .returned (.int .i64 (Lib.indexByte Ba b))/\w'=w:=by
 have:=Tryz.strings_IndexByte Ff (b.toNat:Int) w;rw[Dk]at this;exact this
theorem DW(p:ByteArray)(w:World)(O:p.size<=1048576) :
  Ds 64 #[.string p] w (.bool (fD p.data.toList)):=by
 have P:(p.size:Int)<=1048576:=by omega
 obtain⟨c,x1,R,f,L,x,q,y⟩:=CO p w;have r:=ae x;have A:Hid (∀i (h:i<p.size),x1.cell? ⟨w.heap.size,i,none⟩=some (.int .u8 (p[i].toNat:Int))):=fun i h=>Ho q (y i h);have z:=ae (fun b W=>Gh b W);unfold Ff at z;clear O q y x;go_enter func64,ntmps64;go_wp2_with fail
 go_loop [4,8] (fun _ i=>∃m:Nat,m<=p.size/\i = .int .i64 m/\∀j (k:j<p.size),j<m->okB p[j]=true) (fun _ i=>p.size-(intOf i).toNat)
 case atStart=>exact⟨0,a0g _,rfl,fun j _ k=>absurd k (by omega)⟩
 case round=>
  obtain⟨m,H,rfl,o⟩:=hrel;have d:=ae o;have u:=ae H;clear o;by_cases l:m<p.size
  .
   have N:(m:Int)<(p.size:Int):=by omega
   have t:=ae l;have S:=ab A m l;have B:Hid (okB p[m]=true->∀j (k:j<p.size),j<m+1->okB p[j]=true):=by
    intro e j k M;by_cases G:j=m
    . subst G;exact e
    . exact ab d j k (by omega)
   have C:=ae (fun e=>@nn p m l e);have a:=MM p[m];have s:=ae (ab z p[m]);generalize p[m]=b at *
   generalize Lib.indexByte Ba b=ix at *
   clear H d u z A;cases n:okB b
   .
    have F:ix<0:=by rw[n]at a;simpa using a
    have HP:=ae (ab C n);clear a;go_wp2_with (go_at_call 89;refine(ab s _).mono ?_;rintro e w9 ⟨rfl,g⟩;rw[g];clear g);go_ret;exact⟨ak (ab HP).symm,ab r⟩
   .
    have F:¬ ix<0:=by rw[n]at a;simpa using a
    have I:=ae (ab B n);clear a;go_wp2_with (go_at_call 89;refine(ab s _).mono ?_;rintro e w9 ⟨rfl,g⟩;rw[g];clear g)
    go_round
    case rel=>exact⟨m+1,by have:=ab t;omega,by go_num,ab I⟩
    case measure=>have:=ab t;simp[intOf];omega
  .
   obtain rfl:m=p.size:=by have:=ab u;omega
   have v:Hid (∀j (k:j<p.size),okB p[j]=true):=fun j k=>ab d j k k;clear d l H z A;by_cases z1:(1:Int)<=(p.size:Int)
   .
    by_cases z2:(p.size:Int)<=10
    .
     have Q:inB (p.size:Int) 1 10=true:=aB.2 ⟨z1,z2⟩;cases D:(p.toList == [46])
     .
      cases E:(p.toList == [46,46])
      . have HP:=ae (Fg (ab v) Q D E);go_wp2;go_ret;exact⟨ak (ab HP).symm,ab r⟩
      .
       have HP:=ae (wu E);have K:p.toList=[46,46]:=by simpa using E
       go_wp2;go_ret;exact⟨ak (ab HP).symm,ab r⟩
     .
      have HP:=ae (Bb D);have J:p.toList=[46]:=by simpa using D
      go_wp2;go_ret;exact⟨ak (ab HP).symm,ab r⟩
    . have HP:=ae (qE (dN.2 (.inr (by omega)):inB (p.size:Int) 1 10=false));go_wp2;go_ret;exact⟨ak (ab HP).symm,ab r⟩
   . have HP:=ae (qE (dN.2 (.inl (by omega)):inB (p.size:Int) 1 10=false));go_wp2;go_ret;exact⟨ak (ab HP).symm,ab r⟩
def oD:ByteArray:=⟨#[47]⟩
def ov(s:ByteArray):List ByteArray:=Lib.splitB oD 0 (Lib.countB s oD) s
theorem Ha(s:ByteArray):(ov s).length=Lib.countB s oD+1:=Lib.splitB_all oD (by decide) 0 _ s rfl
theorem G9(s:ByteArray):(ov s).map (·.data.toList)=nE s.data.toList:=by
 unfold ov nE;rw[Lib.splitB_data,←qN];rfl
theorem H5(s:ByteArray)(m:Int)(w:World)(b:s.size<=1048576)(a:w.cell? ⟨2,0,none⟩=some (.int .i64 m)) :
  Calls prog 63 #[.string s,.string oD] w fun e w'=>e = .returned (.slice (some ⟨w.heap.size,0,none⟩) (ov s).length (ov s).length)/\w'=w.alloc (.cells ((ov s).map Value.string).toArray 9):=by
 have:=Tryz.strings_Split s oD m w (by omega) a (by decide);rw[Ha];exact this
theorem ml(s:ByteArray)(m:Int)(w:World)(O:s.size<=1048576)(M:w.cell? ⟨2,0,none⟩=some (.int .i64 m)) :
  Ds 42 #[.string s] w (.bool (gu s.data.toList)):=by
 have d:=ae (H5 s m w O M);unfold oD at d;have b:=G9 s;generalize ov s=l at *
 obtain⟨n,hn⟩:∃n,l.length=n:=⟨_,rfl⟩;rw[hn]at d;have G:n<=s.size+1:=by
  have e:=congrArg List.length b;have:=oP s.data.toList [];simp only[a0K]at e;have h2:s.data.toList.length=s.size:=by simp
  unfold nE at e;omega
 have S:(n:Int)<=1048577:=by omega
 have Q:Hid (∀k,k<n->(l.getD k ByteArray.empty).size<=1048576):=by
  intro k A;have y:(l.getD k ByteArray.empty).data.toList∈nE s.data.toList:=by
   rw[←b,a2H];exact⟨l.getD k ByteArray.empty,by simp[List.getD,hn,A],rfl⟩
  have:=mZ s.data.toList [] _ y;have e1:(l.getD k ByteArray.empty).data.toList.length=(l.getD k ByteArray.empty).size:=by simp
  have e2:s.data.toList.length=s.size:=by simp
  simp only[a0S]at *
  omega
 have q:=ae (fun j (v:j<l.length)=>@E7 s l b j v);have f:=ae (@AD s l b);rw[hn]at q f;obtain⟨x1,hx1⟩:∃x,x=w.alloc (.cells (l.map Value.string).toArray 9):=⟨_,rfl⟩;have I:Hid (∀j,j<n->x1.cell? ⟨w.heap.size,j,none⟩=some (.string (l.getD j ByteArray.empty))):=by
  intro j v;rw[hx1];have:j<l.length:=by omega
  simp[this,List.getD]
 have g:Hid (Below w.heap.size w x1):=by rw[hx1];exact(a0c _ _).alloc (a0a _) _
 have B:Hid (w.heap.size<x1.heap.size):=by show _<_;rw[hx1];simp
 rw[←hx1]at d;clear hx1 O M b G hn;go_enter func42,ntmps42;go_wp2_with fail;refine(ab d).mono ?_;rintro e y1 ⟨rfl,z⟩;rw[z];clear z d;go_wp2_with fail
 go_loopw [5,10] (fun _ i wr=>∃k:Nat,k<=n/\i = .int .i64 k/\(∀j,j<k->fD (l.getD j ByteArray.empty).data.toList=true)/\Below x1.heap.size x1 wr) (fun _ i _=>n-(intOf i).toNat)
 case atStart=>exact⟨0,a0g _,rfl,fun j v=>absurd v (by omega),a0c _ _⟩
 case round=>
  obtain⟨k,A,rfl,o,a⟩:=hrel;have c:=ae o;have T:=ae A;have r:=ae a;clear o;by_cases h:k<n
  .
   have R:(k:Int)<(n:Int):=by omega
   have U:=(a.cell (p:=⟨w.heap.size,k,none⟩) (ab B)).trans (ab I k h);have u:=ae (ab q k h);have C:Hid (fD (l.getD k ByteArray.empty).data.toList=true->∀j,j<k+1->fD (l.getD j ByteArray.empty).data.toList=true):=by
    intro e j v;by_cases F:j=k
    . rw[F];exact e
    . exact ab c j (by omega)
   have t:=ae h;have D:=ae (ab Q k h);clear A c a;generalize l.getD k ByteArray.empty=p at *
   go_wp2_with fail;refine(DW p _ (ab D)).mono ?_;rintro e z1 ⟨rfl,P⟩;have K:=ae (ai (ab r) P);clear P;cases N:fD p.data.toList
   . have HP:=ae (ab u N);go_wp2;go_ret;exact⟨ak (ab HP).symm,(ab g).trans ((ab K).mono (ab g).size)⟩
   .
    have HP:=ae (ab C N);go_wp2;go_roundw
    case rel=>exact⟨k+1,by have:=ab t;omega,by go_num,ab HP,ab K⟩
    case measure=>have:=ab t;simp[intOf];omega
  .
   obtain rfl:k=n:=by omega
   have J:=ae (ab f (ab c));have H:=ae ((ab g).trans (a.mono (ab g).size));clear c f q I a;by_cases L:k<=4
   .
    have E:(k:Int)<=4:=by omega
    go_wp2;go_ret;exact⟨ak (by rw[ab J];simp[L]),ab H⟩
   .
    have E:¬ (k:Int)<=4:=by omega
    go_wp2;go_ret;exact⟨ak (by rw[ab J];simp[L]),ab H⟩
def Ent(w:World)(b:Nat)(n:ByteArray)(y mo d h mi s:Int)(t:ByteArray):Prop:=(w.cell? ⟨b,0,none⟩=some (.string n)/\w.cell? ⟨b,1,none⟩=some (.int .i64 y)/\w.cell? ⟨b,2,none⟩=some (.int .i64 mo)/\w.cell? ⟨b,3,none⟩=some (.int .i64 d)/\w.cell? ⟨b,4,none⟩=some (.int .i64 h)/\w.cell? ⟨b,5,none⟩=some (.int .i64 mi)/\w.cell? ⟨b,6,none⟩=some (.int .i64 s)/\w.cell? ⟨b,7,none⟩=some (.string t))/\(w.frozen? ⟨b,0,none⟩=false/\w.frozen? ⟨b,1,none⟩=false/\w.frozen? ⟨b,2,none⟩=false/\w.frozen? ⟨b,3,none⟩=false/\w.frozen? ⟨b,4,none⟩=false/\w.frozen? ⟨b,5,none⟩=false/\w.frozen? ⟨b,6,none⟩=false/\w.frozen? ⟨b,7,none⟩=false)/\b<w.heap.size
theorem qd(w:World)(n:ByteArray)(y mo d h mi s:Int)(t:ByteArray)(u:TypeId):Ent (w.alloc (.cells #[.string n,.int .i64 y,.int .i64 mo,.int .i64 d,.int .i64 h,.int .i64 mi,.int .i64 s,.string t] u)) w.heap.size n y mo d h mi s t:=by
 refine⟨⟨?_,?_,?_,?_,?_,?_,?_,?_⟩,⟨?_,?_,?_,?_,?_,?_,?_,?_⟩,?_⟩<;>simp
theorem Ent.later{w':World}(k:Ent w b n y mo d h mi s t)(hb:Below B w w')(a:b<B):Ent w' b n y mo d h mi s t:=by
 obtain⟨⟨c0,c1,c2,c3,c4,e,f,g⟩,⟨f0,f1,f2,f3,f4,f5,f6,f7⟩,c⟩:=k;refine⟨⟨?_,?_,?_,?_,?_,?_,?_,?_⟩,⟨?_,?_,?_,?_,?_,?_,?_,?_⟩,a0m c hb.size⟩
 . exact(hb.cell (p:=⟨b,0,none⟩) a).trans c0
 . exact(hb.cell (p:=⟨b,1,none⟩) a).trans c1
 . exact(hb.cell (p:=⟨b,2,none⟩) a).trans c2
 . exact(hb.cell (p:=⟨b,3,none⟩) a).trans c3
 . exact(hb.cell (p:=⟨b,4,none⟩) a).trans c4
 . exact(hb.cell (p:=⟨b,5,none⟩) a).trans e
 . exact(hb.cell (p:=⟨b,6,none⟩) a).trans f
 . exact(hb.cell (p:=⟨b,7,none⟩) a).trans g
 . exact(hb.frozen (p:=⟨b,0,none⟩) a).trans f0
 . exact(hb.frozen (p:=⟨b,1,none⟩) a).trans f1
 . exact(hb.frozen (p:=⟨b,2,none⟩) a).trans f2
 . exact(hb.frozen (p:=⟨b,3,none⟩) a).trans f3
 . exact(hb.frozen (p:=⟨b,4,none⟩) a).trans f4
 . exact(hb.frozen (p:=⟨b,5,none⟩) a).trans f5
 . exact(hb.frozen (p:=⟨b,6,none⟩) a).trans f6
 . exact(hb.frozen (p:=⟨b,7,none⟩) a).trans f7
theorem ar{i j:Nat}{v:Value}{c:Option Value}(k:w.cell? ⟨b,j,none⟩=c)(h:i≠j):(w.setCell ⟨b,i,none⟩ v).cell? ⟨b,j,none⟩=c:=by
 rw[World.cell?_setCell_other _ _ _ _ (fun e=>h (by cases e;rfl))];exact k
theorem Ent.store(k:Ent w b n y mo d h mi s t)(n':ByteArray)(y' mo' c e mi' s':Int)(t':ByteArray) :
  Ent ((((((((w.setCell ⟨b,0,none⟩ (.string n')).setCell ⟨b,1,none⟩ (.int .i64 y')).setCell ⟨b,2,none⟩ (.int .i64 mo')).setCell ⟨b,3,none⟩ (.int .i64 c)).setCell ⟨b,4,none⟩ (.int .i64 e)).setCell ⟨b,5,none⟩ (.int .i64 mi')).setCell ⟨b,6,none⟩ (.int .i64 s')).setCell ⟨b,7,none⟩ (.string t')) b n' y' mo' c e mi' s' t':=by
 obtain⟨⟨c0,c1,c2,c3,c4,f,g,i⟩,⟨f0,f1,f2,f3,f4,f5,f6,f7⟩,a⟩:=k;refine⟨⟨?_,?_,?_,?_,?_,?_,?_,?_⟩,⟨?_,?_,?_,?_,?_,?_,?_,?_⟩,by simpa using a⟩
 . exact ar (ar (ar (ar (ar (ar (ar (World.cell?_setCell_same _ _ _ c0) (by decide)) (by decide)) (by decide)) (by decide)) (by decide)) (by decide)) (by decide)
 . exact ar (ar (ar (ar (ar (ar (World.cell?_setCell_same _ _ _ (ar (c1) (by decide))) (by decide)) (by decide)) (by decide)) (by decide)) (by decide)) (by decide)
 . exact ar (ar (ar (ar (ar (World.cell?_setCell_same _ _ _ (ar (ar (c2) (by decide)) (by decide))) (by decide)) (by decide)) (by decide)) (by decide)) (by decide)
 . exact ar (ar (ar (ar (World.cell?_setCell_same _ _ _ (ar (ar (ar (c3) (by decide)) (by decide)) (by decide))) (by decide)) (by decide)) (by decide)) (by decide)
 . exact ar (ar (ar (World.cell?_setCell_same _ _ _ (ar (ar (ar (ar (c4) (by decide)) (by decide)) (by decide)) (by decide))) (by decide)) (by decide)) (by decide)
 . exact ar (ar (World.cell?_setCell_same _ _ _ (ar (ar (ar (ar (ar (f) (by decide)) (by decide)) (by decide)) (by decide)) (by decide))) (by decide)) (by decide)
 . exact ar (World.cell?_setCell_same _ _ _ (ar (ar (ar (ar (ar (ar (g) (by decide)) (by decide)) (by decide)) (by decide)) (by decide)) (by decide))) (by decide)
 . exact World.cell?_setCell_same _ _ _ (ar (ar (ar (ar (ar (ar (ar (i) (by decide)) (by decide)) (by decide)) (by decide)) (by decide)) (by decide)) (by decide))
 . simpa using f0
 . simpa using f1
 . simpa using f2
 . simpa using f3
 . simpa using f4
 . simpa using f5
 . simpa using f6
 . simpa using f7
theorem Ent.set_other{o:Nat}(k:Ent w b n y mo d h mi s t)(v:Value)(j:b≠c):Ent (w.setCell ⟨c,o,none⟩ v) b n y mo d h mi s t:=by
 have e:(w.setCell ⟨c,o,none⟩ v).heap[b]?=w.heap[b]?:=a0O w ⟨c,o,none⟩ v b j;obtain⟨⟨c0,c1,c2,c3,c4,f,g,i⟩,⟨f0,f1,f2,f3,f4,f5,f6,f7⟩,a⟩:=k;refine⟨⟨?_,?_,?_,?_,?_,?_,?_,?_⟩,⟨?_,?_,?_,?_,?_,?_,?_,?_⟩,by simpa using a⟩
 . exact(World.cell?_of_block (w:=w) e).trans c0
 . exact(World.cell?_of_block (w:=w) e).trans c1
 . exact(World.cell?_of_block (w:=w) e).trans c2
 . exact(World.cell?_of_block (w:=w) e).trans c3
 . exact(World.cell?_of_block (w:=w) e).trans c4
 . exact(World.cell?_of_block (w:=w) e).trans f
 . exact(World.cell?_of_block (w:=w) e).trans g
 . exact(World.cell?_of_block (w:=w) e).trans i
 . exact(World.frozen?_of_block (w:=w) e).trans f0
 . exact(World.frozen?_of_block (w:=w) e).trans f1
 . exact(World.frozen?_of_block (w:=w) e).trans f2
 . exact(World.frozen?_of_block (w:=w) e).trans f3
 . exact(World.frozen?_of_block (w:=w) e).trans f4
 . exact(World.frozen?_of_block (w:=w) e).trans f5
 . exact(World.frozen?_of_block (w:=w) e).trans f6
 . exact(World.frozen?_of_block (w:=w) e).trans f7
theorem lZ{w1:World}{u:TypeId}(hb:Below (w.alloc (.cells #[.string n,.int .i64 y,.int .i64 mo,.int .i64 d,.int .i64 h,.int .i64 mi,.int .i64 s,.string t] u)).heap.size (w.alloc (.cells #[.string n,.int .i64 y,.int .i64 mo,.int .i64 d,.int .i64 h,.int .i64 mi,.int .i64 s,.string t] u)) w1):Ent w1 w.heap.size n y mo d h mi s t/\Below w.heap.size w w1:=
 ⟨(qd w n y mo d h mi s t u).later hb (by simp),((a0c _ _).alloc (a0a _) _).trans (hb.mono (by simp))⟩
def iB(n:ByteArray)(y mo d h mi s:Int)(t:ByteArray):Bool:=gu n.data.toList&&(dt y mo d h mi s&&decide (t.size<=300))
theorem lP(n:ByteArray)(y mo d h mi s:Int)(t:ByteArray)(w:World)(r:n.size<=1048576)(x:(t.size:Int)<=9223372036854775807) :
  Ds 30 #[.agg #[.string n,.int .i64 y,.int .i64 mo,.int .i64 d,.int .i64 h,.int .i64 mi,.int .i64 s,.string t]] w (.bool (iB n y mo d h mi s t)):=by
 have i:=ae r;clear r;go_enter func30,ntmps30;go_wp2_with fail;refine(mH n _ (ab i)).mono ?_;rintro e w1 ⟨rfl,f⟩;obtain⟨X1,l⟩:=lZ f;have g:=ae X1;have a:=ae l;clear f X1 l;obtain⟨⟨c0,c1,c2,c3,c4,m,o,p⟩,_,u⟩:=ab g;cases k:gu n.data.toList
 .
  have HP:Hid (iB n y mo d h mi s t=false):=by simp[Hid,iB,k]
  go_wp2;go_ret;exact⟨ak (ab HP).symm,ab a⟩
 .
  go_wp2_with fail;refine(sf y mo d h mi s _).mono ?_;rintro e w2 ⟨rfl,c⟩;have j:=ae ((ab g).later c (ab g).2.2);have b:=ae (ai (ab a) c);clear c g a c0 c1 c2 c3 c4 m o p;obtain⟨⟨c0,c1,c2,c3,c4,m,o,p⟩,_,_⟩:=ab j;cases q:dt y mo d h mi s
  .
   have HP:Hid (iB n y mo d h mi s t=false):=by simp[Hid,iB,k,q]
   go_wp2;go_ret;exact⟨ak (ab HP).symm,ab b⟩
  .
   have HP:Hid (iB n y mo d h mi s t=decide (t.size<=300)):=by simp[Hid,iB,k,q]
   by_cases v:(t.size:Int)<=300
   . go_wp2;go_ret;exact⟨ak (by rw[ab HP];simp;omega),ab b⟩
   . go_wp2;go_ret;exact⟨ak (by rw[ab HP];simp;omega),ab b⟩
theorem lJ(n:ByteArray)(y mo d h mi s:Int)(t:ByteArray)(m:Int)(w:World)(v:n.size<=1048576)(B:(t.size:Int)<=9223372036854775807)(l:w.cell? ⟨2,0,none⟩=some (.int .i64 m)) :
  Ds 59 #[.agg #[.string n,.int .i64 y,.int .i64 mo,.int .i64 d,.int .i64 h,.int .i64 mi,.int .i64 s,.string t]] w (.bool (iB n y mo d h mi s t)):=by
 have i:=ae v;clear v;have x:Hid ((w.alloc (.cells #[.string n,.int .i64 y,.int .i64 mo,.int .i64 d,.int .i64 h,.int .i64 mi,.int .i64 s,.string t] 31)).cell? ⟨2,0,none⟩=some (.int .i64 m)):=by
  show _=_;rw[World.cell?_alloc_past _ _ _ (World.block_lt_of_cell? _ _ l)];exact l
 clear l;go_enter func59,ntmps59;go_wp2_with fail;refine(ml n m _ (ab i) (ab x)).mono ?_;rintro e w1 ⟨rfl,f⟩;obtain⟨X1,o⟩:=lZ f;have g:=ae X1;have a:=ae o;clear f X1 o;obtain⟨⟨c0,c1,c2,c3,c4,p,q,r⟩,_,z⟩:=ab g;cases k:gu n.data.toList
 .
  have HP:Hid (iB n y mo d h mi s t=false):=by simp[Hid,iB,k]
  go_wp2;go_ret;exact⟨ak (ab HP).symm,ab a⟩
 .
  go_wp2_with fail;refine(dw y mo d h mi s _).mono ?_;rintro e w2 ⟨rfl,c⟩;have j:=ae ((ab g).later c (ab g).2.2);have b:=ae (ai (ab a) c);clear c g a c0 c1 c2 c3 c4 p q r;obtain⟨⟨c0,c1,c2,c3,c4,p,q,r⟩,_,_⟩:=ab j;cases u:dt y mo d h mi s
  .
   have HP:Hid (iB n y mo d h mi s t=false):=by simp[Hid,iB,k,u]
   go_wp2;go_ret;exact⟨ak (ab HP).symm,ab b⟩
  .
   have HP:Hid (iB n y mo d h mi s t=decide (t.size<=300)):=by simp[Hid,iB,k,u]
   by_cases A:(t.size:Int)<=300
   . go_wp2;go_ret;exact⟨ak (by rw[ab HP];simp;omega),ab b⟩
   . go_wp2;go_ret;exact⟨ak (by rw[ab HP];simp;omega),ab b⟩
def Blk(w:World)(b:Nat)(vs:List Value):Prop:=b<w.heap.size/\∀(i:Nat) (v:Value),vs[i]?=some v->w.cell? ⟨b,i,none⟩=some v/\w.frozen? ⟨b,i,none⟩=false
theorem Blk.cell(h:Blk w b vs)(i:Nat)(v:Value)(e:vs[i]?=some v):w.cell? ⟨b,i,none⟩=some v:=(h.2 i v e).1
theorem Blk.free(h:Blk w b vs)(i:Nat)(a:i<vs.length):w.frozen? ⟨b,i,none⟩=false:=(h.2 i (vs[i]) (by simp[a])).2
theorem Blk.later{w':World}(h:Blk w b vs)(hb:Below B w w')(a:b<B):Blk w' b vs:=
 ⟨a0m h.1 hb.size,fun i v e=>⟨(hb.cell (p:=⟨b,i,none⟩) a).trans (h.2 i v e).1,(hb.frozen (p:=⟨b,i,none⟩) a).trans (h.2 i v e).2⟩⟩
theorem Blk.drew(h:Blk w b vs):Blk w.drew b vs:=h
theorem Blk.set_other{o:Nat}(h:Blk w b vs)(v:Value)(a:b≠c):Blk (w.setCell ⟨c,o,none⟩ v) b vs:=by
 have e:(w.setCell ⟨c,o,none⟩ v).heap[b]?=w.heap[b]?:=a0O w ⟨c,o,none⟩ v b a;exact⟨by simpa using h.1,fun i x ex=>⟨(World.cell?_of_block (w:=w) e).trans (h.2 i x ex).1,(World.frozen?_of_block (w:=w) e).trans (h.2 i x ex).2⟩⟩
theorem Blk.set(h:Blk w b vs)(o:Nat)(v:Value):Blk (w.setCell ⟨b,o,none⟩ v) b (vs.set o v):=by
 refine⟨by simpa using h.1,fun i x ex=>?_⟩;by_cases a:o=i
 .
  subst a;rw[List.getElem?_set]at ex;by_cases c:o<vs.length
  .
   rw[a0e rfl,a0e c]at ex;obtain rfl:v=x:=by simpa using ex
   have:=h.2 o vs[o] (by simp[c]);exact⟨World.cell?_setCell_same _ _ _ this.1,by simpa using this.2⟩
  . rw[a0e rfl,a0d c]at ex;cases ex
 . rw[List.getElem?_set_ne a]at ex;have:=h.2 i x ex;exact⟨ar this.1 a,by simpa using this.2⟩
theorem aM(w:World)(a:Array Value)(u:TypeId):Blk (w.alloc (.cells a u)) w.heap.size a.toList:=by
 refine⟨by simp,fun i v e=>?_⟩;have e':a[i]?=some v:=by simpa using e
 constructor
 . simp[e']
 . simp
theorem Blk.cells(h:Blk w b vs){n:Nat}(c:vs.length=n):∀i,i<n->w.cell? ⟨b,i,none⟩=vs[i]?:=fun i a=>by
 have e:vs[i]?=some (vs[i]'(by omega)):=List.getElem?_eq_getElem (by omega);rw[e];exact h.cell i _ e
theorem Blk.frees(h:Blk w b vs){n:Nat}(c:vs.length=n):∀i,i<n->w.frozen? ⟨b,i,none⟩=false:=fun i a=>h.free i (by omega)
theorem vw{x7:Value}(hb:Below B w W)(a:B<=b)(h:Blk W b [x0,x1,x2,x3,x4,x5,x6,x7])(a0 a1 a2 a3 a4 a5 a6 a7:Value):Below B w ((((((((W.setCell ⟨b,0,none⟩ a0).setCell ⟨b,1,none⟩ a1).setCell ⟨b,2,none⟩ a2).setCell ⟨b,3,none⟩ a3).setCell ⟨b,4,none⟩ a4).setCell ⟨b,5,none⟩ a5).setCell ⟨b,6,none⟩ a6).setCell ⟨b,7,none⟩ a7)/\Blk ((((((((W.setCell ⟨b,0,none⟩ a0).setCell ⟨b,1,none⟩ a1).setCell ⟨b,2,none⟩ a2).setCell ⟨b,3,none⟩ a3).setCell ⟨b,4,none⟩ a4).setCell ⟨b,5,none⟩ a5).setCell ⟨b,6,none⟩ a6).setCell ⟨b,7,none⟩ a7) b [a0,a1,a2,a3,a4,a5,a6,a7]:=
 ⟨(ah (ah (ah (ah (ah (ah (ah (ah hb a a0) a a1) a a2) a a3) a a4) a a5) a a6) a a7),((((((((h.set 0 a0).set 1 a1).set 2 a2).set 3 a3).set 4 a4).set 5 a5).set 6 a6).set 7 a7)⟩
theorem ou(h:Blk W c vs)(a:c≠b)(a0 a1 a2 a3 a4 a5 a6 a7:Value):Blk ((((((((W.setCell ⟨b,0,none⟩ a0).setCell ⟨b,1,none⟩ a1).setCell ⟨b,2,none⟩ a2).setCell ⟨b,3,none⟩ a3).setCell ⟨b,4,none⟩ a4).setCell ⟨b,5,none⟩ a5).setCell ⟨b,6,none⟩ a6).setCell ⟨b,7,none⟩ a7) c vs:=((((((((h.set_other a0 a).set_other a1 a).set_other a2 a).set_other a3 a).set_other a4 a).set_other a5 a).set_other a6 a).set_other a7 a)
theorem Blk.set6(h:Blk W b [x0,x1,x2,x3,x4,x5])(a0 a1 a2 a3 a4 a5:Value):Blk ((((((W.setCell ⟨b,0,none⟩ a0).setCell ⟨b,1,none⟩ a1).setCell ⟨b,2,none⟩ a2).setCell ⟨b,3,none⟩ a3).setCell ⟨b,4,none⟩ a4).setCell ⟨b,5,none⟩ a5) b [a0,a1,a2,a3,a4,a5]:=((((((h.set 0 a0).set 1 a1).set 2 a2).set 3 a3).set 4 a4).set 5 a5)
theorem I0(hb:Below B w W)(a:B<=b)(a0 a1 a2 a3 a4 a5 a6:Value):Below B w (((((((W.setCell ⟨b,0,none⟩ a0).setCell ⟨b,1,none⟩ a1).setCell ⟨b,2,none⟩ a2).setCell ⟨b,3,none⟩ a3).setCell ⟨b,4,none⟩ a4).setCell ⟨b,5,none⟩ a5).setCell ⟨b,6,none⟩ a6):=(ah (ah (ah (ah (ah (ah (ah hb a a0) a a1) a a2) a a3) a a4) a a5) a a6)
theorem Blk.set7(h:Blk W b [x0,x1,x2,x3,x4,x5,x6])(a0 a1 a2 a3 a4 a5 a6:Value):Blk (((((((W.setCell ⟨b,0,none⟩ a0).setCell ⟨b,1,none⟩ a1).setCell ⟨b,2,none⟩ a2).setCell ⟨b,3,none⟩ a3).setCell ⟨b,4,none⟩ a4).setCell ⟨b,5,none⟩ a5).setCell ⟨b,6,none⟩ a6) b [a0,a1,a2,a3,a4,a5,a6]:=(((((((h.set 0 a0).set 1 a1).set 2 a2).set 3 a3).set 4 a4).set 5 a5).set 6 a6)
theorem Kv(h:Blk W c vs)(a:c≠b)(a0 a1 a2 a3 a4 a5 a6:Value):Blk (((((((W.setCell ⟨b,0,none⟩ a0).setCell ⟨b,1,none⟩ a1).setCell ⟨b,2,none⟩ a2).setCell ⟨b,3,none⟩ a3).setCell ⟨b,4,none⟩ a4).setCell ⟨b,5,none⟩ a5).setCell ⟨b,6,none⟩ a6) c vs:=(((((((h.set_other a0 a).set_other a1 a).set_other a2 a).set_other a3 a).set_other a4 a).set_other a5 a).set_other a6 a)
theorem I1(hb:Below B w W)(a:B<=b)(a0 a1 a2 a3 a4 a5 a6 a7:Value):Below B w ((((((((W.setCell ⟨b,0,none⟩ a0).setCell ⟨b,1,none⟩ a1).setCell ⟨b,2,none⟩ a2).setCell ⟨b,3,none⟩ a3).setCell ⟨b,4,none⟩ a4).setCell ⟨b,5,none⟩ a5).setCell ⟨b,6,none⟩ a6).setCell ⟨b,7,none⟩ a7):=(ah (ah (ah (ah (ah (ah (ah (ah hb a a0) a a1) a a2) a a3) a a4) a a5) a a6) a a7)
theorem Blk.set8{x7:Value}(h:Blk W b [x0,x1,x2,x3,x4,x5,x6,x7])(a0 a1 a2 a3 a4 a5 a6 a7:Value):Blk ((((((((W.setCell ⟨b,0,none⟩ a0).setCell ⟨b,1,none⟩ a1).setCell ⟨b,2,none⟩ a2).setCell ⟨b,3,none⟩ a3).setCell ⟨b,4,none⟩ a4).setCell ⟨b,5,none⟩ a5).setCell ⟨b,6,none⟩ a6).setCell ⟨b,7,none⟩ a7) b [a0,a1,a2,a3,a4,a5,a6,a7]:=((((((((h.set 0 a0).set 1 a1).set 2 a2).set 3 a3).set 4 a4).set 5 a5).set 6 a6).set 7 a7)
end Go.Proofs.YtchidddpplangaaGreatDoor
