/- Of what the proof is made. -/
import Derived.Test.YtkdlcomfpffhhaaGreatDoorM22
import Derived.Test.YtkdlcomfpffhhaaGreatDoorTi1
import Derived.Test.YtkdlcomfpffhhaaGreatDoorM8
import Derived.Deep.RegionHeld3
import Derived.Test.YtkdlcomfpffhhaaGreatDoorM3
import Derived.Test.YtkdlcomfpffhhaaGreatDoorM16
import Derived.Test.YtkdlcomfpffhhaaGreatDoorShelf
import Derived.Test.YtkdlcomfpffhhaaGreatDoorM5
import Derived.Test.YtkdlcomfpffhhaaGreatDoorM7
set_option linter.unusedSimpArgs false
set_option linter.unusedVariables false
namespace Go.Proofs.YtkdlcomfpffhhaaGreatDoor
open Go.RowKit Corb
theorem bv{P:Program}{ops:Array Oper}{rest:List Oper}{op:Oper}{a:Act}{w:World}{Q:Exit->Act->World->Prop}(c:op.guard=none)(ty:TypeId)(x:Operand)(g:op.op = .load ty x)
  (b o:Nat) (j:a.eval x = .pointer (some ⟨b,o,none⟩)) (C:Array Value) (d:TypeDesc) (e:w.rangeAt b o C.toList) (i:P.underlying ty=some d) (hd:d.isRow=true) (f:(P.info? ty).map (·.size)=some C.size)
  (h:wpList P ops Q rest (a.put op.dst (.agg C)) w):wpList P ops Q (op :: rest) a w:=
 wpList_load_mid c ty x g b o j C.toList d e i hd (by simpa using f) (by simpa using h)
theorem p9{w w':World}{b o:Nat}{c:List Value}(h:w.rangeAt b o c)(hb:Below w.heap.size w w')(a:b<w.heap.size):w'.rangeAt b o c:=fun j v d=>(hb.cell (p:=⟨b,o+j,none⟩) a).trans (h j v d)
theorem iG{P:Program}{ops:Array Oper}{S:World->Prop}{op:Oper}{a:Act}(h:Region.wanted op (yielded ops a.tmps)=true)(ty:TypeId)(x:Operand)(f:op.op = .load ty x)
  (b o:Nat) (i:a.eval x = .pointer (some ⟨b,o,none⟩)) (C:Array Value) (d:TypeDesc) (c:∀w,S w->w.rangeAt b o C.toList)
  (g:P.underlying ty=some d) (hd:d.isRow=true) (e:(P.info? ty).map (·.size)=some C.size):YieldsIf P ops S op (.agg C) a:=by
 have:=yieldsIf_load_mid (S:=S) h ty x f b o i C.toList d c g hd (by simpa using e);simpa using this
def LJ:Array Value:=(bS.map fun i=>Value.int .i64 (i:Nat)).toArray
def fP(w:World):Prop:=w.rangeAt 1 0 LJ.toList/\1<w.heap.size
theorem fP.later{w w':World}(h:fP w)(hb:Below w.heap.size w w'):fP w':=⟨p9 h.1 hb h.2,a0i h.2 hb.size⟩
theorem yH(k:Nat)(h:k<19):LJ[k]?=some (.int .i64 (bS.getD k 0:Nat)):=by
 unfold LJ;have:k<bS.length:=h;simp[List.getD,this]
theorem Bu(j:Nat)(h:j<19):bS.getD j 0<19:=by
 have:∀i∈bS,i<19:=by decide
 have a:j<bS.length:=h;exact this _ (by simp[List.getD,a])
end Go.Proofs.YtkdlcomfpffhhaaGreatDoor
set_option maxRecDepth 100000
set_option linter.unusedSimpArgs false
set_option linter.unusedVariables false
set_option maxHeartbeats 4000000
namespace Go.Proofs.YtkdlcomfpffhhaaGreatDoor
open Go.Proofs.Tryz
open Go.RowKit
variable {B b c o:Nat}{W w w':World}{d h mi mo s y:Int}{n t:ByteArray}{vs:List Value}{x0 x1 x2 x3 x4 x5 x6:Value}
def Dr:ByteArray:=⟨#[97,98,99,100,101,102,103,104,105,106,107,108,109,110,111,112,113,114,115,116,117,118,119,120,121,122,48,49,50,51,52,53,54,55,56,57,46,45,95]⟩
theorem AQ(b:UInt8):Lib.indexByte Dr.data.toList ((b.toNat:Int).toNat.toUInt8)=Lib.indexByte yV b:=by
 have:(b.toNat:Int).toNat.toUInt8=b:=by simp
 rw[this];rfl
theorem Eu(b:UInt8)(w:World):Calls prog 86 #[.string Dr,.int .u8 (b.toNat:Int)] w fun e w'=>e = .returned (.int .i64 (Lib.indexByte yV b))/\w'=w:=by
 have:=Tryz.strings_IndexByte Dr (b.toNat:Int) w;rw[AQ]at this;exact this
theorem Bw(p:ByteArray)(w:World)(O:p.size<=1048576) :
  CD 55 #[.string p] w (.bool (eF p.data.toList)):=by
 have P:(p.size:Int)<=1048576:=by omega
 obtain⟨c,x1,R,f,L,x,q,y⟩:=Ay p w;have r:=af x;have A:Hid (∀i (h:i<p.size),x1.cell? ⟨w.heap.size,i,none⟩=some (.int .u8 (p[i].toNat:Int))):=fun i h=>FM q (y i h);have z:=af (fun b W=>Eu b W);unfold Dr at z;clear O q y x;go_enter func55,ntmps55;go_wp2_with fail
 go_loop [4,8] (fun _ i=>∃m:Nat,m<=p.size/\i = .int .i64 m/\∀j (k:j<p.size),j<m->okB p[j]=true) (fun _ i=>p.size-(intOf i).toNat)
 case atStart=>exact⟨0,a0h _,rfl,fun j _ k=>absurd k (by omega)⟩
 case round=>
  obtain⟨m,H,rfl,o⟩:=hrel;have d:=af o;have u:=af H;clear o;by_cases l:m<p.size
  .
   have N:(m:Int)<(p.size:Int):=by omega
   have t:=af l;have S:=ae A m l;have B:Hid (okB p[m]=true->∀j (k:j<p.size),j<m+1->okB p[j]=true):=by
    intro e j k M;by_cases G:j=m
    . subst G;exact e
    . exact ae d j k (by omega)
   have C:=af (fun e=>@lN p m l e);have a:=LP p[m];have s:=af (ae z p[m]);generalize p[m]=b at *
   generalize Lib.indexByte yV b=ix at *
   clear H d u z A;cases n:okB b
   .
    have F:ix<0:=by rw[n]at a;simpa using a
    have HP:=af (ae C n);clear a;go_wp2_with (go_at_call 86;refine(ae s _).mono ?_;rintro e w9 ⟨rfl,g⟩;rw[g];clear g);go_ret;exact⟨aj (ae HP).symm,ae r⟩
   .
    have F:¬ ix<0:=by rw[n]at a;simpa using a
    have I:=af (ae B n);clear a;go_wp2_with (go_at_call 86;refine(ae s _).mono ?_;rintro e w9 ⟨rfl,g⟩;rw[g];clear g)
    go_round
    case rel=>exact⟨m+1,by have:=ae t;omega,by go_num,ae I⟩
    case measure=>have:=ae t;simp[intOf];omega
  .
   obtain rfl:m=p.size:=by have:=ae u;omega
   have v:Hid (∀j (k:j<p.size),okB p[j]=true):=fun j k=>ae d j k k;clear d l H z A;by_cases z1:(1:Int)<=(p.size:Int)
   .
    by_cases z2:(p.size:Int)<=10
    .
     have Q:inB (p.size:Int) 1 10=true:=aG.2 ⟨z1,z2⟩;cases D:(p.toList == [46])
     .
      cases E:(p.toList == [46,46])
      . have HP:=af (Dt (ae v) Q D E);go_wp2;go_ret;exact⟨aj (ae HP).symm,ae r⟩
      .
       have HP:=af (uN E);have K:p.toList=[46,46]:=by simpa using E
       go_wp2;go_ret;exact⟨aj (ae HP).symm,ae r⟩
     .
      have HP:=af (yW D);have J:p.toList=[46]:=by simpa using D
      go_wp2;go_ret;exact⟨aj (ae HP).symm,ae r⟩
    . have HP:=af (pe (dK.2 (.inr (by omega)):inB (p.size:Int) 1 10=false));go_wp2;go_ret;exact⟨aj (ae HP).symm,ae r⟩
   . have HP:=af (pe (dK.2 (.inl (by omega)):inB (p.size:Int) 1 10=false));go_wp2;go_ret;exact⟨aj (ae HP).symm,ae r⟩
def mZ:ByteArray:=⟨#[47]⟩
def mS(s:ByteArray):List ByteArray:=Lib.splitB mZ 0 (Lib.countB s mZ) s
theorem FD(s:ByteArray):(mS s).length=Lib.countB s mZ+1:=Lib.splitB_all mZ (by decide) 0 _ s rfl
theorem FC(s:ByteArray):(mS s).map (·.data.toList)=lV s.data.toList:=by
 unfold mS lV;rw[Lib.splitB_data,←pt];rfl
theorem FO(s:ByteArray)(m:Int)(w:World)(b:s.size<=1048576)(a:w.cell? ⟨2,0,none⟩=some (.int .i64 m)) :
  Calls prog 54 #[.string s,.string mZ] w fun e w'=>e = .returned (.slice (some ⟨w.heap.size,0,none⟩) (mS s).length (mS s).length)/\w'=w.alloc (.cells ((mS s).map Value.string).toArray 9):=by
 have:=Tryz.strings_Split s mZ m w (by omega) a (by decide);rw[FD];exact this
theorem kK(s:ByteArray)(m:Int)(w:World)(O:s.size<=1048576)(M:w.cell? ⟨2,0,none⟩=some (.int .i64 m)) :
  CD 25 #[.string s] w (.bool (fG s.data.toList)):=by
 have d:=af (FO s m w O M);unfold mZ at d;have b:=FC s;generalize mS s=l at *
 obtain⟨n,hn⟩:∃n,l.length=n:=⟨_,rfl⟩;rw[hn]at d;have G:n<=s.size+1:=by
  have e:=congrArg List.length b;have:=nz s.data.toList [];simp only[a1l]at e;have h2:s.data.toList.length=s.size:=by simp
  unfold lV at e;omega
 have S:(n:Int)<=1048577:=by omega
 have Q:Hid (∀k,k<n->(l.getD k ByteArray.empty).size<=1048576):=by
  intro k A;have y:(l.getD k ByteArray.empty).data.toList∈lV s.data.toList:=by
   rw[←b,a2S];exact⟨l.getD k ByteArray.empty,by simp[List.getD,hn,A],rfl⟩
  have:=lx s.data.toList [] _ y;have e1:(l.getD k ByteArray.empty).data.toList.length=(l.getD k ByteArray.empty).size:=by simp
  have e2:s.data.toList.length=s.size:=by simp
  simp only[a04]at *
  omega
 have q:=af (fun j (v:j<l.length)=>@Di s l b j v);have f:=af (@yD s l b);rw[hn]at q f;obtain⟨x1,hx1⟩:∃x,x=w.alloc (.cells (l.map Value.string).toArray 9):=⟨_,rfl⟩;have I:Hid (∀j,j<n->x1.cell? ⟨w.heap.size,j,none⟩=some (.string (l.getD j ByteArray.empty))):=by
  intro j v;rw[hx1];have:j<l.length:=by omega
  simp[this,List.getD]
 have g:Hid (Below w.heap.size w x1):=by rw[hx1];exact(a0c _ _).alloc (a0a _) _
 have B:Hid (w.heap.size<x1.heap.size):=by show _<_;rw[hx1];simp
 rw[←hx1]at d;clear hx1 O M b G hn;go_enter func25,ntmps25;go_wp2_with fail;refine(ae d).mono ?_;rintro e y1 ⟨rfl,z⟩;rw[z];clear z d;go_wp2_with fail
 go_loopw [5,10] (fun _ i wr=>∃k:Nat,k<=n/\i = .int .i64 k/\(∀j,j<k->eF (l.getD j ByteArray.empty).data.toList=true)/\Below x1.heap.size x1 wr) (fun _ i _=>n-(intOf i).toNat)
 case atStart=>exact⟨0,a0h _,rfl,fun j v=>absurd v (by omega),a0c _ _⟩
 case round=>
  obtain⟨k,A,rfl,o,a⟩:=hrel;have c:=af o;have T:=af A;have r:=af a;clear o;by_cases h:k<n
  .
   have R:(k:Int)<(n:Int):=by omega
   have U:=(a.cell (p:=⟨w.heap.size,k,none⟩) (ae B)).trans (ae I k h);have u:=af (ae q k h);have C:Hid (eF (l.getD k ByteArray.empty).data.toList=true->∀j,j<k+1->eF (l.getD j ByteArray.empty).data.toList=true):=by
    intro e j v;by_cases F:j=k
    . rw[F];exact e
    . exact ae c j (by omega)
   have t:=af h;have D:=af (ae Q k h);clear A c a;generalize l.getD k ByteArray.empty=p at *
   go_wp2_with fail;refine(Bw p _ (ae D)).mono ?_;rintro e z1 ⟨rfl,P⟩;have K:=af (am (ae r) P);clear P;cases N:eF p.data.toList
   . have HP:=af (ae u N);go_wp2;go_ret;exact⟨aj (ae HP).symm,(ae g).trans ((ae K).mono (ae g).size)⟩
   .
    have HP:=af (ae C N);go_wp2;go_roundw
    case rel=>exact⟨k+1,by have:=ae t;omega,by go_num,ae HP,ae K⟩
    case measure=>have:=ae t;simp[intOf];omega
  .
   obtain rfl:k=n:=by omega
   have J:=af (ae f (ae c));have H:=af ((ae g).trans (a.mono (ae g).size));clear c f q I a;by_cases L:k<=4
   .
    have E:(k:Int)<=4:=by omega
    go_wp2;go_ret;exact⟨aj (by rw[ae J];simp[L]),ae H⟩
   .
    have E:¬ (k:Int)<=4:=by omega
    go_wp2;go_ret;exact⟨aj (by rw[ae J];simp[L]),ae H⟩
def Ent(w:World)(b:Nat)(n:ByteArray)(y mo d h mi s:Int)(t:ByteArray):Prop:=(w.cell? ⟨b,0,none⟩=some (.string n)/\w.cell? ⟨b,1,none⟩=some (.int .i64 y)/\w.cell? ⟨b,2,none⟩=some (.int .i64 mo)/\w.cell? ⟨b,3,none⟩=some (.int .i64 d)/\w.cell? ⟨b,4,none⟩=some (.int .i64 h)/\w.cell? ⟨b,5,none⟩=some (.int .i64 mi)/\w.cell? ⟨b,6,none⟩=some (.int .i64 s)/\w.cell? ⟨b,7,none⟩=some (.string t))/\(w.frozen? ⟨b,0,none⟩=false/\w.frozen? ⟨b,1,none⟩=false/\w.frozen? ⟨b,2,none⟩=false/\w.frozen? ⟨b,3,none⟩=false/\w.frozen? ⟨b,4,none⟩=false/\w.frozen? ⟨b,5,none⟩=false/\w.frozen? ⟨b,6,none⟩=false/\w.frozen? ⟨b,7,none⟩=false)/\b<w.heap.size
theorem ui(w:World)(n:ByteArray)(y mo d h mi s:Int)(t:ByteArray)(u:TypeId):Ent (w.alloc (.cells #[.string n,.int .i64 y,.int .i64 mo,.int .i64 d,.int .i64 h,.int .i64 mi,.int .i64 s,.string t] u)) w.heap.size n y mo d h mi s t:=by
 refine⟨⟨?_,?_,?_,?_,?_,?_,?_,?_⟩,⟨?_,?_,?_,?_,?_,?_,?_,?_⟩,?_⟩<;>simp
theorem Ent.later(k:Ent w b n y mo d h mi s t)(hb:Below B w w')(a:b<B):Ent w' b n y mo d h mi s t:=by
 obtain⟨⟨c0,c1,c2,c3,c4,e,f,g⟩,⟨f0,f1,f2,f3,f4,f5,f6,f7⟩,c⟩:=k;refine⟨⟨?_,?_,?_,?_,?_,?_,?_,?_⟩,⟨?_,?_,?_,?_,?_,?_,?_,?_⟩,a0i c hb.size⟩
 . exact(hb.cell (p:=⟨b,0,none⟩) a).trans c0
 . exact(hb.cell (p:=⟨b,1,none⟩) a).trans c1
 . exact(hb.cell (p:=⟨b,2,none⟩) a).trans c2
 . exact(hb.cell (p:=⟨b,3,none⟩) a).trans c3
 . exact(hb.cell (p:=⟨b,4,none⟩) a).trans c4
 . exact(hb.cell (p:=⟨b,5,none⟩) a).trans e
 . exact(hb.cell (p:=⟨b,6,none⟩) a).trans f
 . exact(hb.cell (p:=⟨b,7,none⟩) a).trans g
 . exact(hb.frozen (p:=⟨b,0,none⟩) a).trans f0
 . exact(hb.frozen (p:=⟨b,1,none⟩) a).trans f1
 . exact(hb.frozen (p:=⟨b,2,none⟩) a).trans f2
 . exact(hb.frozen (p:=⟨b,3,none⟩) a).trans f3
 . exact(hb.frozen (p:=⟨b,4,none⟩) a).trans f4
 . exact(hb.frozen (p:=⟨b,5,none⟩) a).trans f5
 . exact(hb.frozen (p:=⟨b,6,none⟩) a).trans f6
 . exact(hb.frozen (p:=⟨b,7,none⟩) a).trans f7
theorem ar{i j:Nat}{v:Value}{c:Option Value}(k:w.cell? ⟨b,j,none⟩=c)(h:i≠j):(w.setCell ⟨b,i,none⟩ v).cell? ⟨b,j,none⟩=c:=by
 rw[World.cell?_setCell_other _ _ _ _ (fun e=>h (by cases e;rfl))];exact k
theorem Ent.store(k:Ent w b n y mo d h mi s t)(n':ByteArray)(y' mo' c e mi' s':Int)(t':ByteArray) :
  Ent ((((((((w.setCell ⟨b,0,none⟩ (.string n')).setCell ⟨b,1,none⟩ (.int .i64 y')).setCell ⟨b,2,none⟩ (.int .i64 mo')).setCell ⟨b,3,none⟩ (.int .i64 c)).setCell ⟨b,4,none⟩ (.int .i64 e)).setCell ⟨b,5,none⟩ (.int .i64 mi')).setCell ⟨b,6,none⟩ (.int .i64 s')).setCell ⟨b,7,none⟩ (.string t')) b n' y' mo' c e mi' s' t':=by
 obtain⟨⟨c0,c1,c2,c3,c4,f,g,i⟩,⟨f0,f1,f2,f3,f4,f5,f6,f7⟩,a⟩:=k;refine⟨⟨?_,?_,?_,?_,?_,?_,?_,?_⟩,⟨?_,?_,?_,?_,?_,?_,?_,?_⟩,by simpa using a⟩
 . exact ar (ar (ar (ar (ar (ar (ar (World.cell?_setCell_same _ _ _ c0) (by decide)) (by decide)) (by decide)) (by decide)) (by decide)) (by decide)) (by decide)
 . exact ar (ar (ar (ar (ar (ar (World.cell?_setCell_same _ _ _ (ar (c1) (by decide))) (by decide)) (by decide)) (by decide)) (by decide)) (by decide)) (by decide)
 . exact ar (ar (ar (ar (ar (World.cell?_setCell_same _ _ _ (ar (ar (c2) (by decide)) (by decide))) (by decide)) (by decide)) (by decide)) (by decide)) (by decide)
 . exact ar (ar (ar (ar (World.cell?_setCell_same _ _ _ (ar (ar (ar (c3) (by decide)) (by decide)) (by decide))) (by decide)) (by decide)) (by decide)) (by decide)
 . exact ar (ar (ar (World.cell?_setCell_same _ _ _ (ar (ar (ar (ar (c4) (by decide)) (by decide)) (by decide)) (by decide))) (by decide)) (by decide)) (by decide)
 . exact ar (ar (World.cell?_setCell_same _ _ _ (ar (ar (ar (ar (ar (f) (by decide)) (by decide)) (by decide)) (by decide)) (by decide))) (by decide)) (by decide)
 . exact ar (World.cell?_setCell_same _ _ _ (ar (ar (ar (ar (ar (ar (g) (by decide)) (by decide)) (by decide)) (by decide)) (by decide)) (by decide))) (by decide)
 . exact World.cell?_setCell_same _ _ _ (ar (ar (ar (ar (ar (ar (ar (i) (by decide)) (by decide)) (by decide)) (by decide)) (by decide)) (by decide)) (by decide))
 . simpa using f0
 . simpa using f1
 . simpa using f2
 . simpa using f3
 . simpa using f4
 . simpa using f5
 . simpa using f6
 . simpa using f7
theorem Ent.set_other(k:Ent w b n y mo d h mi s t)(v:Value)(j:b≠c):Ent (w.setCell ⟨c,o,none⟩ v) b n y mo d h mi s t:=by
 have e:(w.setCell ⟨c,o,none⟩ v).heap[b]?=w.heap[b]?:=a0T w ⟨c,o,none⟩ v b j;obtain⟨⟨c0,c1,c2,c3,c4,f,g,i⟩,⟨f0,f1,f2,f3,f4,f5,f6,f7⟩,a⟩:=k;refine⟨⟨?_,?_,?_,?_,?_,?_,?_,?_⟩,⟨?_,?_,?_,?_,?_,?_,?_,?_⟩,by simpa using a⟩
 . exact(World.cell?_of_block (w:=w) e).trans c0
 . exact(World.cell?_of_block (w:=w) e).trans c1
 . exact(World.cell?_of_block (w:=w) e).trans c2
 . exact(World.cell?_of_block (w:=w) e).trans c3
 . exact(World.cell?_of_block (w:=w) e).trans c4
 . exact(World.cell?_of_block (w:=w) e).trans f
 . exact(World.cell?_of_block (w:=w) e).trans g
 . exact(World.cell?_of_block (w:=w) e).trans i
 . exact(World.frozen?_of_block (w:=w) e).trans f0
 . exact(World.frozen?_of_block (w:=w) e).trans f1
 . exact(World.frozen?_of_block (w:=w) e).trans f2
 . exact(World.frozen?_of_block (w:=w) e).trans f3
 . exact(World.frozen?_of_block (w:=w) e).trans f4
 . exact(World.frozen?_of_block (w:=w) e).trans f5
 . exact(World.frozen?_of_block (w:=w) e).trans f6
 . exact(World.frozen?_of_block (w:=w) e).trans f7
theorem kE{w1:World}{u:TypeId}(hb:Below (w.alloc (.cells #[.string n,.int .i64 y,.int .i64 mo,.int .i64 d,.int .i64 h,.int .i64 mi,.int .i64 s,.string t] u)).heap.size (w.alloc (.cells #[.string n,.int .i64 y,.int .i64 mo,.int .i64 d,.int .i64 h,.int .i64 mi,.int .i64 s,.string t] u)) w1):Ent w1 w.heap.size n y mo d h mi s t/\Below w.heap.size w w1:=
 ⟨(ui w n y mo d h mi s t u).later hb (by simp),((a0c _ _).alloc (a0a _) _).trans (hb.mono (by simp))⟩
def fV(n:ByteArray)(y mo d h mi s:Int)(t:ByteArray):Bool:=fG n.data.toList&&(cb y mo d h mi s&&decide (t.size<=300))
theorem gG(n:ByteArray)(y mo d h mi s:Int)(t:ByteArray)(w:World)(r:n.size<=1048576)(x:(t.size:Int)<=9223372036854775807) :
  CD 101 #[.agg #[.string n,.int .i64 y,.int .i64 mo,.int .i64 d,.int .i64 h,.int .i64 mi,.int .i64 s,.string t]] w (.bool (fV n y mo d h mi s t)):=by
 have i:=af r;clear r;go_enter func101,ntmps101;go_wp2_with fail;refine(li n _ (ae i)).mono ?_;rintro e w1 ⟨rfl,f⟩;obtain⟨X1,l⟩:=kE f;have g:=af X1;have a:=af l;clear f X1 l;obtain⟨⟨c0,c1,c2,c3,c4,m,o,p⟩,_,u⟩:=ae g;cases k:fG n.data.toList
 .
  have HP:Hid (fV n y mo d h mi s t=false):=by simp[Hid,fV,k]
  go_wp2;go_ret;exact⟨aj (ae HP).symm,ae a⟩
 .
  go_wp2_with fail;refine(qF y mo d h mi s _).mono ?_;rintro e w2 ⟨rfl,c⟩;have j:=af ((ae g).later c (ae g).2.2);have b:=af (am (ae a) c);clear c g a c0 c1 c2 c3 c4 m o p;obtain⟨⟨c0,c1,c2,c3,c4,m,o,p⟩,_,_⟩:=ae j;cases q:cb y mo d h mi s
  .
   have HP:Hid (fV n y mo d h mi s t=false):=by simp[Hid,fV,k,q]
   go_wp2;go_ret;exact⟨aj (ae HP).symm,ae b⟩
  .
   have HP:Hid (fV n y mo d h mi s t=decide (t.size<=300)):=by simp[Hid,fV,k,q]
   by_cases v:(t.size:Int)<=300
   . go_wp2;go_ret;exact⟨aj (by rw[ae HP];simp;omega),ae b⟩
   . go_wp2;go_ret;exact⟨aj (by rw[ae HP];simp;omega),ae b⟩
theorem kj(n:ByteArray)(y mo d h mi s:Int)(t:ByteArray)(m:Int)(w:World)(v:n.size<=1048576)(B:(t.size:Int)<=9223372036854775807)(l:w.cell? ⟨2,0,none⟩=some (.int .i64 m)) :
  CD 119 #[.agg #[.string n,.int .i64 y,.int .i64 mo,.int .i64 d,.int .i64 h,.int .i64 mi,.int .i64 s,.string t]] w (.bool (fV n y mo d h mi s t)):=by
 have i:=af v;clear v;have x:Hid ((w.alloc (.cells #[.string n,.int .i64 y,.int .i64 mo,.int .i64 d,.int .i64 h,.int .i64 mi,.int .i64 s,.string t] 32)).cell? ⟨2,0,none⟩=some (.int .i64 m)):=by
  show _=_;rw[World.cell?_alloc_past _ _ _ (World.block_lt_of_cell? _ _ l)];exact l
 clear l;go_enter func119,ntmps119;go_wp2_with fail;refine(kK n m _ (ae i) (ae x)).mono ?_;rintro e w1 ⟨rfl,f⟩;obtain⟨X1,o⟩:=kE f;have g:=af X1;have a:=af o;clear f X1 o;obtain⟨⟨c0,c1,c2,c3,c4,p,q,r⟩,_,z⟩:=ae g;cases k:fG n.data.toList
 .
  have HP:Hid (fV n y mo d h mi s t=false):=by simp[Hid,fV,k]
  go_wp2;go_ret;exact⟨aj (ae HP).symm,ae a⟩
 .
  go_wp2_with fail;refine(eW y mo d h mi s _).mono ?_;rintro e w2 ⟨rfl,c⟩;have j:=af ((ae g).later c (ae g).2.2);have b:=af (am (ae a) c);clear c g a c0 c1 c2 c3 c4 p q r;obtain⟨⟨c0,c1,c2,c3,c4,p,q,r⟩,_,_⟩:=ae j;cases u:cb y mo d h mi s
  .
   have HP:Hid (fV n y mo d h mi s t=false):=by simp[Hid,fV,k,u]
   go_wp2;go_ret;exact⟨aj (ae HP).symm,ae b⟩
  .
   have HP:Hid (fV n y mo d h mi s t=decide (t.size<=300)):=by simp[Hid,fV,k,u]
   by_cases A:(t.size:Int)<=300
   . go_wp2;go_ret;exact⟨aj (by rw[ae HP];simp;omega),ae b⟩
   . go_wp2;go_ret;exact⟨aj (by rw[ae HP];simp;omega),ae b⟩
def Blk(w:World)(b:Nat)(vs:List Value):Prop:=b<w.heap.size/\∀(i:Nat) (v:Value),vs[i]?=some v->w.cell? ⟨b,i,none⟩=some v/\w.frozen? ⟨b,i,none⟩=false
theorem Blk.cell(h:Blk w b vs)(i:Nat)(v:Value)(e:vs[i]?=some v):w.cell? ⟨b,i,none⟩=some v:=(h.2 i v e).1
theorem Blk.free(h:Blk w b vs)(i:Nat)(a:i<vs.length):w.frozen? ⟨b,i,none⟩=false:=(h.2 i (vs[i]) (by simp[a])).2
theorem Blk.later(h:Blk w b vs)(hb:Below B w w')(a:b<B):Blk w' b vs:=
 ⟨a0i h.1 hb.size,fun i v e=>⟨(hb.cell (p:=⟨b,i,none⟩) a).trans (h.2 i v e).1,(hb.frozen (p:=⟨b,i,none⟩) a).trans (h.2 i v e).2⟩⟩
theorem Blk.drew(h:Blk w b vs):Blk w.drew b vs:=h
theorem Blk.set_other(h:Blk w b vs)(v:Value)(a:b≠c):Blk (w.setCell ⟨c,o,none⟩ v) b vs:=by
 have e:(w.setCell ⟨c,o,none⟩ v).heap[b]?=w.heap[b]?:=a0T w ⟨c,o,none⟩ v b a;exact⟨by simpa using h.1,fun i x ex=>⟨(World.cell?_of_block (w:=w) e).trans (h.2 i x ex).1,(World.frozen?_of_block (w:=w) e).trans (h.2 i x ex).2⟩⟩
theorem Blk.set(h:Blk w b vs)(o:Nat)(v:Value):Blk (w.setCell ⟨b,o,none⟩ v) b (vs.set o v):=by
 refine⟨by simpa using h.1,fun i x ex=>?_⟩;by_cases a:o=i
 .
  subst a;rw[List.getElem?_set]at ex;by_cases c:o<vs.length
  .
   rw[a0e rfl,a0e c]at ex;obtain rfl:v=x:=by simpa using ex
   have:=h.2 o vs[o] (by simp[c]);exact⟨World.cell?_setCell_same _ _ _ this.1,by simpa using this.2⟩
  . rw[a0e rfl,a0d c]at ex;cases ex
 . rw[List.getElem?_set_ne a]at ex;have:=h.2 i x ex;exact⟨ar this.1 a,by simpa using this.2⟩
theorem aP(w:World)(a:Array Value)(u:TypeId):Blk (w.alloc (.cells a u)) w.heap.size a.toList:=by
 refine⟨by simp,fun i v e=>?_⟩;have e':a[i]?=some v:=by simpa using e
 constructor
 . simp[e']
 . simp
theorem Blk.cells(h:Blk w b vs){n:Nat}(c:vs.length=n):∀i,i<n->w.cell? ⟨b,i,none⟩=vs[i]?:=fun i a=>by
 have e:vs[i]?=some (vs[i]'(by omega)):=List.getElem?_eq_getElem (by omega);rw[e];exact h.cell i _ e
theorem Blk.frees(h:Blk w b vs){n:Nat}(c:vs.length=n):∀i,i<n->w.frozen? ⟨b,i,none⟩=false:=fun i a=>h.free i (by omega)
theorem tQ{x7:Value}(hb:Below B w W)(a:B<=b)(h:Blk W b [x0,x1,x2,x3,x4,x5,x6,x7])(a0 a1 a2 a3 a4 a5 a6 a7:Value):Below B w ((((((((W.setCell ⟨b,0,none⟩ a0).setCell ⟨b,1,none⟩ a1).setCell ⟨b,2,none⟩ a2).setCell ⟨b,3,none⟩ a3).setCell ⟨b,4,none⟩ a4).setCell ⟨b,5,none⟩ a5).setCell ⟨b,6,none⟩ a6).setCell ⟨b,7,none⟩ a7)/\Blk ((((((((W.setCell ⟨b,0,none⟩ a0).setCell ⟨b,1,none⟩ a1).setCell ⟨b,2,none⟩ a2).setCell ⟨b,3,none⟩ a3).setCell ⟨b,4,none⟩ a4).setCell ⟨b,5,none⟩ a5).setCell ⟨b,6,none⟩ a6).setCell ⟨b,7,none⟩ a7) b [a0,a1,a2,a3,a4,a5,a6,a7]:=
 ⟨(ap (ap (ap (ap (ap (ap (ap (ap hb a a0) a a1) a a2) a a3) a a4) a a5) a a6) a a7),((((((((h.set 0 a0).set 1 a1).set 2 a2).set 3 a3).set 4 a4).set 5 a5).set 6 a6).set 7 a7)⟩
theorem mR(h:Blk W c vs)(a:c≠b)(a0 a1 a2 a3 a4 a5 a6 a7:Value):Blk ((((((((W.setCell ⟨b,0,none⟩ a0).setCell ⟨b,1,none⟩ a1).setCell ⟨b,2,none⟩ a2).setCell ⟨b,3,none⟩ a3).setCell ⟨b,4,none⟩ a4).setCell ⟨b,5,none⟩ a5).setCell ⟨b,6,none⟩ a6).setCell ⟨b,7,none⟩ a7) c vs:=((((((((h.set_other a0 a).set_other a1 a).set_other a2 a).set_other a3 a).set_other a4 a).set_other a5 a).set_other a6 a).set_other a7 a)
theorem Blk.set6(h:Blk W b [x0,x1,x2,x3,x4,x5])(a0 a1 a2 a3 a4 a5:Value):Blk ((((((W.setCell ⟨b,0,none⟩ a0).setCell ⟨b,1,none⟩ a1).setCell ⟨b,2,none⟩ a2).setCell ⟨b,3,none⟩ a3).setCell ⟨b,4,none⟩ a4).setCell ⟨b,5,none⟩ a5) b [a0,a1,a2,a3,a4,a5]:=((((((h.set 0 a0).set 1 a1).set 2 a2).set 3 a3).set 4 a4).set 5 a5)
theorem GK(hb:Below B w W)(a:B<=b)(a0 a1 a2 a3 a4 a5 a6:Value):Below B w (((((((W.setCell ⟨b,0,none⟩ a0).setCell ⟨b,1,none⟩ a1).setCell ⟨b,2,none⟩ a2).setCell ⟨b,3,none⟩ a3).setCell ⟨b,4,none⟩ a4).setCell ⟨b,5,none⟩ a5).setCell ⟨b,6,none⟩ a6):=(ap (ap (ap (ap (ap (ap (ap hb a a0) a a1) a a2) a a3) a a4) a a5) a a6)
theorem Blk.set7(h:Blk W b [x0,x1,x2,x3,x4,x5,x6])(a0 a1 a2 a3 a4 a5 a6:Value):Blk (((((((W.setCell ⟨b,0,none⟩ a0).setCell ⟨b,1,none⟩ a1).setCell ⟨b,2,none⟩ a2).setCell ⟨b,3,none⟩ a3).setCell ⟨b,4,none⟩ a4).setCell ⟨b,5,none⟩ a5).setCell ⟨b,6,none⟩ a6) b [a0,a1,a2,a3,a4,a5,a6]:=(((((((h.set 0 a0).set 1 a1).set 2 a2).set 3 a3).set 4 a4).set 5 a5).set 6 a6)
theorem Jb(h:Blk W c vs)(a:c≠b)(a0 a1 a2 a3 a4 a5 a6:Value):Blk (((((((W.setCell ⟨b,0,none⟩ a0).setCell ⟨b,1,none⟩ a1).setCell ⟨b,2,none⟩ a2).setCell ⟨b,3,none⟩ a3).setCell ⟨b,4,none⟩ a4).setCell ⟨b,5,none⟩ a5).setCell ⟨b,6,none⟩ a6) c vs:=(((((((h.set_other a0 a).set_other a1 a).set_other a2 a).set_other a3 a).set_other a4 a).set_other a5 a).set_other a6 a)
theorem GL(hb:Below B w W)(a:B<=b)(a0 a1 a2 a3 a4 a5 a6 a7:Value):Below B w ((((((((W.setCell ⟨b,0,none⟩ a0).setCell ⟨b,1,none⟩ a1).setCell ⟨b,2,none⟩ a2).setCell ⟨b,3,none⟩ a3).setCell ⟨b,4,none⟩ a4).setCell ⟨b,5,none⟩ a5).setCell ⟨b,6,none⟩ a6).setCell ⟨b,7,none⟩ a7):=(ap (ap (ap (ap (ap (ap (ap (ap hb a a0) a a1) a a2) a a3) a a4) a a5) a a6) a a7)
theorem Blk.set8{x7:Value}(h:Blk W b [x0,x1,x2,x3,x4,x5,x6,x7])(a0 a1 a2 a3 a4 a5 a6 a7:Value):Blk ((((((((W.setCell ⟨b,0,none⟩ a0).setCell ⟨b,1,none⟩ a1).setCell ⟨b,2,none⟩ a2).setCell ⟨b,3,none⟩ a3).setCell ⟨b,4,none⟩ a4).setCell ⟨b,5,none⟩ a5).setCell ⟨b,6,none⟩ a6).setCell ⟨b,7,none⟩ a7) b [a0,a1,a2,a3,a4,a5,a6,a7]:=((((((((h.set 0 a0).set 1 a1).set 2 a2).set 3 a3).set 4 a4).set 5 a5).set 6 a6).set 7 a7)
theorem Ent.kn(k:Ent w c n y mo d h mi s t)(f:Kn b w w')(l:c≠b):Ent w' c n y mo d h mi s t:=by
 obtain⟨⟨c0,c1,c2,c3,c4,g,i,j⟩,⟨f0,f1,f2,f3,f4,f5,f6,f7⟩,a⟩:=k;have e:=f.2.1 c a l;refine⟨⟨?_,?_,?_,?_,?_,?_,?_,?_⟩,⟨?_,?_,?_,?_,?_,?_,?_,?_⟩,a0i a f.2.2⟩
 . exact(World.cell?_of_block (w:=w) e).trans c0
 . exact(World.cell?_of_block (w:=w) e).trans c1
 . exact(World.cell?_of_block (w:=w) e).trans c2
 . exact(World.cell?_of_block (w:=w) e).trans c3
 . exact(World.cell?_of_block (w:=w) e).trans c4
 . exact(World.cell?_of_block (w:=w) e).trans g
 . exact(World.cell?_of_block (w:=w) e).trans i
 . exact(World.cell?_of_block (w:=w) e).trans j
 . exact(World.frozen?_of_block (w:=w) e).trans f0
 . exact(World.frozen?_of_block (w:=w) e).trans f1
 . exact(World.frozen?_of_block (w:=w) e).trans f2
 . exact(World.frozen?_of_block (w:=w) e).trans f3
 . exact(World.frozen?_of_block (w:=w) e).trans f4
 . exact(World.frozen?_of_block (w:=w) e).trans f5
 . exact(World.frozen?_of_block (w:=w) e).trans f6
 . exact(World.frozen?_of_block (w:=w) e).trans f7
theorem kM{a:World}(h:Kn b a w)(v:Value)(e:a.heap.size<=c)(hb:b<a.heap.size):Kn b a (w.setCell ⟨c,o,none⟩ v):=
 ⟨ap h.1 (a0G (a0y hb) e) _,fun k f d=>(a0T w ⟨c,o,none⟩ v k (by show k≠c;omega)).trans (h.2.1 k f d),by simpa using h.2.2⟩
theorem iR{m:Nat}(h:Rd w B b m)(v:Value)(a:b<c):Rd (w.setCell ⟨c,o,none⟩ v) B b m:=
 h.kept (ap (a0c _ _) (by omega) _)
theorem Iv{a:World}(h:Kn b a w)(d:a.heap.size<=c)(hb:b<a.heap.size)(v0 v1 v2 v3 v4 v5 v6 v7:Value):Kn b a ((((((((w.setCell ⟨c,0,none⟩ v0).setCell ⟨c,1,none⟩ v1).setCell ⟨c,2,none⟩ v2).setCell ⟨c,3,none⟩ v3).setCell ⟨c,4,none⟩ v4).setCell ⟨c,5,none⟩ v5).setCell ⟨c,6,none⟩ v6).setCell ⟨c,7,none⟩ v7):=
 (kM (kM (kM (kM (kM (kM (kM (kM h _ d hb) _ d hb) _ d hb) _ d hb) _ d hb) _ d hb) _ d hb) _ d hb)
theorem Ju{m:Nat}(h:Rd w B b m)(a:b<c)(v0 v1 v2 v3 v4 v5 v6 v7:Value):Rd ((((((((w.setCell ⟨c,0,none⟩ v0).setCell ⟨c,1,none⟩ v1).setCell ⟨c,2,none⟩ v2).setCell ⟨c,3,none⟩ v3).setCell ⟨c,4,none⟩ v4).setCell ⟨c,5,none⟩ v5).setCell ⟨c,6,none⟩ v6).setCell ⟨c,7,none⟩ v7) B b m:=
 (iR (iR (iR (iR (iR (iR (iR (iR h _ a) _ a) _ a) _ a) _ a) _ a) _ a) _ a)
theorem rL(h:Kb b w w'):Kn b w w':=h
theorem LA{v:ByteArray}(h:v∈lH++dx):v.size<=100:=by
 simp only[lH,dx,a2i,a1v,a1h,a1M,a1C]at h;rcases h with rfl|rfl|rfl|rfl|rfl|rfl|rfl|rfl|rfl|rfl|rfl|rfl|rfl|rfl|rfl|rfl<;>decide
theorem tG(B b m:Nat)(w:World)(h:Rd w B b m)(x:m<=70000) :
  Calls prog 110 #[.pointer (some ⟨b,0,none⟩)] w fun e w'=>∃n y mo d h mi s t,e = .returned (.agg #[.string n,.int .i64 y,.int .i64 mo,.int .i64 d,.int .i64 h,.int .i64 mi,.int .i64 s,.string t])/\(n∈dx/\t.size<=400)/\Rd w' B b (m+57)/\Kn b w w':=by
 have c:=h.lt;have l:=af (dE w (.cells #[.string ⟨#[]⟩,.int .i64 0,.int .i64 0,.int .i64 0,.int .i64 0,.int .i64 0,.int .i64 0,.string ⟨#[]⟩] 32) c);have X0:=af (ui w ⟨#[]⟩ 0 0 0 0 0 0 ⟨#[]⟩ 32);have q:=af (h.alloc (.cells #[.string ⟨#[]⟩,.int .i64 0,.int .i64 0,.int .i64 0,.int .i64 0,.int .i64 0,.int .i64 0,.string ⟨#[]⟩] 32));have a:=af (show w.heap.size≠b by omega);have f:=af c;have g:=af x;clear h c x;go_enter func110,ntmps110;go_wp2_with fail;refine(kO B b m _ (ae q) (by have:=ae g;omega)).mono ?_;rintro e w1 ⟨n,z,rfl,C,i⟩;have F:=af z;have o:=af ((ae l).trans i);have X1:=af ((ae X0).kn i (ae a));have r:=af C;clear l X0 q i C z;go_wp2_with fail;refine(we B b _ _ (ae r) (by have:=ae g;omega)).mono ?_;rintro e w2 ⟨y,mo,d,h,mi,s,rfl,K,D,j⟩;have p:=af ((ae o).trans (rL j));have X2:=af ((ae X1).kn (rL j) (ae a));have u:=af D;clear o X1 r j D K;go_wp2_with fail;refine(jQ B b _ _ (ae u) (by have:=ae g;omega)).mono ?_;rintro e w3 ⟨⟨t,rfl,A⟩,E,k⟩;have G:=af A;have I:=af ((ae p).trans k);have X3:=af ((ae X2).kn k (ae a));have J:=af E;clear p X2 u k E A;have H:=af ((ae X3).store n y mo d h mi s t);obtain⟨⟨c0,c1,c2,c3,c4,M,N,O⟩,⟨f0,f1,f2,f3,f4,f5,f6,f7⟩,L⟩:=ae X3;clear X3;go_wp2;obtain⟨⟨z0,z1,z2,z3,z4,z5,z6,z7⟩,_,_⟩:=ae H;refine a0R (v:=.agg #[.string n,.int .i64 y,.int .i64 mo,.int .i64 d,.int .i64 h,.int .i64 mi,.int .i64 s,.string t]) (by simp[results,results110,go_sem,z0,z1,z2,z3,z4,z5,z6,z7]) rfl ⟨n,y,mo,d,h,mi,s,t,rfl,⟨ae F,ae G⟩,?_,?_⟩
 . exact Ju (ae J) (ae f) _ _ _ _ _ _ _ _
 . exact Iv (ae I) (a0a _) (ae f) _ _ _ _ _ _ _ _
end Go.Proofs.YtkdlcomfpffhhaaGreatDoor
