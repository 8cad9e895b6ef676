/- Texts. -/
import Derived.Test.YtfannoajibacnaaGreatDoorM18
import Derived.Test.YtfannoajibacnaaGreatDoorShelf
set_option linter.all false
set_option maxRecDepth 100000
set_option maxHeartbeats 4000000
namespace Go.Proofs.YtfannoajibacnaaGreatDoor
open Go.Proofs.Tryz
open Go.RowKit
variable {B b c o:Nat}{W w w':World}{d h mi mo s y:Int}{n t:ByteArray}{vs:List Value}{x0 x1 x2 x3 x4 x5 x6:Value}
def Jv:ByteArray:=⟨#[97,98,99,100,101,102,103,104,105,106,107,108,109,110,111,112,113,114,115,116,117,118,119,120,121,122,48,49,50,51,52,53,54,55,56,57,46,45,95]⟩
def GN(b:UInt8):Lib.indexByte Jv.data.toList ((b.toNat:Int).toNat.toUInt8)=Lib.indexByte EV b:=by
 have:(b.toNat:Int).toNat.toUInt8=b:=by simp
 rw[this];rfl
def KP(b:UInt8)(w:World):Calls prog 161 #[Jv,.int .u8 (b.toNat:Int)] w fun e w'=>e = .returned (.int .i64 (Lib.indexByte EV b))/\w'=w:=by
 have:=Tryz.strings_IndexByte Jv (b.toNat:Int) w;rw[GN]at this;exact this
def Ik(p:ByteArray)(w:World)(O:p.size<=1048576) :
  Ds 123 #[p] w (.bool (gx p.data.toList)):=by
 have P:(p.size:Int)<=1048576:=by omega
 obtain⟨c,x1,R,f,L,x,q,y⟩:=Gv p w;have r:=af x;have A:Hid (∀i (h:i<p.size),x1.cell? ⟨w.heap.size,i,none⟩=some (.int .u8 (p[i].toNat:Int))):=fun i h=>Ma q (y i h);have z:=af (fun b W=>KP b W);unfold Jv at z;clear O q y x;go_enter func123,ntmps123;go_wp2_with fail
 go_loop [4,8] (fun _ i=>∃m:Nat,m<=p.size/\i = .int .i64 m/\∀j (k:j<p.size),j<m->okB p[j]=true) (fun _ i=>p.size-(intOf i).toNat)
 case atStart=>exact⟨0,a0g _,rfl,fun j _ k=>absurd k (by omega)⟩
 case round=>
  obtain⟨m,H,rfl,o⟩:=hrel;have d:=af o;have u:=af H;clear o;by_cases l:m<p.size
  .
   have N:(m:Int)<(p.size:Int):=(by omega);have t:=af l;have S:=ae A m l;have B:Hid (okB p[m]=true->∀j (k:j<p.size),j<m+1->okB p[j]=true):=by
    intro e j k M;by_cases G:j=m
    . subst G;exact e
    . exact d j k (by omega)
   have C:=af (fun e=>@pj p m l e);have a:=SC p[m];have s:=af (ae z p[m]);generalize p[m]=b at *;generalize Lib.indexByte EV b=ix at *;clear H d u z A;cases n:okB b
   .
    have F:ix<0:=by rw[n]at a;simpa using a
    have HP:=af (ae C n);clear a;go_wp2_with (go_at_call 161;apply(s _).mono;rintro e w9⟨rfl,g⟩;rw[g];clear g);go_ret;exact⟨am HP.symm,r⟩
   .
    have F:¬ ix<0:=by rw[n]at a;simpa using a
    have I:=af (ae B n);clear a;go_wp2_with (go_at_call 161;apply(s _).mono;rintro e w9⟨rfl,g⟩;rw[g];clear g)
    go_round
    case rel=>exact⟨m+1,by have:=ae t;omega,by go_num,I⟩
    case measure=>have:=ae t;simp[intOf];omega
  .
   obtain rfl:m=p.size:=by have:=ae u;omega
   have v:Hid (∀j (k:j<p.size),okB p[j]=true):=fun j k=>ae d j k k;clear d l H z A;by_cases z1:(1:Int)<=(p.size:Int)
   .
    by_cases z2:(p.size:Int)<=10
    .
     have Q:inB (p.size:Int) 1 10=true:=aI.2 ⟨z1,z2⟩;cases D:(p.toList == [46])
     .
      cases E:(p.toList == [46,46])
      . have HP:=af (Jw v Q D E);go_wp2;go_ret;exact⟨am HP.symm,r⟩
      .
       have HP:=af (zH E);have K:p.toList=[46,46]:=by simpa using E
       go_wp2;go_ret;exact⟨am HP.symm,r⟩
     .
      have HP:=af (EW D);have J:p.toList=[46]:=by simpa using D
      go_wp2;go_ret;exact⟨am HP.symm,r⟩
    . have HP:=af (tp (fs.2 (.inr (by omega)):inB (p.size:Int) 1 10=false));go_wp2;go_ret;exact⟨am HP.symm,r⟩
   . have HP:=af (tp (fs.2 (.inl (by omega)):inB (p.size:Int) 1 10=false));go_wp2;go_ret;exact⟨am HP.symm,r⟩
def qw:ByteArray:=⟨#[47]⟩
def ql(s:ByteArray):List ByteArray:=Lib.splitB qw 0 (Lib.countB s qw) s
def LX(s:ByteArray):(ql s).length=Lib.countB s qw+1:=Lib.splitB_all qw (by decide) 0 _ s rfl
def LW(s:ByteArray):(ql s).map (·.data.toList)=py s.data.toList:=by
 unfold ql py;rw[Lib.splitB_data,←tE];rfl
def Me(s:ByteArray)(m:Int)(w:World)(b:s.size<=1048576)(a:w.cell? ⟨2,0,none⟩=some (.int .i64 m)) :
  Calls prog 122 #[s,qw] w fun e w'=>e = .returned (.slice w.heap.size (ql s).length (ql s).length)/\w'=w.alloc (.cells ((ql s).map Value.string).toArray 9):=by
 have:=Tryz.strings_Split s qw m w (by omega) a (by decide);rw[LX];exact this
def nV(s:ByteArray)(m:Int)(w:World)(O:s.size<=1048576)(M:w.cell? ⟨2,0,none⟩=some (.int .i64 m)) :
  Ds 78 #[s] w (.bool (fC s.data.toList)):=by
 have d:=af (Me s m w O M);unfold qw at d;have b:=LW s;generalize ql s=l at *;obtain⟨n,hn⟩:∃n,l.length=n:=⟨_,rfl⟩;rw[hn]at d;have G:n<=s.size+1:=by
  have e:=congrArg List.length b;have:=qT s.data.toList [];simp only[a0O]at e;have h2:s.data.toList.length=s.size:=by simp
  unfold py at e;omega
 have S:(n:Int)<=1048577:=by omega
 have Q:Hid (∀k,k<n->(l.getD k ByteArray.empty).size<=1048576):=by
  intro k A;have y:(l.getD k ByteArray.empty).data.toList∈py s.data.toList:=by
   rw[←b,a2S];exact⟨l.getD k ByteArray.empty,by simp[List.getD,hn,A],rfl⟩
  have:=oO s.data.toList [] _ y;have e1:(l.getD k ByteArray.empty).data.toList.length=(l.getD k ByteArray.empty).size:=by simp
  have e2:s.data.toList.length=s.size:=by simp
  simp only[a0U]at *
  omega
 have q:=af (fun j (v:j<l.length)=>@Jo s l b j v);have f:=af (@ED s l b);rw[hn]at q f;obtain⟨x1,hx1⟩:∃x,x=w.alloc (.cells (l.map Value.string).toArray 9):=⟨_,rfl⟩;have I:Hid (∀j,j<n->x1.cell? ⟨w.heap.size,j,none⟩=some (.string (l.getD j ByteArray.empty))):=by
  intro j v;rw[hx1];have:j<l.length:=by omega
  simp[this,List.getD]
 have g:Hid (Below w.heap.size w x1):=by rw[hx1];exact cC
 have B:Hid (w.heap.size<x1.heap.size):=by show _<_;rw[hx1];simp
 rw[←hx1]at d;clear hx1 O M b G hn;go_enter func78,ntmps78;go_wp2_with fail;apply d.mono;rintro e y1⟨rfl,z⟩;rw[z];clear z d;go_wp2_with fail
 go_loopw [5,10] (fun _ i wr=>∃k:Nat,k<=n/\i = .int .i64 k/\(∀j,j<k->gx (l.getD j ByteArray.empty).data.toList=true)/\Below x1.heap.size x1 wr) (fun _ i _=>n-(intOf i).toNat)
 case atStart=>exact⟨0,a0g _,rfl,fun j v=>absurd v (by omega),a0c _ _⟩
 case round=>
  obtain⟨k,A,rfl,o,a⟩:=hrel;have c:=af o;have T:=af A;have r:=af a;clear o;by_cases h:k<n
  .
   have R:(k:Int)<(n:Int):=(by omega);have U:=(a.cell (p:=⟨w.heap.size,k,none⟩) B).trans (I k h);have u:=af (ae q k h);have C:Hid (gx (l.getD k ByteArray.empty).data.toList=true->∀j,j<k+1->gx (l.getD j ByteArray.empty).data.toList=true):=by
    intro e j v;by_cases F:j=k
    . rw[F];exact e
    . exact c j (by omega)
   have t:=af h;have D:=af (ae Q k h);clear A c a;generalize l.getD k ByteArray.empty=p at *;go_wp2_with fail;apply(Ik p _ D).mono;rintro e z1⟨rfl,P⟩;have K:=af (aj r P);clear P;cases N:gx p.data.toList
   . have HP:=af (ae u N);go_wp2;go_ret;exact⟨am HP.symm,g.trans (K.mono g.size)⟩
   .
    have HP:=af (ae C N);go_wp2;go_roundw
    case rel=>exact⟨k+1,by have:=ae t;omega,by go_num,HP,K⟩
    case measure=>have:=ae t;simp[intOf];omega
  .
   obtain rfl:k=n:=by omega
   have J:=af (ae f (ae c));have H:=af (g.trans (a.mono g.size));clear c f q I a;by_cases L:k<=4
   .
    have E:(k:Int)<=4:=(by omega);go_wp2;go_ret;exact⟨am (by rw[ae J];simp[L]),H⟩
   .
    have E:¬ (k:Int)<=4:=(by omega);go_wp2;go_ret;exact⟨am (by rw[ae J];simp[L]),H⟩
def Ent(w:World)(b:Nat)(n:ByteArray)(y mo d h mi s:Int)(t:ByteArray):Prop:=(w.cell? ⟨b,0,none⟩=some (.string n)/\w.cell? ⟨b,1,none⟩=some (.int .i64 y)/\w.cell? ⟨b,2,none⟩=some (.int .i64 mo)/\w.cell? ⟨b,3,none⟩=some (.int .i64 d)/\w.cell? ⟨b,4,none⟩=some (.int .i64 h)/\w.cell? ⟨b,5,none⟩=some (.int .i64 mi)/\w.cell? ⟨b,6,none⟩=some (.int .i64 s)/\w.cell? ⟨b,7,none⟩=some (.string t))/\(w.frozen? ⟨b,0,none⟩=false/\w.frozen? ⟨b,1,none⟩=false/\w.frozen? ⟨b,2,none⟩=false/\w.frozen? ⟨b,3,none⟩=false/\w.frozen? ⟨b,4,none⟩=false/\w.frozen? ⟨b,5,none⟩=false/\w.frozen? ⟨b,6,none⟩=false/\w.frozen? ⟨b,7,none⟩=false)/\b<w.heap.size
def kA(w:World)(n:ByteArray)(y mo d h mi s:Int)(t:ByteArray)(u:TypeId):Ent (w.alloc (.cells #[n,y,mo,d,h,mi,s,t] u)) w.heap.size n y mo d h mi s t:=by
 refine⟨⟨?_,?_,?_,?_,?_,?_,?_,?_⟩,⟨?_,?_,?_,?_,?_,?_,?_,?_⟩,?_⟩<;>simp
def Ent.later(k:Ent w b n y mo d h mi s t)(hb:Below B w w')(a:b<B):Ent w' b n y mo d h mi s t:=by
 obtain⟨⟨c0,c1,c2,c3,c4,e,f,g⟩,⟨f0,f1,f2,f3,f4,f5,f6,f7⟩,c⟩:=k;refine⟨⟨?_,?_,?_,?_,?_,?_,?_,?_⟩,⟨?_,?_,?_,?_,?_,?_,?_,?_⟩,a0h c hb.size⟩
 . exact(hb.cell (p:=⟨b,0,none⟩) a).trans c0
 . exact(hb.cell (p:=⟨b,1,none⟩) a).trans c1
 . exact(hb.cell (p:=⟨b,2,none⟩) a).trans c2
 . exact(hb.cell (p:=⟨b,3,none⟩) a).trans c3
 . exact(hb.cell (p:=⟨b,4,none⟩) a).trans c4
 . exact(hb.cell (p:=⟨b,5,none⟩) a).trans e
 . exact(hb.cell (p:=⟨b,6,none⟩) a).trans f
 . exact(hb.cell (p:=⟨b,7,none⟩) a).trans g
 . exact(hb.frozen (p:=⟨b,0,none⟩) a).trans f0
 . exact(hb.frozen (p:=⟨b,1,none⟩) a).trans f1
 . exact(hb.frozen (p:=⟨b,2,none⟩) a).trans f2
 . exact(hb.frozen (p:=⟨b,3,none⟩) a).trans f3
 . exact(hb.frozen (p:=⟨b,4,none⟩) a).trans f4
 . exact(hb.frozen (p:=⟨b,5,none⟩) a).trans f5
 . exact(hb.frozen (p:=⟨b,6,none⟩) a).trans f6
 . exact(hb.frozen (p:=⟨b,7,none⟩) a).trans f7
def av{i j:Nat}{v:Value}{c:Option Value}(k:w.cell? ⟨b,j,none⟩=c)(h:i≠j):(w.setCell ⟨b,i,none⟩ v).cell? ⟨b,j,none⟩=c:=by
 rw[World.cell?_setCell_other _ _ _ _ (fun e=>h (by cases e;rfl))];exact k
def Ent.store(k:Ent w b n y mo d h mi s t)(n':ByteArray)(y' mo' c e mi' s':Int)(t':ByteArray) :
  Ent ((((((((w.setCell ⟨b,0,none⟩ (.string n')).setCell ⟨b,1,none⟩ (.int .i64 y')).setCell ⟨b,2,none⟩ (.int .i64 mo')).setCell ⟨b,3,none⟩ (.int .i64 c)).setCell ⟨b,4,none⟩ (.int .i64 e)).setCell ⟨b,5,none⟩ (.int .i64 mi')).setCell ⟨b,6,none⟩ (.int .i64 s')).setCell ⟨b,7,none⟩ (.string t')) b n' y' mo' c e mi' s' t':=by
 obtain⟨⟨c0,c1,c2,c3,c4,f,g,i⟩,⟨f0,f1,f2,f3,f4,f5,f6,f7⟩,a⟩:=k;refine⟨⟨?_,?_,?_,?_,?_,?_,?_,?_⟩,⟨?_,?_,?_,?_,?_,?_,?_,?_⟩,by simpa using a⟩
 . exact av (av (av (av (av (av (av (World.cell?_setCell_same _ _ _ c0) (by decide)) (by decide)) (by decide)) (by decide)) (by decide)) (by decide)) (by decide)
 . exact av (av (av (av (av (av (World.cell?_setCell_same _ _ _ (av (c1) (by decide))) (by decide)) (by decide)) (by decide)) (by decide)) (by decide)) (by decide)
 . exact av (av (av (av (av (World.cell?_setCell_same _ _ _ (av (av (c2) (by decide)) (by decide))) (by decide)) (by decide)) (by decide)) (by decide)) (by decide)
 . exact av (av (av (av (World.cell?_setCell_same _ _ _ (av (av (av (c3) (by decide)) (by decide)) (by decide))) (by decide)) (by decide)) (by decide)) (by decide)
 . exact av (av (av (World.cell?_setCell_same _ _ _ (av (av (av (av (c4) (by decide)) (by decide)) (by decide)) (by decide))) (by decide)) (by decide)) (by decide)
 . exact av (av (World.cell?_setCell_same _ _ _ (av (av (av (av (av (f) (by decide)) (by decide)) (by decide)) (by decide)) (by decide))) (by decide)) (by decide)
 . exact av (World.cell?_setCell_same _ _ _ (av (av (av (av (av (av (g) (by decide)) (by decide)) (by decide)) (by decide)) (by decide)) (by decide))) (by decide)
 . exact World.cell?_setCell_same _ _ _ (av (av (av (av (av (av (av (i) (by decide)) (by decide)) (by decide)) (by decide)) (by decide)) (by decide)) (by decide))
 . simpa using f0
 . simpa using f1
 . simpa using f2
 . simpa using f3
 . simpa using f4
 . simpa using f5
 . simpa using f6
 . simpa using f7
def nM{w1:World}{u:TypeId}(hb:Below (w.alloc (.cells #[n,y,mo,d,h,mi,s,t] u)).heap.size (w.alloc (.cells #[n,y,mo,d,h,mi,s,t] u)) w1):Ent w1 w.heap.size n y mo d h mi s t/\Below w.heap.size w w1:=
 ⟨(kA w n y mo d h mi s t u).later hb (by simp),cC.trans (hb.mono (by simp))⟩
def gQ(n:ByteArray)(y mo d h mi s:Int)(t:ByteArray):Bool:=fC n.data.toList&&(du y mo d h mi s&&decide (t.size<=300))
def ie(n:ByteArray)(y mo d h mi s:Int)(t:ByteArray)(w:World)(r:n.size<=1048576)(x:(t.size:Int)<=9223372036854775807) :
  Ds 25 #[.agg #[n,y,mo,d,h,mi,s,t]] w (.bool (gQ n y mo d h mi s t)):=by
 have i:=af r;clear r;go_enter func25,ntmps25;go_wp2_with fail;apply(oB n _ i).mono;rintro e w1⟨rfl,f⟩;obtain⟨X1,l⟩:=nM f;have g:=af X1;have a:=af l;clear f X1 l;obtain⟨⟨c0,c1,c2,c3,c4,m,o,p⟩,_,u⟩:=ae g;cases k:fC n.data.toList
 .
  have HP:Hid (gQ n y mo d h mi s t=false):=by simp[Hid,gQ,k]
  go_wp2;go_ret;exact⟨am HP.symm,a⟩
 .
  go_wp2_with fail;apply(uV y mo d h mi s _).mono;rintro e w2⟨rfl,c⟩;have j:=af (g.later c g.2.2);have b:=af (aj a c);clear c g a c0 c1 c2 c3 c4 m o p;obtain⟨⟨c0,c1,c2,c3,c4,m,o,p⟩,_,_⟩:=ae j;cases q:du y mo d h mi s
  .
   have HP:Hid (gQ n y mo d h mi s t=false):=by simp[Hid,gQ,k,q]
   go_wp2;go_ret;exact⟨am HP.symm,b⟩
  .
   have HP:Hid (gQ n y mo d h mi s t=decide (t.size<=300)):=by simp[Hid,gQ,k,q]
   by_cases v:(t.size:Int)<=300
   . go_wp2;go_ret;exact⟨am (by rw[ae HP];simp;omega),b⟩
   . go_wp2;go_ret;exact⟨am (by rw[ae HP];simp;omega),b⟩
def jO(n:ByteArray)(y mo d h mi s:Int)(t:ByteArray)(m:Int)(w:World)(v:n.size<=1048576)(B:(t.size:Int)<=9223372036854775807)(l:w.cell? ⟨2,0,none⟩=some (.int .i64 m)) :
  Ds 51 #[.agg #[n,y,mo,d,h,mi,s,t]] w (.bool (gQ n y mo d h mi s t)):=by
 have i:=af v;clear v;have x:Hid ((w.alloc (.cells #[n,y,mo,d,h,mi,s,t] 26)).cell? ⟨2,0,none⟩=some (.int .i64 m)):=by
  show _=_;rw[World.cell?_alloc_past _ _ _ (World.block_lt_of_cell? _ _ l)];exact l
 clear l;go_enter func51,ntmps51;go_wp2_with fail;apply(nV n m _ i x).mono;rintro e w1⟨rfl,f⟩;obtain⟨X1,o⟩:=nM f;have g:=af X1;have a:=af o;clear f X1 o;obtain⟨⟨c0,c1,c2,c3,c4,p,q,r⟩,_,z⟩:=ae g;cases k:fC n.data.toList
 .
  have HP:Hid (gQ n y mo d h mi s t=false):=by simp[Hid,gQ,k]
  go_wp2;go_ret;exact⟨am HP.symm,a⟩
 .
  go_wp2_with fail;apply(dZ y mo d h mi s _).mono;rintro e w2⟨rfl,c⟩;have j:=af (g.later c g.2.2);have b:=af (aj a c);clear c g a c0 c1 c2 c3 c4 p q r;obtain⟨⟨c0,c1,c2,c3,c4,p,q,r⟩,_,_⟩:=ae j;cases u:du y mo d h mi s
  .
   have HP:Hid (gQ n y mo d h mi s t=false):=by simp[Hid,gQ,k,u]
   go_wp2;go_ret;exact⟨am HP.symm,b⟩
  .
   have HP:Hid (gQ n y mo d h mi s t=decide (t.size<=300)):=by simp[Hid,gQ,k,u]
   by_cases A:(t.size:Int)<=300
   . go_wp2;go_ret;exact⟨am (by rw[ae HP];simp;omega),b⟩
   . go_wp2;go_ret;exact⟨am (by rw[ae HP];simp;omega),b⟩
def Blk(w:World)(b:Nat)(vs:List Value):Prop:=b<w.heap.size/\∀(i:Nat) (v:Value),vs[i]?=some v->w.cell? ⟨b,i,none⟩=some v/\w.frozen? ⟨b,i,none⟩=false
def Blk.cell(h:Blk w b vs)(i:Nat)(v:Value)(e:vs[i]?=some v):w.cell? ⟨b,i,none⟩=some v:=(h.2 i v e).1
def Blk.free(h:Blk w b vs)(i:Nat)(a:i<vs.length):w.frozen? ⟨b,i,none⟩=false:=(h.2 i (vs[i]) (by simp[a])).2
def Blk.later(h:Blk w b vs)(hb:Below B w w')(a:b<B):Blk w' b vs:=
 ⟨a0h h.1 hb.size,fun i v e=>⟨(hb.cell (p:=⟨b,i,none⟩) a).trans (h.2 i v e).1,(hb.frozen (p:=⟨b,i,none⟩) a).trans (h.2 i v e).2⟩⟩
def Blk.drew(h:Blk w b vs):Blk w.drew b vs:=h
def Blk.set_other(h:Blk w b vs)(v:Value)(a:b≠c):Blk (w.setCell ⟨c,o,none⟩ v) b vs:=by
 have e:(w.setCell ⟨c,o,none⟩ v).heap[b]?=w.heap[b]?:=a0M w ⟨c,o,none⟩ v b a;exact⟨by simpa using h.1,fun i x ex=>⟨(World.cell?_of_block (w:=w) e).trans (h.2 i x ex).1,(World.frozen?_of_block (w:=w) e).trans (h.2 i x ex).2⟩⟩
def Blk.set(h:Blk w b vs)(o:Nat)(v:Value):Blk (w.setCell ⟨b,o,none⟩ v) b (vs.set o v):=by
 refine⟨by simpa using h.1,fun i x ex=>?_⟩;by_cases a:o=i
 .
  subst a;rw[List.getElem?_set]at ex;by_cases c:o<vs.length
  .
   rw[a0d rfl,a0d c]at ex;obtain rfl:v=x:=by simpa using ex
   have:=h.2 o vs[o] (by simp[c]);exact⟨World.cell?_setCell_same _ _ _ this.1,by simpa using this.2⟩
  . rw[a0d rfl,a0e c]at ex;cases ex
 . rw[List.getElem?_set_ne a]at ex;have:=h.2 i x ex;exact⟨av this.1 a,by simpa using this.2⟩
def ay(w:World)(a:Array Value)(u:TypeId):Blk (w.alloc (.cells a u)) w.heap.size a.toList:=by
 refine⟨by simp,fun i v e=>?_⟩;have e':a[i]?=some v:=by simpa using e
 constructor
 . simp[e']
 . simp
def Blk.cells(h:Blk w b vs){n:Nat}(c:vs.length=n):∀i,i<n->w.cell? ⟨b,i,none⟩=vs[i]?:=fun i a=>by
 have e:vs[i]?=some (vs[i]'(by omega)):=List.getElem?_eq_getElem (by omega);rw[e];exact h.cell i _ e
def Blk.frees(h:Blk w b vs){n:Nat}(c:vs.length=n):∀i,i<n->w.frozen? ⟨b,i,none⟩=false:=fun i a=>h.free i (by omega)
def yJ{x7:Value}(hb:Below B w W)(a:B<=b)(h:Blk W b [x0,x1,x2,x3,x4,x5,x6,x7])(a0 a1 a2 a3 a4 a5 a6 a7:Value):Below B w ((((((((W.setCell ⟨b,0,none⟩ a0).setCell ⟨b,1,none⟩ a1).setCell ⟨b,2,none⟩ a2).setCell ⟨b,3,none⟩ a3).setCell ⟨b,4,none⟩ a4).setCell ⟨b,5,none⟩ a5).setCell ⟨b,6,none⟩ a6).setCell ⟨b,7,none⟩ a7)/\Blk ((((((((W.setCell ⟨b,0,none⟩ a0).setCell ⟨b,1,none⟩ a1).setCell ⟨b,2,none⟩ a2).setCell ⟨b,3,none⟩ a3).setCell ⟨b,4,none⟩ a4).setCell ⟨b,5,none⟩ a5).setCell ⟨b,6,none⟩ a6).setCell ⟨b,7,none⟩ a7) b [a0,a1,a2,a3,a4,a5,a6,a7]:=
 ⟨(ai (ai (ai (ai (ai (ai (ai (ai hb a a0) a a1) a a2) a a3) a a4) a a5) a a6) a a7),((((((((h.set 0 a0).set 1 a1).set 2 a2).set 3 a3).set 4 a4).set 5 a5).set 6 a6).set 7 a7)⟩
def qk(h:Blk W c vs)(a:c≠b)(a0 a1 a2 a3 a4 a5 a6 a7:Value):Blk ((((((((W.setCell ⟨b,0,none⟩ a0).setCell ⟨b,1,none⟩ a1).setCell ⟨b,2,none⟩ a2).setCell ⟨b,3,none⟩ a3).setCell ⟨b,4,none⟩ a4).setCell ⟨b,5,none⟩ a5).setCell ⟨b,6,none⟩ a6).setCell ⟨b,7,none⟩ a7) c vs:=((((((((h.set_other a0 a).set_other a1 a).set_other a2 a).set_other a3 a).set_other a4 a).set_other a5 a).set_other a6 a).set_other a7 a)
def Blk.set6(h:Blk W b [x0,x1,x2,x3,x4,x5])(a0 a1 a2 a3 a4 a5:Value):Blk ((((((W.setCell ⟨b,0,none⟩ a0).setCell ⟨b,1,none⟩ a1).setCell ⟨b,2,none⟩ a2).setCell ⟨b,3,none⟩ a3).setCell ⟨b,4,none⟩ a4).setCell ⟨b,5,none⟩ a5) b [a0,a1,a2,a3,a4,a5]:=((((((h.set 0 a0).set 1 a1).set 2 a2).set 3 a3).set 4 a4).set 5 a5)
def Nf(hb:Below B w W)(a:B<=b)(a0 a1 a2 a3 a4 a5 a6:Value):Below B w (((((((W.setCell ⟨b,0,none⟩ a0).setCell ⟨b,1,none⟩ a1).setCell ⟨b,2,none⟩ a2).setCell ⟨b,3,none⟩ a3).setCell ⟨b,4,none⟩ a4).setCell ⟨b,5,none⟩ a5).setCell ⟨b,6,none⟩ a6):=(ai (ai (ai (ai (ai (ai (ai hb a a0) a a1) a a2) a a3) a a4) a a5) a a6)
def Blk.set7(h:Blk W b [x0,x1,x2,x3,x4,x5,x6])(a0 a1 a2 a3 a4 a5 a6:Value):Blk (((((((W.setCell ⟨b,0,none⟩ a0).setCell ⟨b,1,none⟩ a1).setCell ⟨b,2,none⟩ a2).setCell ⟨b,3,none⟩ a3).setCell ⟨b,4,none⟩ a4).setCell ⟨b,5,none⟩ a5).setCell ⟨b,6,none⟩ a6) b [a0,a1,a2,a3,a4,a5,a6]:=(((((((h.set 0 a0).set 1 a1).set 2 a2).set 3 a3).set 4 a4).set 5 a5).set 6 a6)
def Ps(h:Blk W c vs)(a:c≠b)(a0 a1 a2 a3 a4 a5 a6:Value):Blk (((((((W.setCell ⟨b,0,none⟩ a0).setCell ⟨b,1,none⟩ a1).setCell ⟨b,2,none⟩ a2).setCell ⟨b,3,none⟩ a3).setCell ⟨b,4,none⟩ a4).setCell ⟨b,5,none⟩ a5).setCell ⟨b,6,none⟩ a6) c vs:=(((((((h.set_other a0 a).set_other a1 a).set_other a2 a).set_other a3 a).set_other a4 a).set_other a5 a).set_other a6 a)
def Ng(hb:Below B w W)(a:B<=b)(a0 a1 a2 a3 a4 a5 a6 a7:Value):Below B w ((((((((W.setCell ⟨b,0,none⟩ a0).setCell ⟨b,1,none⟩ a1).setCell ⟨b,2,none⟩ a2).setCell ⟨b,3,none⟩ a3).setCell ⟨b,4,none⟩ a4).setCell ⟨b,5,none⟩ a5).setCell ⟨b,6,none⟩ a6).setCell ⟨b,7,none⟩ a7):=(ai (ai (ai (ai (ai (ai (ai (ai hb a a0) a a1) a a2) a a3) a a4) a a5) a a6) a a7)
def Blk.set8{x7:Value}(h:Blk W b [x0,x1,x2,x3,x4,x5,x6,x7])(a0 a1 a2 a3 a4 a5 a6 a7:Value):Blk ((((((((W.setCell ⟨b,0,none⟩ a0).setCell ⟨b,1,none⟩ a1).setCell ⟨b,2,none⟩ a2).setCell ⟨b,3,none⟩ a3).setCell ⟨b,4,none⟩ a4).setCell ⟨b,5,none⟩ a5).setCell ⟨b,6,none⟩ a6).setCell ⟨b,7,none⟩ a7) b [a0,a1,a2,a3,a4,a5,a6,a7]:=((((((((h.set 0 a0).set 1 a1).set 2 a2).set 3 a3).set 4 a4).set 5 a5).set 6 a6).set 7 a7)
def Ent.kn(k:Ent w c n y mo d h mi s t)(f:Kn b w w')(l:c≠b):Ent w' c n y mo d h mi s t:=by
 obtain⟨⟨c0,c1,c2,c3,c4,g,i,j⟩,⟨f0,f1,f2,f3,f4,f5,f6,f7⟩,a⟩:=k;have e:=f.2.1 c a l;refine⟨⟨?_,?_,?_,?_,?_,?_,?_,?_⟩,⟨?_,?_,?_,?_,?_,?_,?_,?_⟩,a0h a f.2.2⟩
 . exact(World.cell?_of_block (w:=w) e).trans c0
 . exact(World.cell?_of_block (w:=w) e).trans c1
 . exact(World.cell?_of_block (w:=w) e).trans c2
 . exact(World.cell?_of_block (w:=w) e).trans c3
 . exact(World.cell?_of_block (w:=w) e).trans c4
 . exact(World.cell?_of_block (w:=w) e).trans g
 . exact(World.cell?_of_block (w:=w) e).trans i
 . exact(World.cell?_of_block (w:=w) e).trans j
 . exact(World.frozen?_of_block (w:=w) e).trans f0
 . exact(World.frozen?_of_block (w:=w) e).trans f1
 . exact(World.frozen?_of_block (w:=w) e).trans f2
 . exact(World.frozen?_of_block (w:=w) e).trans f3
 . exact(World.frozen?_of_block (w:=w) e).trans f4
 . exact(World.frozen?_of_block (w:=w) e).trans f5
 . exact(World.frozen?_of_block (w:=w) e).trans f6
 . exact(World.frozen?_of_block (w:=w) e).trans f7
def gE{a:World}(h:Kn b a w)(v:Value)(e:a.heap.size<=c)(hb:b<a.heap.size):Kn b a (w.setCell ⟨c,o,none⟩ v):=
 ⟨ai h.1 (a0E (a0s hb) e) _,fun k f d=>(a0M w ⟨c,o,none⟩ v k (by show k≠c;omega)).trans (h.2.1 k f d),by simpa using h.2.2⟩
def eE{m:Nat}(h:Rd w B b m)(v:Value)(a:b<c):Rd (w.setCell ⟨c,o,none⟩ v) B b m:=
 h.kept (ai (a0c _ _) (by omega) _)
def nY{a:World}(h:Kn b a w)(d:a.heap.size<=c)(hb:b<a.heap.size)(v0 v1 v2 v3 v4 v5 v6 v7:Value):Kn b a ((((((((w.setCell ⟨c,0,none⟩ v0).setCell ⟨c,1,none⟩ v1).setCell ⟨c,2,none⟩ v2).setCell ⟨c,3,none⟩ v3).setCell ⟨c,4,none⟩ v4).setCell ⟨c,5,none⟩ v5).setCell ⟨c,6,none⟩ v6).setCell ⟨c,7,none⟩ v7):=
 (gE (gE (gE (gE (gE (gE (gE (gE h _ d hb) _ d hb) _ d hb) _ d hb) _ d hb) _ d hb) _ d hb) _ d hb)
def ov{m:Nat}(h:Rd w B b m)(a:b<c)(v0 v1 v2 v3 v4 v5 v6 v7:Value):Rd ((((((((w.setCell ⟨c,0,none⟩ v0).setCell ⟨c,1,none⟩ v1).setCell ⟨c,2,none⟩ v2).setCell ⟨c,3,none⟩ v3).setCell ⟨c,4,none⟩ v4).setCell ⟨c,5,none⟩ v5).setCell ⟨c,6,none⟩ v6).setCell ⟨c,7,none⟩ v7) B b m:=
 (eE (eE (eE (eE (eE (eE (eE (eE h _ a) _ a) _ a) _ a) _ a) _ a) _ a) _ a)
def rn(h:Kb b w w'):Kn b w w':=h
def vn{v:ByteArray}(h:v∈pg++gn):v.size<=100:=by
 simp only[pg,gn,a1q,a1a,a02,a1D,a1v]at h;rcases h with rfl|rfl|rfl|rfl|rfl|rfl|rfl|rfl|rfl|rfl|rfl|rfl|rfl|rfl|rfl|rfl<;>decide
def pH(B b m:Nat)(w:World)(h:Rd w B b m)(x:m<=70000) :
  Calls prog 82 #[.pointer b] w fun e w'=>∃n y mo d h mi s t,e = .returned (.agg #[.string n,.int .i64 y,.int .i64 mo,.int .i64 d,.int .i64 h,.int .i64 mi,.int .i64 s,.string t])/\(n∈gn/\t.size<=400)/\Rd w' B b (m+57)/\Kn b w w':=by
 have c:=h.lt;have l:=af (gV w (.cells () 26) c);have X0:=af (kA w ⟨#[]⟩ 0 0 0 0 0 0 ⟨#[]⟩ 26);have q:=af (h.alloc (.cells () 26));have a:=af (show w.heap.size≠b by omega);have f:=af c;have g:=af x;clear h c x;go_enter func82,ntmps82;go_wp2_with fail;refine(oc B b m _ q (by have:=ae g;omega)).mono ?_;rintro e w1⟨n,z,rfl,C,i⟩;have F:=af z;have o:=af (l.trans i);have X1:=af (X0.kn i a);have r:=af C;clear l X0 q i C z;go_wp2_with fail;refine(rp B b _ _ r (by have:=ae g;omega)).mono ?_;rintro e w2⟨y,mo,d,h,mi,s,rfl,K,D,j⟩;have p:=af (o.trans (rn j));have X2:=af (X1.kn (rn j) a);have u:=af D;clear o X1 r j D K;go_wp2_with fail;refine(rq B b _ _ u (by have:=ae g;omega)).mono ?_;rintro e w3⟨⟨t,rfl,A⟩,E,k⟩;have G:=af A;have I:=af (p.trans k);have X3:=af (X2.kn k a);have J:=af E;clear p X2 u k E A;have H:=af (X3.store n y mo d h mi s t);obtain⟨⟨c0,c1,c2,c3,c4,M,N,O⟩,⟨f0,f1,f2,f3,f4,f5,f6,f7⟩,L⟩:=ae X3;clear X3;go_wp2;obtain⟨⟨z0,z1,z2,z3,z4,z5,z6,z7⟩,_,_⟩:=ae H;refine a0x (v:=.agg #[n,y,mo,d,h,mi,s,t]) (by simp[results,results82,go_sem,z0,z1,z2,z3,z4,z5,z6,z7]) rfl ⟨n,y,mo,d,h,mi,s,t,rfl,⟨F,G⟩,?_,?_⟩
 . exact ov (ae J) (ae f) _ _ _ _ _ _ _ _
 . exact nY (ae I) (a0a _) (ae f) _ _ _ _ _ _ _ _
