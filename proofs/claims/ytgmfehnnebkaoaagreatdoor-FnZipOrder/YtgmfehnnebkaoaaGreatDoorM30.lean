/- Of what the proof is made: 8 texts, one behind the other. -/
import Derived.Test.YtgmfehnnebkaoaaGreatDoorM9
import Derived.Test.YtgmfehnnebkaoaaGreatDoorM26
import Derived.Test.YtgmfehnnebkaoaaGreatDoorM5
import Derived.Test.YtgmfehnnebkaoaaGreatDoorM25
import Derived.ChangeVars
import Derived.OpenVars
import Derived.Test.YtgmfehnnebkaoaaGreatDoorM19
import Derived.Test.YtgmfehnnebkaoaaGreatDoorShelf
import Derived.Test.YtgmfehnnebkaoaaGreatDoorM6
import Derived.Test.YtgmfehnnebkaoaaGreatDoorM8
set_option maxRecDepth 100000
set_option linter.unusedSimpArgs false
set_option linter.unusedVariables false
set_option maxHeartbeats 4000000
namespace Go.Proofs.YtgmfehnnebkaoaaGreatDoor
open Go.Proofs.Tryz
open Go.RowKit
variable {w:World}
def jr(e:En):List Value:=[.string e.n,.int .i64 e.y,.int .i64 e.mo,.int .i64 e.d,.int .i64 e.h,.int .i64 e.mi,.int .i64 e.s,.string e.t]
theorem Jz(e:En):(jr e).length=8:=rfl
theorem iZ(e:En):∀u∈jr e,u.oneCell'=true:=by
 intro u a;simp only[jr,a0U,a1r,a1n]at a;rcases a with rfl|rfl|rfl|rfl|rfl|rfl|rfl|rfl<;>rfl
abbrev lL(w:World)(base:Nat)(v:Value)(l:List En):Prop:=bu 33 8 jr w base v l
theorem PG{g o:Nat}{e:En}(h:∀j,j<8->w.cell? ⟨g,o+j,none⟩=(jr e)[j]?):Ow w g o e:=
 ⟨h 0 (by omega),h 1 (by omega),h 2 (by omega),h 3 (by omega),h 4 (by omega),h 5 (by omega),h 6 (by omega),h 7 (by omega)⟩
theorem sj{base g cap n:Nat}{l:List En}(c:l.length=n)(h:lL w base (.slice (some ⟨g,0,none⟩) n cap) l)(i:Nat)(a:i<n):Ow w g (i*8) (l.getD i default):=
 PG fun j b=>(bu.at Jz default c h i j a b).1
theorem cm{base cap n:Nat}{a:Option Addr}{l:List En}(c:l.length=n)(h:lL w base (.slice a n cap) l):iV w a l:=by
 intro b;obtain⟨g,rfl⟩:=h.somes b;refine⟨g,0,rfl,h.below.2,fun i d=>?_⟩;rw[a0H];exact sj c h i (by omega)
theorem Tryz.infoEnt:(prog.info? 33).map (fun i=>(i.zero,i.size,i.bytes))=some (some (.agg #[.string ⟨#[]⟩,.int .i64 0,.int .i64 0,.int .i64 0,.int .i64 0,.int .i64 0,.int .i64 0,.string ⟨#[]⟩]),8,80):=by kernel_rfl
end Go.Proofs.YtgmfehnnebkaoaaGreatDoor
namespace Go.Proofs.YtgmfehnnebkaoaaGreatDoor
open Go.Proofs.Tryz
open Go.ChangeShapes Go.WideShapes Go.ChangeAt Go.RowKit
variable {W:World}
def KY:DataW Unit:=.agg (bB.map fun n=>.lit (.int .i64 (n:Nat)))
theorem AR{W:World} : ∀(laid:List (String×DataW Unit)) (ps:List MemPlace),DataW.LaidVars prog W laid ps->("loop.example/corbel/impl.lenOrder",KY)∈laid->∃ps',DataW.LaidVars prog W [("loop.example/corbel/impl.lenOrder",KY)] ps'
 | [],_,_,h=>by cases h
 | (n,d) :: r,ps,hL,h=>by
  obtain⟨g,t,cs,fuel,p,q,hg,ht,hv,hd,hr,_⟩:=hL;rcases a0U.1 h with e|e
  . obtain⟨rfl,rfl⟩:=Prod.mk.inj e;exact⟨_,g,t,cs,fuel,p,[],hg,ht,hv,hd,rfl,rfl⟩
  . exact AR r q hr e
theorem wC{ps:List MemPlace}(h:DataW.LaidVars prog W [("loop.example/corbel/impl.lenOrder",KY)] ps)(r:Nat)(hr:r<19):W.cell? ⟨1,r,none⟩=some (.int .i64 (bB.getD r 0:Nat)):=by
 obtain⟨g,t,cs,fuel,p,q,hg,ht,hv,hd,_,_⟩:=h;obtain rfl:=a1h ((show prog.globalNamed "loop.example/corbel/impl.lenOrder" = some 1 by kernel_rfl).symm.trans hg);obtain rfl:=a1h ((show(prog.globals[1]?).map (·.type)=some 241 by kernel_rfl).symm.trans ht);obtain⟨xs,m,_,ex,_,hl,hel⟩:=DataW.trod_array underlying241 hd;have c5:prog.cellsOf 3=1:=by kernel_rfl
 have hE:=hel r hr;rw[c5,Nat.mul_one,List.getElem?_eq_getElem (by omega)]at hE;obtain⟨z,e1,e2,_⟩:=DataW.trod_int a19 hE;have hlen:bB.length=19:=rfl;have e3:(xs.map (·.1))=bB.map fun n=>.lit (.int .i64 (n:Nat)):=(DataW.agg.inj (Prod.mk.inj ex).1).symm;have e4:(xs.map (·.1))[r]?=(bB.map fun n=>(DataW.lit (.int .i64 (n:Nat)):DataW Unit))[r]?:=by rw[e3]
 rw[List.getElem?_map,List.getElem?_map,List.getElem?_eq_getElem (by omega:r<xs.length),List.getElem?_eq_getElem (by omega:r<bB.length),e2]at e4;have hz:z=(bB.getD r 0:Nat):=by
  simp only[a3E,a0k,DataW.lit.injEq,Lit.int.injEq,a1W]at e4;rw[e4,List.getD,List.getElem?_eq_getElem (by omega:r<bB.length)];rfl
 rw[World.var?_cell hg hv r,←hz];have:cs.toList[r]?=some (.int .i64 z):=by
  have h0:((cs.toList.drop r).take 1)[0]?=some (.int .i64 z):=by rw[e1];rfl
  simpa using h0
 simpa using this
theorem La{ps:List MemPlace}(h:DataW.LaidVars prog W [("loop.example/corbel/impl.lenOrder",KY)] ps):cJ W:=by
 refine⟨fun j v hv=>?_,?_⟩
 .
  have hj:j<19:=by
   have:=(List.getElem?_eq_some_iff.1 hv).1;have e:G8.toList.length=19:=rfl;omega
  rw[a0H,wC h j hj];have h1:=AQ j hj;rw[Array.getElem?_toList,h1]at hv;exact hv
 .
  have h0:=wC h 0 (by omega);rcases a1l 1 W.heap.size with h1|h1
  . exact h1
  . simp[World.cell?,h1]at h0
theorem vA{laid:List (String×DataW Unit)}(h:laidMetH prog laid W)(hp:(laid.filter fun x=>x.2.handleName?.isSome).isEmpty=false)(hm:("loop.example/corbel/impl.lenOrder",KY)∈laid.filter fun x=>x.2.handleName?.isNone):cJ W:=by
 have h':laidMet prog (laid.filter fun x=>x.2.handleName?.isNone) W:=by
  unfold laidMetH at h;generalize (laid.filter fun x=>x.2.handleName?.isSome)=fl at *
  cases fl with
  | nil=>cases hp
  | cons a r=>exact h.1
 obtain⟨ps,h1,_,_⟩:=h';obtain⟨ps',h2⟩:=AR _ _ h1 hm;exact La h2
end Go.Proofs.YtgmfehnnebkaoaaGreatDoor
namespace Go.Proofs.YtgmfehnnebkaoaaGreatDoor
open Go.Proofs.Tryz
open Go.RowKit
variable {B b c o:Nat}{W w w':World}{d h mi mo s y:Int}{n t:ByteArray}{vs:List Value}{x0 x1 x2 x3 x4 x5:Value}
def Fh:ByteArray:=⟨#[97,98,99,100,101,102,103,104,105,106,107,108,109,110,111,112,113,114,115,116,117,118,119,120,121,122,48,49,50,51,52,53,54,55,56,57,46,45,95]⟩
theorem Do(b:UInt8):Lib.indexByte Fh.data.toList ((b.toNat:Int).toNat.toUInt8)=Lib.indexByte Bc b:=by
 have:(b.toNat:Int).toNat.toUInt8=b:=by simp
 rw[this];rfl
theorem Gq(b:UInt8)(w:World):Calls prog 140 #[.string Fh,.int .u8 (b.toNat:Int)] w fun e w'=>e = .returned (.int .i64 (Lib.indexByte Bc b))/\w'=w:=by
 have:=Tryz.strings_IndexByte Fh (b.toNat:Int) w;rw[Do]at this;exact this
theorem DY(p:ByteArray)(w:World)(O:p.size<=1048576) :
  CD 98 #[.string p] w (.bool (fi p.data.toList)):=by
 have P:(p.size:Int)<=1048576:=by omega
 obtain⟨c,x1,R,f,L,x,q,y⟩:=CJ p w;have r:=af x;have A:Hid (∀i (h:i<p.size),x1.cell? ⟨w.heap.size,i,none⟩=some (.int .u8 (p[i].toNat:Int))):=fun i h=>Ib q (y i h);have z:=af (fun b W=>Gq b W);unfold Fh at z;clear O q y x;go_enter func98,ntmps98;go_wp2_with fail
 go_loop [4,8] (fun _ i=>∃m:Nat,m<=p.size/\i = .int .i64 m/\∀j (k:j<p.size),j<m->okB p[j]=true) (fun _ i=>p.size-(intOf i).toNat)
 case atStart=>exact⟨0,a0g _,rfl,fun j _ k=>absurd k (by omega)⟩
 case round=>
  obtain⟨m,H,rfl,o⟩:=hrel;have d:=af o;have u:=af H;clear o;by_cases l:m<p.size
  .
   have N:(m:Int)<(p.size:Int):=by omega
   have t:=af l;have S:=ae A m l;have B:Hid (okB p[m]=true->∀j (k:j<p.size),j<m+1->okB p[j]=true):=by
    intro e j k M;by_cases G:j=m
    . subst G;exact e
    . exact ae d j k (by omega)
   have C:=af (fun e=>@nn p m l e);have a:=NK p[m];have s:=af (ae z p[m]);generalize p[m]=b at *
   generalize Lib.indexByte Bc b=ix at *
   clear H d u z A;cases n:okB b
   .
    have F:ix<0:=by rw[n]at a;simpa using a
    have HP:=af (ae C n);clear a;go_wp2_with (go_at_call 140;refine(ae s _).mono ?_;rintro e w9 ⟨rfl,g⟩;rw[g];clear g);go_ret;exact⟨ak (ae HP).symm,ae r⟩
   .
    have F:¬ ix<0:=by rw[n]at a;simpa using a
    have I:=af (ae B n);clear a;go_wp2_with (go_at_call 140;refine(ae s _).mono ?_;rintro e w9 ⟨rfl,g⟩;rw[g];clear g)
    go_round
    case rel=>exact⟨m+1,by have:=ae t;omega,by go_num,ae I⟩
    case measure=>have:=ae t;simp[intOf];omega
  .
   obtain rfl:m=p.size:=by have:=ae u;omega
   have v:Hid (∀j (k:j<p.size),okB p[j]=true):=fun j k=>ae d j k k;clear d l H z A;by_cases z1:(1:Int)<=(p.size:Int)
   .
    by_cases z2:(p.size:Int)<=10
    .
     have Q:inB (p.size:Int) 1 10=true:=aI.2 ⟨z1,z2⟩;cases D:(p.toList == [46])
     .
      cases E:(p.toList == [46,46])
      . have HP:=af (Fi (ae v) Q D E);go_wp2;go_ret;exact⟨ak (ae HP).symm,ae r⟩
      .
       have HP:=af (wF E);have K:p.toList=[46,46]:=by simpa using E
       go_wp2;go_ret;exact⟨ak (ae HP).symm,ae r⟩
     .
      have HP:=af (Be D);have J:p.toList=[46]:=by simpa using D
      go_wp2;go_ret;exact⟨ak (ae HP).symm,ae r⟩
    . have HP:=af (qB (fU.2 (.inr (by omega)):inB (p.size:Int) 1 10=false));go_wp2;go_ret;exact⟨ak (ae HP).symm,ae r⟩
   . have HP:=af (qB (fU.2 (.inl (by omega)):inB (p.size:Int) 1 10=false));go_wp2;go_ret;exact⟨ak (ae HP).symm,ae r⟩
def ox:ByteArray:=⟨#[47]⟩
def om(s:ByteArray):List ByteArray:=Lib.splitB ox 0 (Lib.countB s ox) s
theorem Hv(s:ByteArray):(om s).length=Lib.countB s ox+1:=Lib.splitB_all ox (by decide) 0 _ s rfl
theorem Hu(s:ByteArray):(om s).map (·.data.toList)=nC s.data.toList:=by
 unfold om nC;rw[Lib.splitB_data,←qL];rfl
theorem Ih(s:ByteArray)(m:Int)(w:World)(b:s.size<=1048576)(a:w.cell? ⟨2,0,none⟩=some (.int .i64 m)) :
  Calls prog 97 #[.string s,.string ox] w fun e w'=>e = .returned (.slice (some ⟨w.heap.size,0,none⟩) (om s).length (om s).length)/\w'=w.alloc (.cells ((om s).map Value.string).toArray 9):=by
 have:=Tryz.strings_Split s ox m w (by omega) a (by decide);rw[Hv];exact this
theorem tH(s:ByteArray)(m:Int)(w:World)(O:s.size<=1048576)(M:w.cell? ⟨2,0,none⟩=some (.int .i64 m)) :
  CD 58 #[.string s] w (.bool (kE s.data.toList)):=by
 have d:=af (Ih s m w O M);unfold ox at d;have b:=Hu s;generalize om s=l at *
 obtain⟨n,hn⟩:∃n,l.length=n:=⟨_,rfl⟩;rw[hn]at d;have G:n<=s.size+1:=by
  have e:=congrArg List.length b;have:=oL s.data.toList [];simp only[a0N]at e;have h2:s.data.toList.length=s.size:=by simp
  unfold nC at e;omega
 have S:(n:Int)<=1048577:=by omega
 have Q:Hid (∀k,k<n->(l.getD k ByteArray.empty).size<=1048576):=by
  intro k A;have y:(l.getD k ByteArray.empty).data.toList∈nC s.data.toList:=by
   rw[←b,a2J];exact⟨l.getD k ByteArray.empty,by simp[List.getD,hn,A],rfl⟩
  have:=na s.data.toList [] _ y;have e1:(l.getD k ByteArray.empty).data.toList.length=(l.getD k ByteArray.empty).size:=by simp
  have e2:s.data.toList.length=s.size:=by simp
  simp only[a0R]at *
  omega
 have q:=af (fun j (v:j<l.length)=>@E8 s l b j v);have f:=af (@AJ s l b);rw[hn]at q f;obtain⟨x1,hx1⟩:∃x,x=w.alloc (.cells (l.map Value.string).toArray 9):=⟨_,rfl⟩;have I:Hid (∀j,j<n->x1.cell? ⟨w.heap.size,j,none⟩=some (.string (l.getD j ByteArray.empty))):=by
  intro j v;rw[hx1];have:j<l.length:=by omega
  simp[this,List.getD]
 have g:Hid (Below w.heap.size w x1):=by rw[hx1];exact(a0c _ _).alloc (a0a _) _
 have B:Hid (w.heap.size<x1.heap.size):=by show _<_;rw[hx1];simp
 rw[←hx1]at d;clear hx1 O M b G hn;go_enter func58,ntmps58;go_wp2_with fail;refine(ae d).mono ?_;rintro e y1 ⟨rfl,z⟩;rw[z];clear z d;go_wp2_with fail
 go_loopw [5,10] (fun _ i wr=>∃k:Nat,k<=n/\i = .int .i64 k/\(∀j,j<k->fi (l.getD j ByteArray.empty).data.toList=true)/\Below x1.heap.size x1 wr) (fun _ i _=>n-(intOf i).toNat)
 case atStart=>exact⟨0,a0g _,rfl,fun j v=>absurd v (by omega),a0c _ _⟩
 case round=>
  obtain⟨k,A,rfl,o,a⟩:=hrel;have c:=af o;have T:=af A;have r:=af a;clear o;by_cases h:k<n
  .
   have R:(k:Int)<(n:Int):=by omega
   have U:=(a.cell (p:=⟨w.heap.size,k,none⟩) (ae B)).trans (ae I k h);have u:=af (ae q k h);have C:Hid (fi (l.getD k ByteArray.empty).data.toList=true->∀j,j<k+1->fi (l.getD j ByteArray.empty).data.toList=true):=by
    intro e j v;by_cases F:j=k
    . rw[F];exact e
    . exact ae c j (by omega)
   have t:=af h;have D:=af (ae Q k h);clear A c a;generalize l.getD k ByteArray.empty=p at *
   go_wp2_with fail;refine(DY p _ (ae D)).mono ?_;rintro e z1 ⟨rfl,P⟩;have K:=af (ah (ae r) P);clear P;cases N:fi p.data.toList
   . have HP:=af (ae u N);go_wp2;go_ret;exact⟨ak (ae HP).symm,(ae g).trans ((ae K).mono (ae g).size)⟩
   .
    have HP:=af (ae C N);go_wp2;go_roundw
    case rel=>exact⟨k+1,by have:=ae t;omega,by go_num,ae HP,ae K⟩
    case measure=>have:=ae t;simp[intOf];omega
  .
   obtain rfl:k=n:=by omega
   have J:=af (ae f (ae c));have H:=af ((ae g).trans (a.mono (ae g).size));clear c f q I a;by_cases L:k<=4
   .
    have E:(k:Int)<=4:=by omega
    go_wp2;go_ret;exact⟨ak (by rw[ae J];simp[L]),ae H⟩
   .
    have E:¬ (k:Int)<=4:=by omega
    go_wp2;go_ret;exact⟨ak (by rw[ae J];simp[L]),ae H⟩
def Ent(w:World)(b:Nat)(n:ByteArray)(y mo d h mi s:Int)(t:ByteArray):Prop:=(w.cell? ⟨b,0,none⟩=some (.string n)/\w.cell? ⟨b,1,none⟩=some (.int .i64 y)/\w.cell? ⟨b,2,none⟩=some (.int .i64 mo)/\w.cell? ⟨b,3,none⟩=some (.int .i64 d)/\w.cell? ⟨b,4,none⟩=some (.int .i64 h)/\w.cell? ⟨b,5,none⟩=some (.int .i64 mi)/\w.cell? ⟨b,6,none⟩=some (.int .i64 s)/\w.cell? ⟨b,7,none⟩=some (.string t))/\(w.frozen? ⟨b,0,none⟩=false/\w.frozen? ⟨b,1,none⟩=false/\w.frozen? ⟨b,2,none⟩=false/\w.frozen? ⟨b,3,none⟩=false/\w.frozen? ⟨b,4,none⟩=false/\w.frozen? ⟨b,5,none⟩=false/\w.frozen? ⟨b,6,none⟩=false/\w.frozen? ⟨b,7,none⟩=false)/\b<w.heap.size
theorem iR(w:World)(n:ByteArray)(y mo d h mi s:Int)(t:ByteArray)(u:TypeId):Ent (w.alloc (.cells #[.string n,.int .i64 y,.int .i64 mo,.int .i64 d,.int .i64 h,.int .i64 mi,.int .i64 s,.string t] u)) w.heap.size n y mo d h mi s t:=by
 refine⟨⟨?_,?_,?_,?_,?_,?_,?_,?_⟩,⟨?_,?_,?_,?_,?_,?_,?_,?_⟩,?_⟩<;>simp
theorem Ent.later(k:Ent w b n y mo d h mi s t)(hb:Below B w w')(a:b<B):Ent w' b n y mo d h mi s t:=by
 obtain⟨⟨c0,c1,c2,c3,c4,e,f,g⟩,⟨f0,f1,f2,f3,f4,f5,f6,f7⟩,c⟩:=k;refine⟨⟨?_,?_,?_,?_,?_,?_,?_,?_⟩,⟨?_,?_,?_,?_,?_,?_,?_,?_⟩,a0h c hb.size⟩
 . exact(hb.cell (p:=⟨b,0,none⟩) a).trans c0
 . exact(hb.cell (p:=⟨b,1,none⟩) a).trans c1
 . exact(hb.cell (p:=⟨b,2,none⟩) a).trans c2
 . exact(hb.cell (p:=⟨b,3,none⟩) a).trans c3
 . exact(hb.cell (p:=⟨b,4,none⟩) a).trans c4
 . exact(hb.cell (p:=⟨b,5,none⟩) a).trans e
 . exact(hb.cell (p:=⟨b,6,none⟩) a).trans f
 . exact(hb.cell (p:=⟨b,7,none⟩) a).trans g
 . exact(hb.frozen (p:=⟨b,0,none⟩) a).trans f0
 . exact(hb.frozen (p:=⟨b,1,none⟩) a).trans f1
 . exact(hb.frozen (p:=⟨b,2,none⟩) a).trans f2
 . exact(hb.frozen (p:=⟨b,3,none⟩) a).trans f3
 . exact(hb.frozen (p:=⟨b,4,none⟩) a).trans f4
 . exact(hb.frozen (p:=⟨b,5,none⟩) a).trans f5
 . exact(hb.frozen (p:=⟨b,6,none⟩) a).trans f6
 . exact(hb.frozen (p:=⟨b,7,none⟩) a).trans f7
theorem ap{i j:Nat}{v:Value}{c:Option Value}(k:w.cell? ⟨b,j,none⟩=c)(h:i≠j):(w.setCell ⟨b,i,none⟩ v).cell? ⟨b,j,none⟩=c:=by
 rw[World.cell?_setCell_other _ _ _ _ (fun e=>h (by cases e;rfl))];exact k
theorem Ent.store(k:Ent w b n y mo d h mi s t)(n':ByteArray)(y' mo' c e mi' s':Int)(t':ByteArray) :
  Ent ((((((((w.setCell ⟨b,0,none⟩ (.string n')).setCell ⟨b,1,none⟩ (.int .i64 y')).setCell ⟨b,2,none⟩ (.int .i64 mo')).setCell ⟨b,3,none⟩ (.int .i64 c)).setCell ⟨b,4,none⟩ (.int .i64 e)).setCell ⟨b,5,none⟩ (.int .i64 mi')).setCell ⟨b,6,none⟩ (.int .i64 s')).setCell ⟨b,7,none⟩ (.string t')) b n' y' mo' c e mi' s' t':=by
 obtain⟨⟨c0,c1,c2,c3,c4,f,g,i⟩,⟨f0,f1,f2,f3,f4,f5,f6,f7⟩,a⟩:=k;refine⟨⟨?_,?_,?_,?_,?_,?_,?_,?_⟩,⟨?_,?_,?_,?_,?_,?_,?_,?_⟩,by simpa using a⟩
 . exact ap (ap (ap (ap (ap (ap (ap (World.cell?_setCell_same _ _ _ c0) (by decide)) (by decide)) (by decide)) (by decide)) (by decide)) (by decide)) (by decide)
 . exact ap (ap (ap (ap (ap (ap (World.cell?_setCell_same _ _ _ (ap (c1) (by decide))) (by decide)) (by decide)) (by decide)) (by decide)) (by decide)) (by decide)
 . exact ap (ap (ap (ap (ap (World.cell?_setCell_same _ _ _ (ap (ap (c2) (by decide)) (by decide))) (by decide)) (by decide)) (by decide)) (by decide)) (by decide)
 . exact ap (ap (ap (ap (World.cell?_setCell_same _ _ _ (ap (ap (ap (c3) (by decide)) (by decide)) (by decide))) (by decide)) (by decide)) (by decide)) (by decide)
 . exact ap (ap (ap (World.cell?_setCell_same _ _ _ (ap (ap (ap (ap (c4) (by decide)) (by decide)) (by decide)) (by decide))) (by decide)) (by decide)) (by decide)
 . exact ap (ap (World.cell?_setCell_same _ _ _ (ap (ap (ap (ap (ap (f) (by decide)) (by decide)) (by decide)) (by decide)) (by decide))) (by decide)) (by decide)
 . exact ap (World.cell?_setCell_same _ _ _ (ap (ap (ap (ap (ap (ap (g) (by decide)) (by decide)) (by decide)) (by decide)) (by decide)) (by decide))) (by decide)
 . exact World.cell?_setCell_same _ _ _ (ap (ap (ap (ap (ap (ap (ap (i) (by decide)) (by decide)) (by decide)) (by decide)) (by decide)) (by decide)) (by decide))
 . simpa using f0
 . simpa using f1
 . simpa using f2
 . simpa using f3
 . simpa using f4
 . simpa using f5
 . simpa using f6
 . simpa using f7
theorem Ent.set_other(k:Ent w b n y mo d h mi s t)(v:Value)(j:b≠c):Ent (w.setCell ⟨c,o,none⟩ v) b n y mo d h mi s t:=by
 have e:(w.setCell ⟨c,o,none⟩ v).heap[b]?=w.heap[b]?:=a0K w ⟨c,o,none⟩ v b j;obtain⟨⟨c0,c1,c2,c3,c4,f,g,i⟩,⟨f0,f1,f2,f3,f4,f5,f6,f7⟩,a⟩:=k;refine⟨⟨?_,?_,?_,?_,?_,?_,?_,?_⟩,⟨?_,?_,?_,?_,?_,?_,?_,?_⟩,by simpa using a⟩
 . exact(World.cell?_of_block (w:=w) e).trans c0
 . exact(World.cell?_of_block (w:=w) e).trans c1
 . exact(World.cell?_of_block (w:=w) e).trans c2
 . exact(World.cell?_of_block (w:=w) e).trans c3
 . exact(World.cell?_of_block (w:=w) e).trans c4
 . exact(World.cell?_of_block (w:=w) e).trans f
 . exact(World.cell?_of_block (w:=w) e).trans g
 . exact(World.cell?_of_block (w:=w) e).trans i
 . exact(World.frozen?_of_block (w:=w) e).trans f0
 . exact(World.frozen?_of_block (w:=w) e).trans f1
 . exact(World.frozen?_of_block (w:=w) e).trans f2
 . exact(World.frozen?_of_block (w:=w) e).trans f3
 . exact(World.frozen?_of_block (w:=w) e).trans f4
 . exact(World.frozen?_of_block (w:=w) e).trans f5
 . exact(World.frozen?_of_block (w:=w) e).trans f6
 . exact(World.frozen?_of_block (w:=w) e).trans f7
theorem i6{w1:World}{u:TypeId}(hb:Below (w.alloc (.cells #[.string n,.int .i64 y,.int .i64 mo,.int .i64 d,.int .i64 h,.int .i64 mi,.int .i64 s,.string t] u)).heap.size (w.alloc (.cells #[.string n,.int .i64 y,.int .i64 mo,.int .i64 d,.int .i64 h,.int .i64 mi,.int .i64 s,.string t] u)) w1):Ent w1 w.heap.size n y mo d h mi s t/\Below w.heap.size w w1:=
 ⟨(iR w n y mo d h mi s t u).later hb (by simp),((a0c _ _).alloc (a0a _) _).trans (hb.mono (by simp))⟩
def fy(n:ByteArray)(y mo d h mi s:Int)(t:ByteArray):Bool:=kE n.data.toList&&(cG y mo d h mi s&&decide (t.size<=300))
theorem lJ(n:ByteArray)(y mo d h mi s:Int)(t:ByteArray)(w:World)(r:n.size<=1048576)(x:(t.size:Int)<=9223372036854775807) :
  CD 31 #[.agg #[.string n,.int .i64 y,.int .i64 mo,.int .i64 d,.int .i64 h,.int .i64 mi,.int .i64 s,.string t]] w (.bool (fy n y mo d h mi s t)):=by
 have i:=af r;clear r;go_enter func31,ntmps31;go_wp2_with fail;refine(uT n _ (ae i)).mono ?_;rintro e w1 ⟨rfl,f⟩;obtain⟨X1,l⟩:=i6 f;have g:=af X1;have a:=af l;clear f X1 l;obtain⟨⟨c0,c1,c2,c3,c4,m,o,p⟩,_,u⟩:=ae g;cases k:kE n.data.toList
 .
  have HP:Hid (fy n y mo d h mi s t=false):=by simp[Hid,fy,k]
  go_wp2;go_ret;exact⟨ak (ae HP).symm,ae a⟩
 .
  go_wp2_with fail;refine(se y mo d h mi s _).mono ?_;rintro e w2 ⟨rfl,c⟩;have j:=af ((ae g).later c (ae g).2.2);have b:=af (ah (ae a) c);clear c g a c0 c1 c2 c3 c4 m o p;obtain⟨⟨c0,c1,c2,c3,c4,m,o,p⟩,_,_⟩:=ae j;cases q:cG y mo d h mi s
  .
   have HP:Hid (fy n y mo d h mi s t=false):=by simp[Hid,fy,k,q]
   go_wp2;go_ret;exact⟨ak (ae HP).symm,ae b⟩
  .
   have HP:Hid (fy n y mo d h mi s t=decide (t.size<=300)):=by simp[Hid,fy,k,q]
   by_cases v:(t.size:Int)<=300
   . go_wp2;go_ret;exact⟨ak (by rw[ae HP];simp;omega),ae b⟩
   . go_wp2;go_ret;exact⟨ak (by rw[ae HP];simp;omega),ae b⟩
theorem iB(n:ByteArray)(y mo d h mi s:Int)(t:ByteArray)(m:Int)(w:World)(v:n.size<=1048576)(B:(t.size:Int)<=9223372036854775807)(l:w.cell? ⟨2,0,none⟩=some (.int .i64 m)) :
  CD 35 #[.agg #[.string n,.int .i64 y,.int .i64 mo,.int .i64 d,.int .i64 h,.int .i64 mi,.int .i64 s,.string t]] w (.bool (fy n y mo d h mi s t)):=by
 have i:=af v;clear v;have x:Hid ((w.alloc (.cells #[.string n,.int .i64 y,.int .i64 mo,.int .i64 d,.int .i64 h,.int .i64 mi,.int .i64 s,.string t] 33)).cell? ⟨2,0,none⟩=some (.int .i64 m)):=by
  show _=_;rw[World.cell?_alloc_past _ _ _ (World.block_lt_of_cell? _ _ l)];exact l
 clear l;go_enter func35,ntmps35;go_wp2_with fail;refine(tH n m _ (ae i) (ae x)).mono ?_;rintro e w1 ⟨rfl,f⟩;obtain⟨X1,o⟩:=i6 f;have g:=af X1;have a:=af o;clear f X1 o;obtain⟨⟨c0,c1,c2,c3,c4,p,q,r⟩,_,z⟩:=ae g;cases k:kE n.data.toList
 .
  have HP:Hid (fy n y mo d h mi s t=false):=by simp[Hid,fy,k]
  go_wp2;go_ret;exact⟨ak (ae HP).symm,ae a⟩
 .
  go_wp2_with fail;refine(dx y mo d h mi s _).mono ?_;rintro e w2 ⟨rfl,c⟩;have j:=af ((ae g).later c (ae g).2.2);have b:=af (ah (ae a) c);clear c g a c0 c1 c2 c3 c4 p q r;obtain⟨⟨c0,c1,c2,c3,c4,p,q,r⟩,_,_⟩:=ae j;cases u:cG y mo d h mi s
  .
   have HP:Hid (fy n y mo d h mi s t=false):=by simp[Hid,fy,k,u]
   go_wp2;go_ret;exact⟨ak (ae HP).symm,ae b⟩
  .
   have HP:Hid (fy n y mo d h mi s t=decide (t.size<=300)):=by simp[Hid,fy,k,u]
   by_cases A:(t.size:Int)<=300
   . go_wp2;go_ret;exact⟨ak (by rw[ae HP];simp;omega),ae b⟩
   . go_wp2;go_ret;exact⟨ak (by rw[ae HP];simp;omega),ae b⟩
def Blk(w:World)(b:Nat)(vs:List Value):Prop:=b<w.heap.size/\∀(i:Nat) (v:Value),vs[i]?=some v->w.cell? ⟨b,i,none⟩=some v/\w.frozen? ⟨b,i,none⟩=false
theorem Blk.cell(h:Blk w b vs)(i:Nat)(v:Value)(e:vs[i]?=some v):w.cell? ⟨b,i,none⟩=some v:=(h.2 i v e).1
theorem Blk.free(h:Blk w b vs)(i:Nat)(a:i<vs.length):w.frozen? ⟨b,i,none⟩=false:=(h.2 i (vs[i]) (by simp[a])).2
theorem Blk.later(h:Blk w b vs)(hb:Below B w w')(a:b<B):Blk w' b vs:=
 ⟨a0h h.1 hb.size,fun i v e=>⟨(hb.cell (p:=⟨b,i,none⟩) a).trans (h.2 i v e).1,(hb.frozen (p:=⟨b,i,none⟩) a).trans (h.2 i v e).2⟩⟩
theorem Blk.drew(h:Blk w b vs):Blk w.drew b vs:=h
theorem Blk.set_other(h:Blk w b vs)(v:Value)(a:b≠c):Blk (w.setCell ⟨c,o,none⟩ v) b vs:=by
 have e:(w.setCell ⟨c,o,none⟩ v).heap[b]?=w.heap[b]?:=a0K w ⟨c,o,none⟩ v b a;exact⟨by simpa using h.1,fun i x ex=>⟨(World.cell?_of_block (w:=w) e).trans (h.2 i x ex).1,(World.frozen?_of_block (w:=w) e).trans (h.2 i x ex).2⟩⟩
theorem Blk.set(h:Blk w b vs)(o:Nat)(v:Value):Blk (w.setCell ⟨b,o,none⟩ v) b (vs.set o v):=by
 refine⟨by simpa using h.1,fun i x ex=>?_⟩;by_cases a:o=i
 .
  subst a;rw[List.getElem?_set]at ex;by_cases c:o<vs.length
  .
   rw[a0d rfl,a0d c]at ex;obtain rfl:v=x:=by simpa using ex
   have:=h.2 o vs[o] (by simp[c]);exact⟨World.cell?_setCell_same _ _ _ this.1,by simpa using this.2⟩
  . rw[a0d rfl,a0e c]at ex;cases ex
 . rw[List.getElem?_set_ne a]at ex;have:=h.2 i x ex;exact⟨ap this.1 a,by simpa using this.2⟩
theorem aC(w:World)(a:Array Value)(u:TypeId):Blk (w.alloc (.cells a u)) w.heap.size a.toList:=by
 refine⟨by simp,fun i v e=>?_⟩;have e':a[i]?=some v:=by simpa using e
 constructor
 . simp[e']
 . simp
theorem Blk.cells(h:Blk w b vs){n:Nat}(c:vs.length=n):∀i,i<n->w.cell? ⟨b,i,none⟩=vs[i]?:=fun i a=>by
 have e:vs[i]?=some (vs[i]'(by omega)):=List.getElem?_eq_getElem (by omega);rw[e];exact h.cell i _ e
theorem Blk.frees(h:Blk w b vs){n:Nat}(c:vs.length=n):∀i,i<n->w.frozen? ⟨b,i,none⟩=false:=fun i a=>h.free i (by omega)
theorem ym(h:Blk W c vs)(a:c≠b)(a0 a1 a2 a3 a4 a5 a6 a7:Value):Blk ((((((((W.setCell ⟨b,0,none⟩ a0).setCell ⟨b,1,none⟩ a1).setCell ⟨b,2,none⟩ a2).setCell ⟨b,3,none⟩ a3).setCell ⟨b,4,none⟩ a4).setCell ⟨b,5,none⟩ a5).setCell ⟨b,6,none⟩ a6).setCell ⟨b,7,none⟩ a7) c vs:=((((((((h.set_other a0 a).set_other a1 a).set_other a2 a).set_other a3 a).set_other a4 a).set_other a5 a).set_other a6 a).set_other a7 a)
theorem Blk.set6(h:Blk W b [x0,x1,x2,x3,x4,x5])(a0 a1 a2 a3 a4 a5:Value):Blk ((((((W.setCell ⟨b,0,none⟩ a0).setCell ⟨b,1,none⟩ a1).setCell ⟨b,2,none⟩ a2).setCell ⟨b,3,none⟩ a3).setCell ⟨b,4,none⟩ a4).setCell ⟨b,5,none⟩ a5) b [a0,a1,a2,a3,a4,a5]:=((((((h.set 0 a0).set 1 a1).set 2 a2).set 3 a3).set 4 a4).set 5 a5)
theorem Jg(hb:Below B w W)(a:B<=b)(a0 a1 a2 a3 a4 a5 a6:Value):Below B w (((((((W.setCell ⟨b,0,none⟩ a0).setCell ⟨b,1,none⟩ a1).setCell ⟨b,2,none⟩ a2).setCell ⟨b,3,none⟩ a3).setCell ⟨b,4,none⟩ a4).setCell ⟨b,5,none⟩ a5).setCell ⟨b,6,none⟩ a6):=(ai (ai (ai (ai (ai (ai (ai hb a a0) a a1) a a2) a a3) a a4) a a5) a a6)
theorem Blk.set7{x6:Value}(h:Blk W b [x0,x1,x2,x3,x4,x5,x6])(a0 a1 a2 a3 a4 a5 a6:Value):Blk (((((((W.setCell ⟨b,0,none⟩ a0).setCell ⟨b,1,none⟩ a1).setCell ⟨b,2,none⟩ a2).setCell ⟨b,3,none⟩ a3).setCell ⟨b,4,none⟩ a4).setCell ⟨b,5,none⟩ a5).setCell ⟨b,6,none⟩ a6) b [a0,a1,a2,a3,a4,a5,a6]:=(((((((h.set 0 a0).set 1 a1).set 2 a2).set 3 a3).set 4 a4).set 5 a5).set 6 a6)
theorem Lb(h:Blk W c vs)(a:c≠b)(a0 a1 a2 a3 a4 a5 a6:Value):Blk (((((((W.setCell ⟨b,0,none⟩ a0).setCell ⟨b,1,none⟩ a1).setCell ⟨b,2,none⟩ a2).setCell ⟨b,3,none⟩ a3).setCell ⟨b,4,none⟩ a4).setCell ⟨b,5,none⟩ a5).setCell ⟨b,6,none⟩ a6) c vs:=(((((((h.set_other a0 a).set_other a1 a).set_other a2 a).set_other a3 a).set_other a4 a).set_other a5 a).set_other a6 a)
theorem sQ(hb:Below B w W)(a:B<=b)(a0 a1 a2 a3 a4 a5 a6 a7:Value):Below B w ((((((((W.setCell ⟨b,0,none⟩ a0).setCell ⟨b,1,none⟩ a1).setCell ⟨b,2,none⟩ a2).setCell ⟨b,3,none⟩ a3).setCell ⟨b,4,none⟩ a4).setCell ⟨b,5,none⟩ a5).setCell ⟨b,6,none⟩ a6).setCell ⟨b,7,none⟩ a7):=(ai (ai (ai (ai (ai (ai (ai (ai hb a a0) a a1) a a2) a a3) a a4) a a5) a a6) a a7)
theorem Blk.set8{x6 x7:Value}(h:Blk W b [x0,x1,x2,x3,x4,x5,x6,x7])(a0 a1 a2 a3 a4 a5 a6 a7:Value):Blk ((((((((W.setCell ⟨b,0,none⟩ a0).setCell ⟨b,1,none⟩ a1).setCell ⟨b,2,none⟩ a2).setCell ⟨b,3,none⟩ a3).setCell ⟨b,4,none⟩ a4).setCell ⟨b,5,none⟩ a5).setCell ⟨b,6,none⟩ a6).setCell ⟨b,7,none⟩ a7) b [a0,a1,a2,a3,a4,a5,a6,a7]:=((((((((h.set 0 a0).set 1 a1).set 2 a2).set 3 a3).set 4 a4).set 5 a5).set 6 a6).set 7 a7)
theorem Ent.kn(k:Ent w c n y mo d h mi s t)(f:Kn b w w')(l:c≠b):Ent w' c n y mo d h mi s t:=by
 obtain⟨⟨c0,c1,c2,c3,c4,g,i,j⟩,⟨f0,f1,f2,f3,f4,f5,f6,f7⟩,a⟩:=k;have e:=f.2.1 c a l;refine⟨⟨?_,?_,?_,?_,?_,?_,?_,?_⟩,⟨?_,?_,?_,?_,?_,?_,?_,?_⟩,a0h a f.2.2⟩
 . exact(World.cell?_of_block (w:=w) e).trans c0
 . exact(World.cell?_of_block (w:=w) e).trans c1
 . exact(World.cell?_of_block (w:=w) e).trans c2
 . exact(World.cell?_of_block (w:=w) e).trans c3
 . exact(World.cell?_of_block (w:=w) e).trans c4
 . exact(World.cell?_of_block (w:=w) e).trans g
 . exact(World.cell?_of_block (w:=w) e).trans i
 . exact(World.cell?_of_block (w:=w) e).trans j
 . exact(World.frozen?_of_block (w:=w) e).trans f0
 . exact(World.frozen?_of_block (w:=w) e).trans f1
 . exact(World.frozen?_of_block (w:=w) e).trans f2
 . exact(World.frozen?_of_block (w:=w) e).trans f3
 . exact(World.frozen?_of_block (w:=w) e).trans f4
 . exact(World.frozen?_of_block (w:=w) e).trans f5
 . exact(World.frozen?_of_block (w:=w) e).trans f6
 . exact(World.frozen?_of_block (w:=w) e).trans f7
theorem fp{a:World}(h:Kn b a w)(v:Value)(e:a.heap.size<=c)(hb:b<a.heap.size):Kn b a (w.setCell ⟨c,o,none⟩ v):=
 ⟨ai h.1 (a0L (a0w hb) e) _,fun k f d=>(a0K w ⟨c,o,none⟩ v k (by show k≠c;omega)).trans (h.2.1 k f d),by simpa using h.2.2⟩
theorem dG{m:Nat}(h:Rd w B b m)(v:Value)(a:b<c):Rd (w.setCell ⟨c,o,none⟩ v) B b m:=
 h.kept (ai (a0c _ _) (by omega) _)
theorem mn{a:World}(h:Kn b a w)(d:a.heap.size<=c)(hb:b<a.heap.size)(v0 v1 v2 v3 v4 v5 v6 v7:Value):Kn b a ((((((((w.setCell ⟨c,0,none⟩ v0).setCell ⟨c,1,none⟩ v1).setCell ⟨c,2,none⟩ v2).setCell ⟨c,3,none⟩ v3).setCell ⟨c,4,none⟩ v4).setCell ⟨c,5,none⟩ v5).setCell ⟨c,6,none⟩ v6).setCell ⟨c,7,none⟩ v7):=
 (fp (fp (fp (fp (fp (fp (fp (fp h _ d hb) _ d hb) _ d hb) _ d hb) _ d hb) _ d hb) _ d hb) _ d hb)
theorem mH{m:Nat}(h:Rd w B b m)(a:b<c)(v0 v1 v2 v3 v4 v5 v6 v7:Value):Rd ((((((((w.setCell ⟨c,0,none⟩ v0).setCell ⟨c,1,none⟩ v1).setCell ⟨c,2,none⟩ v2).setCell ⟨c,3,none⟩ v3).setCell ⟨c,4,none⟩ v4).setCell ⟨c,5,none⟩ v5).setCell ⟨c,6,none⟩ v6).setCell ⟨c,7,none⟩ v7) B b m:=
 (dG (dG (dG (dG (dG (dG (dG (dG h _ a) _ a) _ a) _ a) _ a) _ a) _ a) _ a)
theorem oZ(h:Kb b w w'):Kn b w w':=h
theorem Fb{v:ByteArray}(h:v∈jA++dU):v.size<=100:=by
 simp only[jA,dU,a1g,a0X,a0U,a1r,a1n]at h;rcases h with rfl|rfl|rfl|rfl|rfl|rfl|rfl|rfl|rfl|rfl|rfl|rfl|rfl|rfl|rfl|rfl<;>decide
theorem nK(B b m:Nat)(w:World)(h:Rd w B b m)(x:m<=70000) :
  Calls prog 70 #[.pointer (some ⟨b,0,none⟩)] w fun e w'=>∃n y mo d h mi s t,e = .returned (.agg #[.string n,.int .i64 y,.int .i64 mo,.int .i64 d,.int .i64 h,.int .i64 mi,.int .i64 s,.string t])/\(n∈dU/\t.size<=400)/\Rd w' B b (m+57)/\Kn b w w':=by
 have c:=h.lt;have l:=af (fE w (.cells #[.string ⟨#[]⟩,.int .i64 0,.int .i64 0,.int .i64 0,.int .i64 0,.int .i64 0,.int .i64 0,.string ⟨#[]⟩] 33) c);have X0:=af (iR w ⟨#[]⟩ 0 0 0 0 0 0 ⟨#[]⟩ 33);have q:=af (h.alloc (.cells #[.string ⟨#[]⟩,.int .i64 0,.int .i64 0,.int .i64 0,.int .i64 0,.int .i64 0,.int .i64 0,.string ⟨#[]⟩] 33));have a:=af (show w.heap.size≠b by omega);have f:=af c;have g:=af x;clear h c x;go_enter func70,ntmps70;go_wp2_with fail;refine(rk B b m _ (ae q) (by have:=ae g;omega)).mono ?_;rintro e w1 ⟨n,z,rfl,C,i⟩;have F:=af z;have o:=af ((ae l).trans i);have X1:=af ((ae X0).kn i (ae a));have r:=af C;clear l X0 q i C z;go_wp2_with fail;refine(pa B b _ _ (ae r) (by have:=ae g;omega)).mono ?_;rintro e w2 ⟨y,mo,d,h,mi,s,rfl,K,D,j⟩;have p:=af ((ae o).trans (oZ j));have X2:=af ((ae X1).kn (oZ j) (ae a));have u:=af D;clear o X1 r j D K;go_wp2_with fail;refine(pd B b _ _ (ae u) (by have:=ae g;omega)).mono ?_;rintro e w3 ⟨⟨t,rfl,A⟩,E,k⟩;have G:=af A;have I:=af ((ae p).trans k);have X3:=af ((ae X2).kn k (ae a));have J:=af E;clear p X2 u k E A;have H:=af ((ae X3).store n y mo d h mi s t);obtain⟨⟨c0,c1,c2,c3,c4,M,N,O⟩,⟨f0,f1,f2,f3,f4,f5,f6,f7⟩,L⟩:=ae X3;clear X3;go_wp2;obtain⟨⟨z0,z1,z2,z3,z4,z5,z6,z7⟩,_,_⟩:=ae H;refine a0u (v:=.agg #[.string n,.int .i64 y,.int .i64 mo,.int .i64 d,.int .i64 h,.int .i64 mi,.int .i64 s,.string t]) (by simp[results,results70,go_sem,z0,z1,z2,z3,z4,z5,z6,z7]) rfl ⟨n,y,mo,d,h,mi,s,t,rfl,⟨ae F,ae G⟩,?_,?_⟩
 . exact mH (ae J) (ae f) _ _ _ _ _ _ _ _
 . exact mn (ae I) (a0a _) (ae f) _ _ _ _ _ _ _ _
theorem qw(B b m:Nat)(w:World)(h:Rd w B b m)(Z:m<=60000) :
  Calls prog 45 #[.pointer (some ⟨b,0,none⟩)] w fun e w'=>∃n y mo d h mi s t,e = .returned (.agg #[.string n,.int .i64 y,.int .i64 mo,.int .i64 d,.int .i64 h,.int .i64 mi,.int .i64 s,.string t])/\(n∈jA++dU/\t.size<=400)/\Rd w' B b (m+120)/\Kn b w w':=by
 have C:=h.lt;have V:=af (fE w (.cells #[.string ⟨#[]⟩,.int .i64 0,.int .i64 0,.int .i64 0,.int .i64 0,.int .i64 0,.int .i64 0,.string ⟨#[]⟩] 33) C);have X0:=af (iR w ⟨#[]⟩ 0 0 0 0 0 0 ⟨#[]⟩ 33);have X:=af (h.alloc (.cells #[.string ⟨#[]⟩,.int .i64 0,.int .i64 0,.int .i64 0,.int .i64 0,.int .i64 0,.int .i64 0,.string ⟨#[]⟩] 33));have j:=af (show w.heap.size≠b by omega);have a:=af C;have E:=af Z;clear h C Z;go_enter func45,ntmps45;go_wp2_with fail;refine(nK B b m _ (ae X) (by have:=ae E;omega)).mono ?_;rintro e w1 ⟨n,y,mo,d,h,mi,s,t,rfl,⟨hn,ht⟩,L,U⟩;have M:Hid (n∈jA++dU):=a0V.2 (.inr hn);have N:=af ht;have W:=af ((ae V).trans U);have X1:=af ((ae X0).kn U (ae j));have F:=L.lt;have T:=(ae X1).2.2;have aa:¬ w1.heap.size=w.heap.size:=by omega
 have g:¬ w.heap.size=w1.heap.size:=by omega
 have k:=af (show w1.heap.size≠b by omega);have f:=af (show w.heap.size<=w1.heap.size by omega);have A1:=af (iR w1 n y mo d h mi s t 33);have P:=af (fE w1 (.cells #[.string n,.int .i64 y,.int .i64 mo,.int .i64 d,.int .i64 h,.int .i64 mi,.int .i64 s,.string t] 33) F);have Y:=af (L.alloc (.cells #[.string n,.int .i64 y,.int .i64 mo,.int .i64 d,.int .i64 h,.int .i64 mi,.int .i64 s,.string t] 33));clear V X0 X U L hn ht F T;go_wp2_with fail;refine(bJ B b _ 10 _ (ae Y) (by have:=ae E;omega) (by omega) (by omega)).mono ?_;rintro e w2 ⟨r,rfl,r0,L,rr,K⟩;have l:=af (((ae W).trans (ae P)).trans K.kn);have X2:=af (((ae X1).kn (ae P) (ae j)).kn K.kn (ae j));have A2:=af ((ae A1).kn K.kn (ae k));have p:=af rr;clear W X1 A1 P Y K rr;by_cases q0:r=0
 .
  subst q0;go_wp2_with fail;refine(tS B b _ _ (ae p) (by have:=ae E;omega)).mono ?_;rintro e w3 ⟨v,G,rfl,q,i⟩;have O:=af G;clear G;have x:=af ((ae l).trans i);have X3:=af ((ae X2).kn i (ae j));have A3:=af ((ae A2).kn i (ae k));have z:=af q;clear l X2 A2 p i q;have u:=af (Ent.store ((ae X3).set_other (c:=w1.heap.size) (o:=0) (.string v) g) v y mo d h mi s t);obtain⟨⟨c0,c1,c2,c3,c4,Q,R,S⟩,⟨f0,f1,f2,f3,f4,f5,f6,f7⟩,A⟩:=ae X3;obtain⟨⟨a0,a1,a2,a3,a4,a5,a6,a7⟩,⟨g0,g1,g2,g3,g4,g5,g6,g7⟩,D⟩:=ae A3;clear X3 A3;go_wp2;obtain⟨⟨z0,z1,z2,z3,z4,z5,z6,z7⟩,_,_⟩:=ae u;refine a0u (v:=.agg #[.string v,.int .i64 y,.int .i64 mo,.int .i64 d,.int .i64 h,.int .i64 mi,.int .i64 s,.string t]) (by simp[results,a3F,go_sem,z0,z1,z2,z3,z4,z5,z6,z7]) rfl ⟨v,y,mo,d,h,mi,s,t,rfl,⟨ae O,ae N⟩,?_,?_⟩
  . exact mH (dG ((ae z).mono (by omega)) _ (a0h (ae a) (ae f))) (ae a) _ _ _ _ _ _ _ _
  . exact mn (fp (ae x) _ (ae f) (ae a)) (a0a _) (ae a) _ _ _ _ _ _ _ _
 .
  skip
  by_cases q1:r=1
  .
   subst q1;go_wp2_with fail;refine(rX B b _ _ (ae p) (by have:=ae E;omega)).mono ?_;rintro e w3 ⟨y',mo',I,J,mi',s',rfl,ds,q,H⟩;have i:=oZ H;clear ds H;have x:=af ((ae l).trans i);have X3:=af ((ae X2).kn i (ae j));have A3:=af ((ae A2).kn i (ae k));have z:=af q;clear l X2 A2 p i q;have u:=af (Ent.store (((((((ae X3).set_other (c:=w1.heap.size) (o:=1) (.int .i64 y') g).set_other (c:=w1.heap.size) (o:=2) (.int .i64 mo') g).set_other (c:=w1.heap.size) (o:=3) (.int .i64 I) g).set_other (c:=w1.heap.size) (o:=4) (.int .i64 J) g).set_other (c:=w1.heap.size) (o:=5) (.int .i64 mi') g).set_other (c:=w1.heap.size) (o:=6) (.int .i64 s') g) n y' mo' I J mi' s' t);obtain⟨⟨c0,c1,c2,c3,c4,Q,R,S⟩,⟨f0,f1,f2,f3,f4,f5,f6,f7⟩,A⟩:=ae X3;obtain⟨⟨a0,a1,a2,a3,a4,a5,a6,a7⟩,⟨g0,g1,g2,g3,g4,g5,g6,g7⟩,D⟩:=ae A3;clear X3 A3;go_wp2;obtain⟨⟨z0,z1,z2,z3,z4,z5,z6,z7⟩,_,_⟩:=ae u;refine a0u (v:=.agg #[.string n,.int .i64 y',.int .i64 mo',.int .i64 I,.int .i64 J,.int .i64 mi',.int .i64 s',.string t]) (by simp[results,a3F,go_sem,z0,z1,z2,z3,z4,z5,z6,z7]) rfl ⟨n,y',mo',I,J,mi',s',t,rfl,⟨ae M,ae N⟩,?_,?_⟩
   . exact mH (dG (dG (dG (dG (dG (dG ((ae z).mono (by omega)) _ (a0h (ae a) (ae f))) _ (a0h (ae a) (ae f))) _ (a0h (ae a) (ae f))) _ (a0h (ae a) (ae f))) _ (a0h (ae a) (ae f))) _ (a0h (ae a) (ae f))) (ae a) _ _ _ _ _ _ _ _
   . exact mn (fp (fp (fp (fp (fp (fp (ae x) _ (ae f) (ae a)) _ (ae f) (ae a)) _ (ae f) (ae a)) _ (ae f) (ae a)) _ (ae f) (ae a)) _ (ae f) (ae a)) (a0a _) (ae a) _ _ _ _ _ _ _ _
  .
   skip
   by_cases q2:r=2
   .
    subst q2;go_wp2_with fail;refine(rY B b _ _ (ae p) (by have:=ae E;omega)).mono ?_;rintro e w3 ⟨⟨v,rfl,G⟩,q,i⟩;have O:=af G;clear G;have x:=af ((ae l).trans i);have X3:=af ((ae X2).kn i (ae j));have A3:=af ((ae A2).kn i (ae k));have z:=af q;clear l X2 A2 p i q;have u:=af (Ent.store ((ae X3).set_other (c:=w1.heap.size) (o:=7) (.string v) g) n y mo d h mi s v);obtain⟨⟨c0,c1,c2,c3,c4,Q,R,S⟩,⟨f0,f1,f2,f3,f4,f5,f6,f7⟩,A⟩:=ae X3;obtain⟨⟨a0,a1,a2,a3,a4,a5,a6,a7⟩,⟨g0,g1,g2,g3,g4,g5,g6,g7⟩,D⟩:=ae A3;clear X3 A3;go_wp2;obtain⟨⟨z0,z1,z2,z3,z4,z5,z6,z7⟩,_,_⟩:=ae u;refine a0u (v:=.agg #[.string n,.int .i64 y,.int .i64 mo,.int .i64 d,.int .i64 h,.int .i64 mi,.int .i64 s,.string v]) (by simp[results,a3F,go_sem,z0,z1,z2,z3,z4,z5,z6,z7]) rfl ⟨n,y,mo,d,h,mi,s,v,rfl,⟨ae M,ae O⟩,?_,?_⟩
    . exact mH (dG ((ae z).mono (by omega)) _ (a0h (ae a) (ae f))) (ae a) _ _ _ _ _ _ _ _
    . exact mn (fp (ae x) _ (ae f) (ae a)) (a0a _) (ae a) _ _ _ _ _ _ _ _
   .
    skip
    have x:=l;have X3:=X2;have A3:=A2;have z:=p;clear l X2 A2 p;have u:=af (Ent.store (ae X3) n y mo d h mi s t);obtain⟨⟨c0,c1,c2,c3,c4,Q,R,S⟩,⟨f0,f1,f2,f3,f4,f5,f6,f7⟩,A⟩:=ae X3;obtain⟨⟨a0,a1,a2,a3,a4,a5,a6,a7⟩,⟨g0,g1,g2,g3,g4,g5,g6,g7⟩,D⟩:=ae A3;clear X3 A3;go_wp2;obtain⟨⟨z0,z1,z2,z3,z4,z5,z6,z7⟩,_,_⟩:=ae u;refine a0u (v:=.agg #[.string n,.int .i64 y,.int .i64 mo,.int .i64 d,.int .i64 h,.int .i64 mi,.int .i64 s,.string t]) (by simp[results,a3F,go_sem,z0,z1,z2,z3,z4,z5,z6,z7]) rfl ⟨n,y,mo,d,h,mi,s,t,rfl,⟨ae M,ae N⟩,?_,?_⟩
    . exact mH ((ae z).mono (by omega)) (ae a) _ _ _ _ _ _ _ _
    . exact mn (ae x) (a0a _) (ae a) _ _ _ _ _ _ _ _
end Go.Proofs.YtgmfehnnebkaoaaGreatDoor
