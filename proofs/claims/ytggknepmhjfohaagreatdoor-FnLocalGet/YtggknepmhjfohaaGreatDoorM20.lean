/- Of what the proof is made: 28 texts, one behind the other. -/
import Derived.Test.YtggknepmhjfohaaGreatDoorRb1
import Derived.Test.YtggknepmhjfohaaGreatDoorM8
import Derived.Test.YtggknepmhjfohaaGreatDoorM7
import Derived.Test.YtggknepmhjfohaaGreatDoorM1
import Derived.Test.YtggknepmhjfohaaGreatDoorM2
import Derived.Deep.CutRange
import Derived.Laws.IdiomStrings
import Derived.Laws.OwnMore
import Derived.Test.YtggknepmhjfohaaGreatDoorM4
import Derived.Test.YtggknepmhjfohaaGreatDoorM3
import Derived.Deep.RegionHeld3
import Derived.Deep.DrawnRows
set_option maxRecDepth 100000
set_option linter.unusedSimpArgs false
set_option linter.unusedVariables false
set_option maxHeartbeats 6400000
namespace Go.Proofs.YtggknepmhjfohaaGreatDoor
open Go.Proofs.Tryz
open Go.RowKit Corb
variable {P V b c crc g how i j k lg m o pk st:Nat}{W w w':World}{l:List UInt8}{nm:ByteArray}{v v1:Value}{x y:Int}{xs:List Int}
def Bys(w:World)(b:Nat)(v:Value)(l:List UInt8):Prop:=w.ownsRow (b+1) 5 1 v l.length (da l)
theorem Bys.form(h:Bys w b v l):∃a cap,v = .slice a l.length cap:=by
 rcases h.2 with⟨e,c⟩|⟨g,cap,_,e,_⟩
 . exact⟨none,0,by rw[e,c]⟩
 . exact⟨_,cap,e⟩
theorem Bys.set(h:Bys w b v l)(u:Value):Bys (w.setCell ⟨b,o,none⟩ u) b v l:=
 a2Y h (a:=⟨b,o,none⟩) (a0h b) u
theorem Bys.drew(h:Bys w b v l):Bys w.drew b v l:=h
def Out(w:World)(b V m:Nat):Prop:=
 V<p2 m/\∃v,Three w b v (.int .i64 (V/p2 (8*(m/8)):Nat)) (.int .i64 (m%8:Nat))/\Bys w b v (leS (m/8) V)
theorem zi(V m x:Nat)(a:V<p2 m)(b:x<=1)(c:m%8<7) :
  V+x*p2 m<p2 (m+1)/\(V+x*p2 m)/p2 (8*((m+1)/8))=V/p2 (8*(m/8))+x*p2 (m%8)/\leS ((m+1)/8) (V+x*p2 m)=leS (m/8) V:=by
 refine⟨add_lt V x m a b,?_,?_⟩
 . rw[show(m+1)/8=m/8 by omega];have:=vM V x m (m/8) (by omega);rw[show m-8*(m/8)=m%8 by omega]at this;exact this
 . rw[show(m+1)/8=m/8 by omega];exact rq (m/8) V x m (by omega)
theorem zh(V m x:Nat)(e:V<p2 m)(f:x<=1)(g:m%8=7) :
  V+x*p2 m<p2 (m+1)/\(V+x*p2 m)/p2 (8*((m+1)/8))=0/\(m+1)%8=0 /\
   leS ((m+1)/8) (V+x*p2 m)=leS (m/8) V++[UInt8.ofNat (V/p2 (8*(m/8))+x*p2 (m%8))]:=by
 have b:=add_lt V x m e f;refine⟨b,?_,by omega,?_⟩
 .
  apply a1L;have:p2 (8*((m+1)/8))=2 ^ (m+1):=by unfold p2;rw[show 8*((m+1)/8)=m+1 by omega]
  rw[this];exact b
 . rw[show(m+1)/8=m/8+1 by omega];have a:=rq (m/8) V x m (by omega);have d:=vM V x m (m/8) (by omega);rw[show m-8*(m/8)=m%8 by omega]at d;have c:=wb (V+x*2 ^ m) (m+1) (m/8) b (by omega);rw[show m+1-8*(m/8)=8 by omega]at c;show leS (m/8) (V+x*2 ^ m)++[UInt8.ofNat ((V+x*2 ^ m)/2 ^ (8*(m/8))%256)]=_;rw[a1c c,a,d];rfl
theorem rp(V m:Nat)(a:V<p2 m):V/p2 (8*(m/8))<p2 (m%8):=by
 have:=wb V m (m/8) a (by omega);rw[show m-8*(m/8)=m%8 by omega]at this;exact this
theorem nU(k:Nat)(h:k<256):(UInt8.ofNat k).toNat=k:=by
 have:k%256=k:=a1c h;simp[this]
theorem tw{W2 WA:World}{v' v2:Value}{x:UInt8}(T2:Three W2 b v v1 v2)(Y2:Bys W2 b v l)(j:Below b w W2)
  (d:Below (b+1) W2 WA) (a:w'.ownsRow (b+1) 5 1 v' (l.length+1) (da l++[.int .u8 (x.toNat:Int)])) (c:WA.grownBy w' v.ownBlock) :
  (∃g cap,v' = .slice (some ⟨g,0,none⟩) (l.length+1) cap)/\Three w' b v v1 v2/\Bys w' b v' (l++[x])/\Below b w w':=by
 have h:=T2.2.2.2.2.2.2;have i:=a0k h d.size;have f:∀k,v.ownBlock=some k->b+1<=k:=fun k m=>(Y2.lt k m).1;have hb:Below (b+1) W2 w':=d.grown c (by omega) f;refine⟨?_,T2.kept hb,?_,j.trans (hb.mono (by omega))⟩
 .
  rcases a.2 with⟨_,n⟩|⟨g,cap,_,e,_⟩
  . omega
  . exact⟨g,cap,e⟩
 . show w'.ownsRow (b+1) 5 1 v' (l++[x]).length (da (l++[x]));simpa[da]using a
theorem IB(n k:Nat):n%p2 (k+1)=n%p2 k+n/p2 k%2*p2 k:=yU n k
theorem wI(V n k m:Nat):V+n%p2 (k+1)*p2 m=V+n%p2 k*p2 m+n/p2 k%2*p2 (m+k):=by
 rw[IB,a1W,a1C,show p2 k*p2 m=p2 (m+k) by unfold p2;rw[←a0S,a2S]];omega
theorem ye(n k:Nat):n/p2 k/2=n/p2 (k+1):=kz n k
theorem oH(b V m:Nat)(num bits:Int)(w:World)(h:Out w b V m)(n0:0<=num)(n1:num<65536)(b0:0<=bits)(b1:bits<=16)(hm:m<=100000) :
  Calls prog 134 #[.pointer (some ⟨b,0,none⟩),.int .i64 num,.int .i64 bits] w fun e w'=>e = .returned (.tuple #[]) /\
   Out w' b (V+num.toNat%p2 bits.toNat*p2 m) (m+bits.toNat)/\Below b w w':=by
 obtain⟨n,rfl⟩:=a0n n0;obtain⟨c,rfl⟩:=a0n b0;rw[a0p,a0p];obtain⟨i0,hi,a8,a9,ba⟩:=a0t Tryz.infoU8;go_enter func134,ntmps134;go_wp2
 go_loopw [1,6] (fun x i wr=>∃k:Nat,k<=c/\i = .int .i64 k/\x = .int .i64 (n/p2 k:Nat)/\Out wr b (V+n%p2 k*p2 m) (m+k)/\Below b w wr) (fun _ i _=>c-(intOf i).toNat)
 case atStart=>exact⟨0,a0g _,rfl,by simp[p2],by simpa[p2,a1k]using h,a0c _ _⟩
 case round=>
  obtain⟨k,hk,rfl,rfl,z,a⟩:=hrel;by_cases b5:k<c
  .
   have B:=af (wI V n k m);have g:=af (ye n k);have a5:n/p2 k<=n:=a1O _ _;obtain⟨hV,v,s,G⟩:=z;obtain⟨sa,scap,rfl⟩:=G.form;have a4:=rp (V+n%p2 k*p2 m) (m+k) hV;generalize V+n%p2 k*p2 m=V1 at *
   generalize W:m+k=m1 at *
   have hx:n/p2 k%2<=1:=by omega
   have ad:((n/p2 k:Nat):Int)%2=((n/p2 k%2:Nat):Int):=by omega
   have bc:((n/p2 k:Nat):Int)<65536:=by omega
   have a6:p2 (m1%8)<=128:=oE (m1%8) 7 (by omega);have O:n/p2 k%2*p2 (m1%8)<=1*p2 (m1%8):=a2n _ hx;have y:((n/p2 k%2:Nat):Int)*((p2 (m1%8):Nat):Int)=((n/p2 k%2*p2 (m1%8):Nat):Int):=by simp
   have q:=zi V1 m1 (n/p2 k%2) hV hx;have d:=zh V1 m1 (n/p2 k%2) hV hx;have ab:m1%8<8:=a0W _ (by omega);have l:m1<=100016:=by omega
   have Q:(leS (m1/8) V1).length=m1/8:=aL _ _;generalize n/p2 k=nk at *
   generalize a7:nk%2=x at *
   generalize a0:V1/p2 (8*(m1/8))=L at *
   generalize ac:m1%8=r at *
   generalize N:p2 r=P at *
   generalize a1:x*P=X at *
   have an:=af N;have K:=af W;have ao:=af ac;have E:=af q;have C:=af d;clear W a0 ac N a1 hV q d a7 hx a5;obtain⟨k0,H,I,f0,f1,f2,F⟩:=s;have s:Hid (Three wr b _ _ _):=⟨k0,H,I,f0,f1,f2,F⟩;have b6:(r:Int)<8:=by omega
   have bl:(L:Int)<128:=by omega
   have bs:(X:Int)<=128:=by omega
   have S:(k:Int)<(c:Int):=by omega
   have bk:=af ab;have D:=af l;have Hk:=af hk;have al:Hid (IntKind.i64.wrap ((L:Int)+IntKind.i64.wrap ((nk:Int).tmod 2*(P:Int)))=(L:Int)+(X:Int)):=by
    show IntKind.i64.wrap ((L:Int)+IntKind.i64.wrap ((nk:Int).tmod 2*(P:Int)))=(L:Int)+(X:Int);rw[a1Z (by omega),ad,y,bF (X:Int) (by omega) (by omega),bF ((L:Int)+(X:Int)) (by omega) (by omega)]
   clear ab l a6 O a4 hk hm;go_wp2_with fail;go_cut[]from 7 to 62 (fun wc=>wc=(wr.setCell ⟨b,1,none⟩ (.int .i64 ((L:Int)+(X:Int)))).drew)
   case first=>
    go_region_with (go_at_call 171;refine(eU _ _ (by omega)).mono ?_;rintro e w' ⟨rfl,rfl⟩;rw[a0p,ae an])
    all_goals
     go_wp2_with fail
     go_meet
     exact by rw[ae al]
   case rest=>
    have T1:=((ae s).set1 (.int .i64 ((L:Int)+(X:Int)))).drew;have Y1:=(G.set (o:=1) (.int .i64 ((L:Int)+(X:Int)))).drew;have B1:Below b w _:=(ah a (o:=1) (a0a _) (.int .i64 ((L:Int)+(X:Int)))).drew;rw[←hcut]at T1 Y1 B1;clear hcut G a s k0 H I f0 f1 f2 F y ad;have T1':=af T1;obtain⟨k0,H,I,f0,f1,f2,F⟩:=T1;by_cases aa:(r:Int)=7
    .
     have A:r=7:=by omega
     obtain⟨o1,o2,o3,o4⟩:=ae C A;have O1:=af o1;have O2:=af o2;have O3:=af o3;have O4:=af o4;have M:L+X<256:=by omega
     have a3:=af (nU (L+X) M);have b4:IntKind.u8.wrap ((L:Int)+(X:Int))=(L:Int)+(X:Int):=by
      rw[IntKind.wrap_u8'];omega
     subst A;clear o1 o2 o3 o4 aa M;have T2:=(ae T1').set2 (.int .i64 8);have Y2:=Y1.set (o:=2) (.int .i64 8);have B2:Below b w _:=ah B1 (o:=2) (a0a _) (.int .i64 8);have U:=af Q;clear Q;go_wp2_with fail;generalize wc.setCell ⟨b,2,none⟩ (.int .i64 8)=W2 at *
     clear k0 H I f0 f1 f2 T1' Y1 B1;have T2':=af T2;obtain⟨k0,H,I,f0,f1,f2,a2⟩:=T2;have R:Hid (((UInt8.ofNat (L+X)).toNat:Int)=(L:Int)+(X:Int)):=by
      show((UInt8.ofNat (L+X)).toNat:Int)=(L:Int)+(X:Int);rw[ae a3];omega
     have T:(leS (m1/8) V1).length<=20000:=by have:=ae U;have:=ae D;omega
     have J:=af T;clear T;go_cut[]from 7 to 62 (fun wc2=>∃v',Three wc2 b v' (.int .i64 ((L:Int)+(X:Int))) (.int .i64 8)/\Bys wc2 b v' (leS (m1/8) V1++[UInt8.ofNat (L+X)])/\Below b w wc2)
     case first=>
      go_region_law (refine aQ rfl (.tmp 47) (.tmp 53) 22 rfl (b+1) 5 i0 (.int .u8 0) 1 1 a0O hi a8 a9 ba rfl (by decide) _ _ _ (by simp[Act.eval]) (Y2.alloc _) ⟨W2.heap.size,0,none⟩ 1 1 [.int .u8 ((L:Int)+(X:Int))] (by simp[Act.eval]) rfl (by intro j u hj;match j,hj with | 0,hj=>simp at hj;subst hj;simp[Addr.add]) (by intro u hu;simp at hu;subst hu;rfl) (by have:=ae J;unfold maxLen;omega) (by have:=ae J;omega) (by simp;omega) ?_;intro v' w' p f Z;clear Z;rw[←ae R]at p;obtain⟨⟨g',bb,rfl⟩,T3,Y3,B3⟩:=tw (ae T2') Y2 B2 (by first|exact(a0c _ _).alloc (by omega) _|exact((a0c _ _).alloc (by omega) _).drew) p f;clear p f;have T3':=af T3;obtain⟨q0,q1,q2,e0,e1,e2,b2⟩:=T3)
      all_goals
       go_wp2_with fail
       go_meet
       exact⟨_,(ae T3').set0 _,Y3.set _,ah B3 (a0a _) _⟩
     case rest=>
      obtain⟨v',T4,Y4,B4⟩:=hcut;clear k0 H I f0 f1 f2 T2' Y2 B2 a2;obtain⟨va,vc,rfl⟩:=Y4.form;have T4':=af T4;obtain⟨k0,H,I,f0,f1,f2,b3⟩:=T4;go_wp2;go_roundw
      case rel=>
       refine⟨k+1,by have:=ae Hk;omega,by go_num,by rw[←ae g];go_num,?_,ah (ah B4 (a0a _) _) (a0a _) _⟩;rw[ae B,show m+(k+1)=m1+1 by have:=ae K;omega];refine⟨ae O1,.slice va (leS (m1/8) V1++[UInt8.ofNat (L+X)]).length vc,?_,?_⟩
       . rw[ae O2,ae O3];exact((ae T4').set1 _).set2 _
       . rw[ae O4];exact(Y4.set _).set _
      case measure=>simp[intOf];omega
    .
     have bd:((r:Int)+1 == 8)=false:=by simp;omega
     have t:r<7:=by omega
     obtain⟨o1,o2,o3⟩:=ae E t;have O1:=af o1;have O2:=af o2;have O3:=af o3;have Y:Hid ((m1+1)%8=r+1):=by show(m1+1)%8=r+1;have:=ae ao;omega
     clear o1 o2 o3 t aa;go_wp2;go_roundw
     case rel=>
      refine⟨k+1,by have:=ae Hk;omega,by go_num,by rw[←ae g];go_num,?_,ah B1 (a0a _) _⟩;rw[ae B,show m+(k+1)=m1+1 by have:=ae K;omega];refine⟨ae O1,.slice sa (leS (m1/8) V1).length scap,?_,?_⟩
      . rw[ae O2,ae Y];exact(ae T1').set2 _
      . rw[ae O3];exact Y1.set _
     case measure=>simp[intOf];omega
  .
   have S:k=c:=by omega
   subst S;go_wp2
   go_end0
   exact⟨rfl,z,a⟩
def mM(l:List (Int×Int)):List (Nat×Nat):=l.map (fun p=>(p.1.toNat,p.2.toNat))
def aW(l:List (Int×Int)):Nat×Nat:=ig (0,0) (mM l)
def cx(l:List (Int×Int)):List UInt8:=leS (((aW l).2+7)/8) (aW l).1
def oG(l:List (Int×Int)):List UInt8:=if lOk l=true then cx l else []
theorem dW{l:List (Int×Int)}(h:lOk l=true):oG l=cx l:=a0d h
theorem KA{l:List (Int×Int)}(h:lOk l=false):oG l=[]:=a0e (by simp[h])
theorem FI(l:List (Int×Int))(k:Nat)(h:k<l.length):aW (l.take (k+1)) =
  ((aW (l.take k)).1+(l.getD k (0,0)).1.toNat*p2 (aW (l.take k)).2,(aW (l.take k)).2+(l.getD k (0,0)).2.toNat):=by
 rw[a1e h,aW,mM,a0I,lT];simp only[a0B,a1D,ig];have e:l.getD k (0,0)=l[k]:=by simp[List.getD,h]
 rw[e];rfl
theorem vB(l:List (Int×Int))(h:aX l=true):((aW l).2:Int)=bT l:=by
 have key:∀(m:List (Int×Int)) (s:Nat×Nat),aX m=true->((ig s (mM m)).2:Int)=(s.2:Int)+bT m:=by
  intro m;induction m with
  | nil=>intro s _;simp[mM,ig,bT]
  | cons p m ih=>
   intro s a;simp only[aX,a1S,a0l]at a;have b:=aP.1 a.1;have:=ih (s.1+p.1.toNat*2 ^ s.2,s.2+p.2.toNat) a.2;simp only[mM,a0B,ig]at this ⊢;rw[this];simp only[bT,a0B,a0P];omega
 have:=key l (0,0) h;simpa[aW]using this
theorem wV(l:List (Int×Int))(h:aX l=true):(aW l).1<p2 (aW l).2:=by
 have key:∀(m:List (Int×Int)) (s:Nat×Nat),s.1<p2 s.2->aX m=true->(ig s (mM m)).1<p2 (ig s (mM m)).2:=by
  intro m;induction m with
  | nil=>intro s b _;exact b
  | cons p m ih=>
   intro s b a;simp only[aX,a1S,a0l]at a;have d:=aP.1 a.1;have c:p.1.toNat<p2 p.2.toNat:=by omega
   exact ih _ (Iv s.1 s.2 p.1.toNat p.2.toNat b c) a.2
 exact key l (0,0) (by decide) h
theorem wF(w:World)(t:TypeId):Out (w.alloc (.cells #[.slice none 0 0,.int .i64 0,.int .i64 0] t)) w.heap.size 0 0:=by
 refine⟨by decide,.slice none 0 0,⟨by simp,by simp,by simp,by simp,by simp,by simp,by simp⟩,?_⟩;exact a05 _ _ _ _
theorem Dv{a b:List UInt8}(h:a=b):Ending.returned (.string ⟨a.toArray⟩) = .returned (.string ⟨b.toArray⟩):=by rw[h]
theorem kx(h:Bys w b v l) :
  (convert 22 9 v).run prog w = .ok (.string ⟨l.toArray⟩) w:=by
 rcases h.2 with⟨e,a⟩|⟨g,cap,_,e,_⟩
 . subst e;have d:l=[]:=a2x a;subst d;rw[run_convert_bytes_string w _ _ _ none 0 0 a0O a13 a14];rfl
 .
  subst e;exact a3z w _ _ _ ⟨g,0,none⟩ cap l a0O a13 a14 (fun j c=>by
   have:=h.cells (g:=g) rfl j (.int .u8 (l[j].toNat:Int)) (by simp[da,c]);exact this)
theorem mY.below{a:Option Addr}{l:List (Int×Int)}{B:Nat}(h:mY w a l)(b:w.heap.size<=B)(hb:Below B w w'):mY w' a l:=h.later (hb.mono b)
theorem Two.kept{v0:Value}(h:Two w b v0 v1)(hb:Below (b+1) w w'):Two w' b v0 v1:=by
 obtain⟨c0,c1,f0,f1,c⟩:=h;have a:=a0h b;exact⟨(hb.cell (p:=⟨b,0,none⟩) a).trans c0,(hb.cell (p:=⟨b,1,none⟩) a).trans c1,(hb.frozen (p:=⟨b,0,none⟩) a).trans f0,(hb.frozen (p:=⟨b,1,none⟩) a).trans f1,a0k c hb.size⟩
def jN(w:World)(b V m:Nat):Prop:=
 V<p2 m/\∃v,Two w b v (.int .i64 (m:Int))/\Bys w b v (leS ((m+7)/8) V)
theorem Iw{W2 WA:World}{v':Value}{x:UInt8}(T2:Two W2 b v v1)(Y2:Bys W2 b v l)(j:Below b w W2)
  (d:Below (b+1) W2 WA) (a:w'.ownsRow (b+1) 5 1 v' (l.length+1) (da l++[.int .u8 (x.toNat:Int)])) (c:WA.grownBy w' v.ownBlock) :
  (∃g cap,v' = .slice (some ⟨g,0,none⟩) (l.length+1) cap)/\Two w' b v v1/\Bys w' b v' (l++[x])/\Below b w w':=by
 have h:=T2.2.2.2.2;have i:=a0k h d.size;have f:∀k,v.ownBlock=some k->b+1<=k:=fun k m=>(Y2.lt k m).1;have hb:Below (b+1) W2 w':=d.grown c (by omega) f;refine⟨?_,T2.kept hb,?_,j.trans (hb.mono (by omega))⟩
 .
  rcases a.2 with⟨_,n⟩|⟨g,cap,_,e,_⟩
  . omega
  . exact⟨g,cap,e⟩
 . show w'.ownsRow (b+1) 5 1 v' (l++[x]).length (da (l++[x]));simpa[da]using a
theorem Bys.at{cap:Nat}(h:Bys w b (.slice (some ⟨g,0,none⟩) l.length cap) l)(a:j<l.length) :
  w.cell? ⟨g,j,none⟩=some (.int .u8 ((l.getD j 0).toNat:Int))/\w.frozen? ⟨g,j,none⟩=false/\b<g:=by
 refine⟨?_,a2A h j,(a0C h g rfl).1⟩;rw[a07 h j (by omega)];simp[da,a,List.getD]
theorem Bys.put{cap:Nat}(h:Bys w b (.slice (some ⟨g,0,none⟩) l.length cap) l)(x:UInt8) :
  Bys (w.setCell ⟨g,j,none⟩ (.int .u8 (x.toNat:Int))) b (.slice (some ⟨g,0,none⟩) l.length cap) (l.set j x):=by
 have:=a10 h j (.int .u8 (x.toNat:Int));show World.ownsRow _ _ _ _ _ (l.set j x).length (da (l.set j x));rw[a1E];have e:da (l.set j x)=(da l).set j (.int .u8 (x.toNat:Int)):=by simp[da,List.map_set]
 rw[e];exact this.1
theorem Mp(V m x:Nat)(a:V<p2 m)(b:x<=1) :
  V+x*p2 m<p2 (m+1)/\leS ((m+1+7)/8) (V+x*p2 m)=(leS (m/8+1) V).set (m/8) (UInt8.ofNat (V/p2 (8*(m/8))+x*p2 (m%8))):=by
 refine⟨add_lt V x m a b,?_⟩;rw[show(m+1+7)/8=m/8+1 by omega];exact Kc (m/8) V x m rfl b a
theorem Mo(V m:Nat)(a:V<p2 m)(b:m%8=0):leS ((m+7)/8) V++[0]=leS (m/8+1) V:=by
 rw[show(m+7)/8=m/8 by omega];exact(Ka (m/8) V (by rw[show 8*(m/8)=m by omega];exact a)).symm
theorem Mn(V m:Nat)(a:m%8≠0):leS ((m+7)/8) V=leS (m/8+1) V:=by
 rw[show(m+7)/8=m/8+1 by omega]
theorem Ml(V m:Nat)(a:V<p2 m):((leS (m/8+1) V).getD (m/8) 0).toNat=V/p2 (8*(m/8)):=by
 rw[Df _ _ _ (by omega)];have b:=rp V m a;have h2:=oE (m%8) 7 (by omega);have c:p2 7=128:=rfl;have e:V/2 ^ (8*(m/8))%256=V/p2 (8*(m/8)):=a1c (by show V/p2 (8*(m/8))<256;omega);rw[e,nU _ (by omega)]
def Box(w:World)(P:Nat)(x y:Int):Prop:=w.heap[P]?=some (.cells #[.int .i64 x,.int .i64 y] 82)
theorem JC(w:World)(x y:Int):Box (w.alloc (.cells #[.int .i64 x,.int .i64 y] 82)) w.heap.size x y:=by
 show(w.heap.push _)[w.heap.size]?=_;simp
theorem Box.cells(h:Box w P x y):w.cell? ⟨P,0,none⟩=some (.int .i64 x)/\w.cell? ⟨P,1,none⟩=some (.int .i64 y)/\P<w.heap.size:=by
 refine⟨by simp[World.cell?,show w.heap[P]?=_ from h],by simp[World.cell?,show w.heap[P]?=_ from h],?_⟩;have a:w.heap[P]?=some _:=h;exact(Array.getElem?_eq_some_iff.1 a).1
theorem Box.ne(h:Box w P x y)(i:Bys w b v l)(k:Nat)(a:v.ownBlock=some k):k≠P:=by
 rintro rfl;rcases i.2 with⟨e,_⟩|⟨g,cap,d,e,_,c,_⟩
 . subst e;simp[Value.ownBlock]at a
 . subst e;simp only[Value.ownBlock,a0i]at a;subst a;have f:w.heap[g]?=some (.cells #[.int .i64 x,.int .i64 y] 82):=h;rw[f]at c;simp at c
theorem Box.set(h:Box w P x y)(hb:b≠P)(u:Value):Box (w.setCell ⟨b,o,none⟩ u) P x y:=by
 show(w.setCell ⟨b,o,none⟩ u).heap[P]?=_;rw[a0L w ⟨b,o,none⟩ u P (fun e=>hb e.symm)];exact h
theorem Box.drew(h:Box w P x y):Box w.drew P x y:=h
theorem Box.alloc(h:Box w P x y)(o:Obj):Box (w.alloc o) P x y:=by
 show(w.alloc o).heap[P]?=_;rw[a1f w o P h.cells.2.2];exact h
theorem Box.grown(h:Box w P x y)(c:Bys w b v l)(a:w.grownBy w' v.ownBlock):Box w' P x y:=by
 show w'.heap[P]?=_;rw[a.block P h.cells.2.2 (fun e=>h.ne c P e.symm rfl)];exact h
def bX(b:Nat)(w w':World):Prop:=w.heap.size<=w'.heap.size/\∀k,k<w.heap.size->k≠b->(∀cur fr,w.heap[k]?≠some (.cells cur 5 fr))->w'.heap[k]?=w.heap[k]?
theorem bX.refl(b:Nat)(w:World):bX b w w:=⟨a0a _,fun _ _ _ _=>rfl⟩
theorem bX.trans{w1 w2:World}(h:bX b w w1)(k:bX b w1 w2):bX b w w2:=
 ⟨a0z h.1 k.1,fun j c hb d=>by
  have e:=h.2 j c hb d;rw[k.2 j (a0k c h.1) hb (fun a fr=>by rw[e];exact d a fr),e]⟩
theorem bX.drew(h:bX b w w'):bX b w w'.drew:=h
theorem bX.alloc(h:bX b w w')(o:Obj):bX b w (w'.alloc o):=
 h.trans ⟨by simp,fun j a _ _=>a1f w' o j a⟩
theorem bX.set(h:bX b w w')(u:Value):bX b w (w'.setCell ⟨b,o,none⟩ u):=
 h.trans ⟨by simp,fun j _ hb _=>a0L w' ⟨b,o,none⟩ u j hb⟩
theorem bX.setRow{cap:Nat}(h:bX b w w')(m:Bys w' c (.slice (some ⟨g,0,none⟩) l.length cap) l)(u:Value):bX b w (w'.setCell ⟨g,j,none⟩ u):=by
 refine h.trans ⟨by simp,fun k _ _ i=>?_⟩;by_cases e:k=g
 .
  subst e;rcases m.2 with⟨e,_⟩|⟨g',d,a,e,_,f,_⟩
  . simp at e
  . simp only[a0K,a0i,a0A,a0V,a1P]at e;obtain⟨rfl,_⟩:=e;exact absurd f (i a (0,0))
 . exact a0L w' ⟨g,j,none⟩ u k e
theorem bX.grown{w'':World}(h:bX b w w')(m:Bys w' c v l)(g:w'.grownBy w'' v.ownBlock):bX b w w'':=by
 refine h.trans ⟨g.size,fun k i _ j=>?_⟩;refine g.block k i (fun e=>?_);rcases m.2 with⟨e',_⟩|⟨g',f,a,e',_,d,_⟩
 . subst e';simp[Value.ownBlock]at e
 . subst e';simp only[Value.ownBlock,a0i]at e;subst e;exact j a (0,0) d
theorem Cw(B X r:Nat)(a:B<p2 r)(e:r<8)(b:X=0∨X=p2 r):bits .or .u8 (B:Int) (X:Int)=((B+X:Nat):Int):=by
 have d:=oE r 7 (by omega);have c:p2 7=128:=rfl;rw[u8_or_nat B X (by omega) (by omega)]
 congr 1
 rw[Nat.or_comm];rcases b with rfl|rfl
 . simp
 . rw[nat_join r (p2 r) B (by unfold p2;simp) a];omega
theorem Two.other{v0:Value}(h:Two w b v0 v1)(a:g≠b)(u:Value):Two (w.setCell ⟨g,o,none⟩ u) b v0 v1:=by
 obtain⟨c0,c1,f0,f1,hb⟩:=h;refine⟨?_,?_,by simpa using f0,by simpa using f1,by simpa using hb⟩
 . rw[World.cell?_setCell_other _ _ _ _ (by simp only[ne_eq,a0A];omega)];exact c0
 . rw[World.cell?_setCell_other _ _ _ _ (by simp only[ne_eq,a0A];omega)];exact c1
theorem vD{wr:World}{cap V1 m1 x L X:Nat}{p q:Int}(j:Two wr b (.slice (some ⟨g,0,none⟩) (leS (m1/8+1) V1).length cap) (.int .i64 (m1:Int)))
  (a:Bys (wr.setCell ⟨g,m1/8,none⟩ (.int .u8 ((UInt8.ofNat (L+X)).toNat:Int))) b (.slice (some ⟨g,0,none⟩) (leS (m1/8+1) V1).length cap) ((leS (m1/8+1) V1).set (m1/8) (UInt8.ofNat (L+X))))
  (k:V1+x*p2 m1<p2 (m1+1)) (l:leS ((m1+1+7)/8) (V1+x*p2 m1)=(leS (m1/8+1) V1).set (m1/8) (UInt8.ofNat (L+X)))
  (h:(UInt8.ofNat (L+X)).toNat=L+X) (o:b<g) (n:g≠P) (m:P≠b) (d:Box wr P p q) (c:Below b w wr) (f:Bys wr b (.slice (some ⟨g,0,none⟩) (leS (m1/8+1) V1).length cap) (leS (m1/8+1) V1)) (i:bX b w wr) :
  jN ((wr.setCell ⟨g,m1/8,none⟩ (.int .u8 ((L:Int)+(X:Int)))).setCell ⟨b,1,none⟩ (.int .i64 ((m1:Int)+1))).drew b (V1+x*p2 m1) (m1+1) /\
  Box ((wr.setCell ⟨g,m1/8,none⟩ (.int .u8 ((L:Int)+(X:Int)))).setCell ⟨b,1,none⟩ (.int .i64 ((m1:Int)+1))).drew P p q /\
  Below b w ((wr.setCell ⟨g,m1/8,none⟩ (.int .u8 ((L:Int)+(X:Int)))).setCell ⟨b,1,none⟩ (.int .i64 ((m1:Int)+1))).drew /\
  bX b w ((wr.setCell ⟨g,m1/8,none⟩ (.int .u8 ((L:Int)+(X:Int)))).setCell ⟨b,1,none⟩ (.int .i64 ((m1:Int)+1))).drew:=by
 have e:((UInt8.ofNat (L+X)).toNat:Int)=(L:Int)+(X:Int):=by rw[h];omega
 rw[e]at a;refine⟨⟨k,.slice (some ⟨g,0,none⟩) (leS (m1/8+1) V1).length cap,?_,?_⟩,?_,?_,?_⟩
 . exact((j.other (by omega) _).set1 _).drew
 . rw[l];exact(a.set _).drew
 . exact((d.set (by omega) _).set (by omega) _).drew
 . exact(ah (ah c (by omega) _) (a0a _) _).drew
 . exact((i.setRow f _).set _).drew
theorem Is(b V m:Nat)(num bits:Int)(w:World)(h:jN w b V m)(hp:pOk num bits=true)(hm:m<=100000) :
  Calls prog 237 #[.pointer (some ⟨b,0,none⟩),.agg #[.int .i64 num,.int .i64 bits]] w fun e w'=>e = .returned (.int .i64 num) /\
   jN w' b (V+num.toNat*p2 m) (m+bits.toNat)/\Below b w w'/\bX b w w':=by
 obtain⟨⟨b0,b1⟩,n0,n1⟩:=aP.1 hp;have hq:=(BV bits b1).2;obtain⟨n,rfl⟩:=a0n n0;obtain⟨c,rfl⟩:=a0n b0;rw[a0p,a0p];rw[a0p]at n1 hq;have Z:Hid (n%p2 c=n):=a1c (by omega);have cv:(n:Int)<65536:=by omega
 obtain⟨i0,hi,b9,ca,cc⟩:=a0t Tryz.infoU8;have cu:b<w.heap.size:=by obtain⟨_,v,ht,_⟩:=h;exact ht.2.2.2.2
 have C:=JC w (n:Int) (c:Int);have h0:jN (w.alloc (.cells #[.int .i64 (n:Int),.int .i64 (c:Int)] 82)) b V m:=by
  obtain⟨W,v,ht,hy⟩:=h;exact⟨W,v,ht.kept ((a0c _ _).alloc (by omega) _),a0r hy _⟩
 have A:Below b w (w.alloc (.cells #[.int .i64 (n:Int),.int .i64 (c:Int)] 82)):=(a0c _ _).alloc (by omega) _;clear n1 hq h hp;go_enter func237,ntmps237;go_wp2_with fail
 go_loopw [5,8] (fun _ i wr=>∃k:Nat,k<=c/\i = .int .i64 k/\jN wr b (V+n%p2 k*p2 m) (m+k)/\Box wr w.heap.size n c/\Below b w wr/\bX b w wr) (fun _ i _=>c-(intOf i).toNat)
 case atStart=>exact⟨0,a0g _,rfl,by simpa[p2,a1k]using h0,C,A,(bX.refl _ _).alloc _⟩
 case round=>
  obtain⟨k,hk,rfl,G,d,p,t⟩:=hrel;clear h0 C A;obtain⟨bc0,bc1,J⟩:=d.cells;by_cases b5:k<c
  .
   have Q:=af (wI V n k m);have b6:n/p2 k<=n:=a1O _ _;have ad:Hid ((n:Int)/2 ^ k=((n/p2 k:Nat):Int)):=(Int.natCast_ediv n (2 ^ k)).symm;obtain⟨W,v,bl,a⟩:=G;obtain⟨sa,scap,rfl⟩:=a.form;have a7:=rp (V+n%p2 k*p2 m) (m+k) W;generalize V+n%p2 k*p2 m=V1 at *
   generalize a8:m+k=m1 at *
   have hx:n/p2 k%2<=1:=by omega
   have ba:((n/p2 k:Nat):Int)<65536:=by omega
   have bb:=lF ((n/p2 k:Nat):Int) (a3r _) (Int.lt_trans ba (by omega));have b4:((n/p2 k:Nat):Int)%2=((n/p2 k%2:Nat):Int):=by omega
   rw[b4]at bb;have b7:p2 (m1%8)<=128:=oE (m1%8) 7 (by omega);have a1:n/p2 k%2*p2 (m1%8)<=1*p2 (m1%8):=a2n _ hx;have cp:((n/p2 k%2:Nat):Int)*(2:Int) ^ (m1%8)=((n/p2 k%2*p2 (m1%8):Nat):Int):=by rw[a1v,jI]
   have K:n/p2 k%2*p2 (m1%8)=0∨n/p2 k%2*p2 (m1%8)=p2 (m1%8):=by
    rcases (show n/p2 k%2=0∨n/p2 k%2=1 by omega)with e|e<;>rw[e]<;>simp
   obtain⟨bs,b2⟩:=Mp V1 m1 (n/p2 k%2) W hx;have b3:=Ml V1 m1 W;have cy:=Cw (V1/p2 (8*(m1/8))) (n/p2 k%2*p2 (m1%8)) (m1%8) a7 (by omega) K;have H:=af (Mo V1 m1 W);have y:=af (Mn V1 m1);have O:(leS (m1/8+1) V1).length=m1/8+1:=aL _ _;have D:(leS ((m1+7)/8) V1).length=(m1+7)/8:=aL _ _;have F:m1<=100016:=by omega
   have z:V1/p2 (8*(m1/8))+n/p2 k%2*p2 (m1%8)<256:=by omega
   have a3:=nU _ z;have a5:(k:Int)<(c:Int):=by omega
   have ch:(k:Int)<=16:=by omega
   have bd:(m1:Int)%8<8:=by omega
   have co:(m1:Int)<=100016:=by omega
   have cs:((n/p2 k%2*p2 (m1%8):Nat):Int)<=128:=by omega
   have cr:((n/p2 k%2:Nat):Int)<=1:=by omega
   have ac:=af a8;have HK:=af hk;have s:=af O;have T:=af D;have U:=af F;have al:=af bs;have an:=af b2;have ao:=af b3;have aa:=af a3;have c5:=ae ad;clear ad b4 K a7 b7 a1 bs b2 b3 O D F z a3 b6 hx a8 hk W b5;generalize n/p2 k=nk at *
   generalize nk%2=x at *
   generalize x*p2 (m1%8)=X at *
   generalize V1/p2 (8*(m1/8))=L at *
   have l:=af bl;obtain⟨k0,k1,f0,f1,cg⟩:=bl;have a0:w.heap.size≠b:=by omega
   by_cases hr:m1%8=0
   .
    have b8:((m1:Int)%8 == 0)=true:=by simp;omega
    have bc:=af (ae H hr);clear hr H y bd hm;have a6:(leS ((m1+7)/8) V1).length<=20000:=by have:=ae T;have:=ae U;omega
    have ab:=af a6;clear a6;go_wp2_with (at_builtin;refine a0x _ rfl _ _ 22 rfl (b+1) 5 i0 (.int .u8 0) 1 1 a0O hi b9 ca cc rfl (by decide) _ _ _ rfl (a0r a _) ⟨wr.heap.size,0,none⟩ 1 1 [.int .u8 0] rfl rfl (by intro j u hj;match j,hj with | 0,hj=>simp at hj;subst hj;simp[Addr.add]) (by intro u hu;simp at hu;subst hu;rfl) (by have:=ae ab;unfold maxLen;omega) (by have:=ae ab;omega) (by simp;omega) ?_;intro v' w' P q a9;clear a9;have B:=(d.alloc _).grown (a0r a _) q;have M:=(t.alloc (.cells #[.int .u8 0] 5)).grown (a0r a _) q;obtain⟨⟨g,cap,rfl⟩,T3,Y3,B3⟩:=Iw (x:=0) (ae l) a p ((a0c _ _).alloc (by omega) _) P q;clear P q a d p t l k0 k1 f0 f1;have T3':=af T3;obtain⟨k0,k1,f0,f1,a2⟩:=T3);have E:(leS ((m1+7)/8) V1).length+1=(leS (m1/8+1) V1).length:=by rw[←ae bc,a0m];rfl
    rw[E]at Y3 ⊢;have T4:=(ae T3').set0 (.slice (some ⟨g,0,none⟩) (leS (m1/8+1) V1).length cap);have a:=Y3.set (o:=0) (.slice (some ⟨g,0,none⟩) (leS (m1/8+1) V1).length cap);rw[ae bc]at a;have d:=B.set (b:=b) (o:=0) (by omega) (.slice (some ⟨g,0,none⟩) (leS (m1/8+1) V1).length cap);have t:=M.set (o:=0) (.slice (some ⟨g,0,none⟩) (leS (m1/8+1) V1).length cap);have p:Below b w _:=ah B3 (o:=0) (a0a _) (.slice (some ⟨g,0,none⟩) (leS (m1/8+1) V1).length cap);clear Y3 B3 T3' k0 k1 f0 f1 B M bc0 bc1 J E a2;generalize w'.setCell ⟨b,0,none⟩ (.slice (some ⟨g,0,none⟩) (leS (m1/8+1) V1).length cap)=wA at *
    have l:=af T4;obtain⟨k0,k1,f0,f1,a2⟩:=T4;obtain⟨bc0,bc1,J⟩:=d.cells;obtain⟨gc,gf,gb⟩:=a.at (j:=m1/8) (by have:=ae s;omega);rw[ae ao]at gc;have I:=af (a.put (j:=m1/8) (UInt8.ofNat (L+X)));have Y:g≠w.heap.size:=d.ne a g rfl;have R:=af a;have S:=af t;clear t;have f:=ae s;rw[f]at k0;generalize hN:m1/8+1=N at k0;have a4:(m1:Int)/8<(N:Int):=by omega
    clear hN f a
    go_region
    all_goals
     go_wp2;go_roundw
     case rel=>
      have r:=vD (ae l) (ae I) (ae al) (ae an) (ae aa) gb Y a0 d p (ae R) (ae S);refine⟨k+1,by have:=ae HK;omega,by go_num,?_,r.2.1,r.2.2.1,r.2.2.2⟩;rw[ae Q,show m+(k+1)=m1+1 by have:=ae ac;omega];exact r.1
     case measure=>simp[intOf];omega
   .
    have b8:((m1:Int)%8 == 0)=false:=by simp;omega
    have bk:=ae y hr;rw[bk]at a k0 l;obtain⟨g,cap,hform⟩:∃g cap,Value.slice sa (leS (m1/8+1) V1).length scap = .slice (some ⟨g,0,none⟩) (leS (m1/8+1) V1).length cap:=by
     rcases a.2 with⟨_,h0⟩|⟨g,cap,_,e,_⟩
     . have:=ae s;omega
     . exact⟨g,cap,e⟩
    rw[hform]at a k0 l;obtain⟨gc,gf,gb⟩:=a.at (j:=m1/8) (by have:=ae s;omega);rw[ae ao]at gc;have I:=af (a.put (j:=m1/8) (UInt8.ofNat (L+X)));have Y:g≠w.heap.size:=d.ne a g rfl;have R:=af a;have S:=af t;clear t;have f:=ae s;rw[f]at k0;generalize hN:m1/8+1=N at k0;have a4:(m1:Int)/8<(N:Int):=by omega
    clear hN f hform bk hr H y a hm bd;go_wp2_with fail
    go_region
    all_goals
     go_wp2;go_roundw
     case rel=>
      have r:=vD (ae l) (ae I) (ae al) (ae an) (ae aa) gb Y a0 d p (ae R) (ae S);refine⟨k+1,by have:=ae HK;omega,by go_num,?_,r.2.1,r.2.2.1,r.2.2.2⟩;rw[ae Q,show m+(k+1)=m1+1 by have:=ae ac;omega];exact r.1
     case measure=>simp[intOf];omega
  .
   have a5:k=c:=by omega
   subst a5;rw[ae Z]at G;go_wp2;go_ret;exact⟨rfl,G,p,t⟩
def Ints(w:World)(b:Nat)(v:Value)(xs:List Int):Prop:=w.ownsRow (b+1) 3 1 v xs.length (xs.map (Value.int .i64))
theorem Ints.keep(h:Ints w b v xs)(f:bX b w w'):Ints w' b v xs:=by
 refine⟨h.1,?_⟩;rcases h.2 with e|⟨g,cap,a,e,hb,c,i⟩
 . exact .inl e
 . refine .inr ⟨g,cap,a,e,hb,?_,i⟩;rw[f.2 g (Array.getElem?_eq_some_iff.1 c).1 (by omega) (fun d fr=>by rw[c];simp)];exact c
theorem Bys.other{o:Value}(h:Bys w b v l)(p:Ints w c o xs)(n:w.grownBy w' o.ownBlock):Bys w' b v l:=by
 refine a12 h n ?_;cases f:v.ownBlock with
 | none=>exact .inl rfl
 | some k=>
  refine .inr (fun e=>?_);rcases h.2 with⟨e1,_⟩|⟨g,cap,m,e1,_,d,_⟩
  . subst e1;simp[Value.ownBlock]at f
  .
   rcases p.2 with⟨e2,_⟩|⟨g2,i,j,e2,_,a,_⟩
   . subst e2;simp[Value.ownBlock]at e
   . subst e1 e2;simp only[Value.ownBlock,a0i]at f e;subst f;subst e;rw[d]at a;simp at a
theorem jN.alloc(h:jN w b V m)(o:Obj):jN (w.alloc o) b V m:=by
 obtain⟨c,v,a,d⟩:=h;exact⟨c,v,a.kept ((a0c _ _).alloc (by have:=a.2.2.2.2;omega) _),a0r d _⟩
theorem jN.other{o:Value}(h:jN w b V m)(c:Ints w b o xs)(a:w.grownBy w' o.ownBlock):jN w' b V m:=by
 obtain⟨e,v,d,g⟩:=h;exact⟨e,v,d.kept ((a0c _ _).grown a (by have:=d.2.2.2.2;omega) (fun k f=>(a0C c k f).1)),g.other c a⟩
theorem jN.lt(h:jN w b V m):b<w.heap.size:=by
 obtain⟨c,v,a,d⟩:=h;exact a.2.2.2.2
theorem ET(a:Addr)(w:World):(method 387 163 (.pointer (some a)) "loop.example/corbel/impl.pass").run prog w = .ok (237,.pointer (some a)) w:=by kernel_rfl
theorem Eb(b:Nat)(a:Option Addr)(cap:Nat)(l:List (Int×Int))(w0 w:World)(h:mY w0 a l)(h0:Below b w0 w)(hs:w0.heap.size<=b)(hok:lOk l=true)(hw:jN w b 0 0) :
  Calls prog 77 #[.slice a l.length cap,.func (.method "loop.example/corbel/impl.pass") #[.iface 163 (.pointer (some ⟨b,0,none⟩))] #[]] w fun e w'=>
   (∃v,e = .returned v)/\jN w' b (aW l).1 (aW l).2/\Below b w w':=by
 simp only[lOk,a0l,a2u]at hok;obtain⟨hall,h4⟩:=hok;have hall':=af hall;have H4:=af h4;have h4':(l.length:Int)<=4000:=by omega
 clear hall h4;obtain⟨i0,hi,hz0,hz1,hz2⟩:=a0t Tryz.infoInt;have mp:=ET ⟨b,0,none⟩;go_enter func77,ntmps77;go_wp2_with fail
 go_loopw [5,7,10] (fun o _ i wr=>∃(k:Nat) (xs:List Int),k<=l.length/\i = .int .i64 k/\xs.length=k/\Ints wr b o xs/\jN wr b (aW (l.take k)).1 (aW (l.take k)).2/\Below b w wr) (fun _ _ i _=>l.length-(intOf i).toNat)
 case atStart=>exact⟨0,[],a0g _,rfl,rfl,a05 _ _ _ _,hw,a0c _ _⟩
 case round=>
  obtain⟨k,xs,hk,rfl,hxs,hints,hout,hbel⟩:=hrel;have hltb:=hout.lt;by_cases hlt:k<l.length
  .
   obtain⟨g,o,rfl,hg,hc⟩:=(h.below hs (h0.trans hbel)) (by omega);obtain⟨c0,c1⟩:=hc k hlt;have hmb:=vB (l.take k) (lh (ae hall') k);obtain⟨s0,s1⟩:=Cj (lh (ae hall') k);have s2:((l.take k).length:Int)<=4000:=by simp;omega
   have hml:Hid ((aW (l.take k)).2<=64000):=by show(aW (l.take k)).2<=64000;omega
   have hpk:=af (DO (ae hall') k hlt);have hstep:=af (FI l k hlt);have HK:=af hk;have HX:=af hxs;clear hmb s0 s1 s2 hc hk hxs hw;generalize (l.getD k (0,0)).1=x at *
   generalize (l.getD k (0,0)).2=y at *
   generalize aW (l.take k)=S at *
   go_wp2_with fail;refine(Is b S.1 S.2 x y _ (hout.alloc _) (ae hpk) (by have:=ae hml;omega)).mono ?_;rintro e w1 ⟨rfl,hout1,hbel1,hkp1⟩;have hints1:Ints w1 b u5 xs:=Ints.keep (a0r hints _) hkp1;have hbel2:=(hbel.alloc (a0s hltb) (.cells #[.int .i64 x,.int .i64 y] 82)).trans hbel1;have hlt1:=hout1.lt;clear hout hints hbel hbel1 hkp1;go_wp2_with (at_builtin;refine a0x _ rfl _ _ 56 rfl (b+1) 3 i0 (.int .i64 0) 1 8 a0D hi hz0 hz1 hz2 rfl (by decide) _ _ _ rfl (a0r hints1 _) ⟨w1.heap.size,0,none⟩ 1 1 [.int .i64 x] rfl rfl (by intro j u hj;match j,hj with | 0,hj=>simp at hj;subst hj;simp[Addr.add]) (by intro u hu;simp at hu;subst hu;rfl) (by have:=ae HX;have:=ae H4;unfold maxLen;omega) (by have:=ae HX;have:=ae H4;omega) (by simp;omega) ?_;intro v' w2 hown hgrow hnil;clear hnil);have hout2:jN w2 b _ _:=(hout1.alloc (.cells #[.int .i64 x] 3)).other (a0r hints1 _) hgrow;have hints2:Ints w2 b v' (xs++[x]):=by
    show World.ownsRow _ _ _ _ _ (xs++[x]).length _;simpa using hown
   have hbel3:Below b w w2:=(hbel2.alloc (a0s hlt1) _).grown hgrow (by simp;omega) (fun j hj=>a0s (a0C hints1 j hj).1);clear hown hgrow hints1 hout1 hbel2;go_wp2;go_roundw
   case rel=>exact⟨k+1,xs++[x],by have:=ae HK;omega,by go_num,by have:=ae HX;simp;omega,hints2,by rw[ae hstep];exact hout2,hbel3⟩
   case measure=>simp[intOf];omega
  .
   have hlk:Hid (l.take k=l):=a0F (by omega);clear h hw;obtain⟨va,vc,rfl⟩:∃va vc,u5 = .slice va xs.length vc:=by
    rcases hints.2 with⟨e,h0⟩|⟨g,cp,_,e,_⟩
    . exact⟨none,0,by rw[e,h0]⟩
    . exact⟨_,cp,e⟩
   go_wp2;go_ret;rw[ae hlk]at hout;exact⟨⟨_,rfl⟩,hout,hbel⟩
theorem FK(b:Nat)(a:Option Addr)(cap:Nat)(l:List (Int×Int))(w0 w:World)(h:mY w0 a l)(g:Below b w0 w)(i:w0.heap.size<=b)(f:lOk l=true)(j:jN w b 0 0) :
  Calls prog 55 #[.iface 163 (.pointer (some ⟨b,0,none⟩)),.slice a l.length cap] w fun e w'=>
   (∃v,e = .returned v)/\jN w' b (aW l).1 (aW l).2/\Below b w w':=by
 go_enter func55,ntmps55;go_wp2_with fail;refine(Eb b a cap l w0 _ h g i f j).mono ?_;rintro e w1 ⟨⟨v,rfl⟩,d,c⟩;go_wp2;go_ret;exact⟨⟨_,rfl⟩,d,c⟩
theorem Jr(w:World)(t:TypeId):jN (w.alloc (.cells #[.slice none 0 0,.int .i64 0] t)) w.heap.size 0 0:=
 ⟨by decide,.slice none 0 0,⟨by simp,by simp,by simp,by simp,by simp⟩,a05 _ _ _ _⟩
theorem fG(a:Option Addr)(cap:Nat)(l:List (Int×Int))(w:World)(h:mY w a l)(m:l.length<=1000000000) :
  CD 90 #[.slice a l.length cap] w (.string ⟨(oG l).toArray⟩):=by
 cases b:lOk l
 . have i:=af (KA b);have g:=s9 b;go_enter func90,ntmps90;go_wp2_with (go_at_call 54;refine(gz _ _ _ _ h m).mono ?_;rintro e w1 ⟨rfl,c⟩;rw[g]);go_ret;exact⟨Dv (a:=[]) (ae i).symm,c⟩
 .
  have i:=af (dW b);have g:=uT b;have d:aX l=true:=by simp only[lOk,a0l]at b;exact b.1
  obtain⟨s0,_⟩:=Cj d;generalize bT l=sb at *
  clear d;go_enter func90,ntmps90;go_wp2_with fail;refine(gz _ _ _ _ h m).mono ?_;rintro e w1 ⟨rfl,c⟩;rw[g];clear g;have o:=h.later c;go_wp2_with fail;refine(FK w1.heap.size a cap l w1 _ o ((a0c _ _).alloc (a0a _) _) (a0a _) b (Jr w1 _)).mono ?_;rintro e w2 ⟨⟨v0,rfl⟩,⟨_,v,T,Y⟩,j⟩;have k:=kx Y;obtain⟨va,vc,rfl⟩:=Y.form;obtain⟨k0,q,f0,f1,p⟩:=T;clear q Y;generalize f:(leS (((aW l).2+7)/8) (aW l).1)=res at *
  have n:Hid (res=oG l):=by have h:=ae i;rw[h,←f];exact rfl
  clear f;go_wp2;go_ret;exact⟨Dv (ae n),ap c (((a0c _ _).alloc (a0a _) _).trans j)⟩
theorem uQ(q k V W:Nat)(a:V<2 ^ (8*q)):leS (q+k) (V+W*2 ^ (8*q))=leS q V++leS k W:=by
 induction k with
 | zero=>simp[leS,rq q V W (8*q) (a0a _)]
 | succ k ih=>
  rw[show q+(k+1)=(q+k)+1 by omega];simp only[leS];rw[ih,a0M]
  congr 3
  have e:2 ^ (8*(q+k))=2 ^ (8*q)*2 ^ (8*k):=by rw[←a0S];congr 1;omega
  rw[e,←a1K,Nat.add_mul_div_right _ _ (a1i _),a1L a,a0J]
theorem BW(V m:Nat)(l:List (Nat×Nat)):ig (V,m) l=(V+(ig (0,0) l).1*2 ^ m,m+(ig (0,0) l).2):=by
 have key:∀(l:List (Nat×Nat)) (W k:Nat),ig (V+W*2 ^ m,m+k) l=(V+(ig (W,k) l).1*2 ^ m,m+(ig (W,k) l).2):=by
  intro l;induction l with
  | nil=>intro W k;rfl
  | cons p l ih=>
   intro W k;simp only[ig];have e:V+W*2 ^ m+p.1*2 ^ (m+k)=V+(W+p.1*2 ^ k)*2 ^ m:=by
    rw[a1W,a0S,a1C,a1d (2 ^ m)];omega
   rw[e,a1T m k p.2];exact ih _ _
 have:=key l 0 0;simpa using this
theorem l9(l m:List (Int×Int)):aW (l++m)=((aW l).1+(aW m).1*2 ^ (aW l).2,(aW l).2+(aW m).2):=by
 rw[aW,mM,a0I,lT];exact BW _ _ _
theorem nR(l m:List (Int×Int)):aX (l++m)=(aX l&&aX m):=by simp[aX]
theorem DG(f b:List (Int×Int))(d:lOk f=true)(hb:lOk b=true)(l:f.length+b.length<=4000)(i:(aW f).2%8=0):oG (f++b)=oG f++oG b:=by
 have a:aX f=true:=by simp only[lOk,a0l]at d;exact d.1
 have c:aX b=true:=by simp only[lOk,a0l]at hb;exact hb.1
 have h:lOk (f++b)=true:=by
  simp only[lOk,a0l,a2u,nR];exact⟨⟨a,c⟩,by simpa using l⟩
 rw[dW h,dW d,dW hb,cx,cx,cx,l9];have g:=wV f a;generalize aW f=F at *
 generalize aW b=B at *
 obtain⟨V,m⟩:=F;obtain⟨W,k⟩:=B;have j:m%8=0:=i;have e:m=8*(m/8):=by omega
 show leS ((m+k+7)/8) (V+W*2 ^ m)=leS ((m+7)/8) V++leS ((k+7)/8) W;rw[show(m+k+7)/8=m/8+(k+7)/8 by omega,show(m+7)/8=m/8 by omega];have:=uQ (m/8) ((k+7)/8) V W (by rw[←e];exact g);rw[←e]at this;exact this
theorem GW(V:Nat):leS 4 V=leS 2 (V%65536)++leS 2 (V/65536):=by
 have:=uQ 2 2 (V%65536) (V/65536) (a0W _ (by decide));rw[←this]
 congr 1
 show V=V%65536+V/65536*2 ^ 16;omega
def ep(ws:List Nat):List (Int×Int):=ws.map fun(x:Nat)=>(((x:Nat):Int),(16:Int))
theorem Ag{ws:List Nat}(h:∀x∈ws,x<65536)(c:ws.length<=100):lOk (ep ws)=true:=by
 unfold lOk;simp only[a0l,a0u];refine⟨?_,by unfold ep;rw[a0N];omega⟩;unfold aX ep;rw[List.all_map,a1m];intro x b;have a:p2 (16:Int).toNat=65536:=by decide
 have:=h x b;show pOk ((x:Nat):Int) 16=true;exact aP.2 ⟨by omega,by omega,by rw[a];omega⟩
theorem FN{ws:List Nat}(h:∀x∈ws,x<65536)(b:ws.length<=100):oG (ep ws)=ws.flatMap (leS 2):=by
 induction ws with
 | nil=>decide
 | cons x ws ih=>
  have d:x<65536:=h x (by simp);have c:lOk (ep [x])=true:=Ag (fun y a=>by rw[a02.1 a];exact d) (by simp);have h2:lOk (ep ws)=true:=Ag (fun y a=>h y (by simp[a])) (by simp at b;omega);have e:ep (x :: ws)=ep [x]++ep ws:=rfl;have e1:aW (ep [x])=(x,16):=by simp[aW,mM,ig,ep]
  rw[e,DG _ _ c h2 (by unfold ep;simp at b ⊢;omega) (by rw[e1];exact(by decide:(16:Nat)%8=0)),ih (fun y a=>h y (by simp[a])) (by simp at b;omega),dW c,cx,e1,a06];show leS ((16+7)/8) x++_=_;rw[show(16+7)/8=2 by decide]
theorem dz(V many:Nat)(w:World)(M:V<1099511627776)(P:many<=10) :
  CD 48 #[.int .i64 (V:Int),.int .i64 (many:Int)] w (.string ⟨(leS many V).toArray⟩):=by
 obtain⟨i0,H,A,B,C⟩:=a0t Tryz.infoU8;have J:(many:Int)<=10:=by omega
 have p:Hid (aO (w.alloc (.cells #[] 5)) w.heap.size (.slice (some ⟨w.heap.size,0,none⟩) 0 0) (leS 0 V)):=aO.lit _ _ (a0a _);have j:Hid (Below w.heap.size w (w.alloc (.cells #[] 5))):=(a0c _ _).alloc (a0a _) _;go_enter func48,ntmps48;go_wp2_with fail
 go_loopw [0,5,6] (fun x v i wr=>∃k:Nat,k<=many/\i = .int .i64 k/\x = .int .i64 ((V/2 ^ (8*k):Nat):Int)/\aO wr w.heap.size v (leS k V)/\Below w.heap.size w wr) (fun _ _ i _=>many-(intOf i).toNat)
 case atStart=>exact⟨0,a0g _,rfl,by simp,ae p,ae j⟩
 case round=>
  obtain⟨k,O,rfl,rfl,hq,a⟩:=hrel;have e:Hid ((leS k V).length=k):=aL k V;obtain⟨va,vc,rfl⟩:=hq.formN (ae e);clear p j;by_cases I:k<many
  .
   have n:(k:Int)<(many:Int):=by omega
   have N:V/2 ^ (8*k)<=V:=a1O _ _;have s:Hid (leS k V++[UInt8.ofNat (V/2 ^ (8*k)%256)]=leS (k+1) V):=rfl;have m:Hid (V/2 ^ (8*k)/256=V/2 ^ (8*(k+1))):=by show _=_;rw[a1K,show 8*(k+1)=8*k+8 by omega,a0S]
   generalize V/2 ^ (8*k)=x at *
   have K:(x:Int)<=1099511627776:=by omega
   obtain⟨y,hy⟩:∃y,x%256=y:=⟨_,rfl⟩;have u:(x:Int)%256=(y:Int):=by omega
   have L:Int.tmod (x:Int) 256=(y:Int):=by rw[a1Z (by omega)];exact u
   have Q:IntKind.u8.wrap (y:Int)=(y:Int):=by simp only[IntKind.wrap,IntKind.bits,IntKind.signed];simp;omega
   have z:((UInt8.ofNat y).toNat:Int)=(y:Int):=by rw[UInt8.toNat_ofNat'];omega
   obtain⟨d,hd⟩:∃d,x/256=d:=⟨_,rfl⟩;have G:(x:Int)/256=(d:Int):=by omega
   rw[hy]at s;rw[hd]at m;have D:Hid (k+1<=maxLen/\(k+1)*1<=140737488355328):=by show _/\_;unfold maxLen;omega
   have r:=af (hq.own (ae e));have l:=a.size;have h:=af a;clear hq a hy hd;go_wp2_with (at_builtin;refine a0x _ rfl _ _ 22 rfl w.heap.size 5 i0 (.int .u8 0) 1 1 a0O H A B C rfl (by decide) _ _ _ rfl (a0r (ae r) _) ⟨wr.heap.size,0,none⟩ 1 1 [.int .u8 (y:Int)] rfl rfl (bD _ _ rfl _ _) (one_byte _) (ae D).1 (ae D).2 (ax l _) ?_;intro v' x2 g c o;clear o);have t:=aG (v:=.slice va k vc) c (ae r) (a0a _) l (ae h);have f:World.ownsRow x2 w.heap.size 5 1 v' (k+1) (da (leS k V)++[.int .u8 ((UInt8.ofNat y).toNat:Int)]):=by rw[z];exact g
   have q:=cm (b:=UInt8.ofNat y) (ae e) f;rw[ae s]at q;clear g f c;go_wp2;go_roundw
   case rel=>exact⟨k+1,by omega,by go_num,by rw[←ae m],q,t⟩
   case measure=>simp[intOf];omega
  .
   obtain rfl:k=many:=by omega
   have n:¬ (k:Int)<(k:Int):=by omega
   have F:=hq.text;have E:=af a;clear hq a;go_wp2;go_ret;exact⟨rfl,ae E⟩
def fS(ws:List Nat):List Int:=ws.map fun(x:Nat)=>((x:Nat):Int)
theorem FM(ws:List Nat)(k:Nat)(h:k<ws.length):(fS ws).getD k 0=((ws.getD k 0:Nat):Int):=by
 unfold fS;simp[List.getD,h]
theorem Cx(ws:List Nat)(k:Nat)(h:k<ws.length):ep (ws.take (k+1))=ep (ws.take k)++[(((ws.getD k 0:Nat):Int),(16:Int))]:=by
 unfold ep;rw[a1e h,a0I];simp[List.getD,h]
theorem Jq(x:Int)(w:World):CD 107 #[.int .i64 x] w (.agg #[.int .i64 x,.int .i64 16]):=by
 go_enter func107,ntmps107;go_wp2;refine a0y (v:=.agg #[.int .i64 x,.int .i64 16]) (by simp[results,results107,go_sem]) rfl ⟨rfl,?_⟩;exact(a0c _ _).alloc (a0a _) _
theorem AL(a:Option Addr)(cap n:Nat)(ws:List Nat)(w:World)(B:ws.length=n)(h:bp w a (fS ws))(I:n<=100) :
  Calls prog 52 #[.slice a n cap,.func (.func 107) #[] #[]] w fun e w'=>∃v,e = .returned v/\Pcs w' w.heap.size v (ep ws)/\Below w.heap.size w w':=by
 have O:(n:Int)<=100:=by omega
 have x:=af B;have M:=af I;have G:Hid ((fS ws).length=n):=by show _=_;unfold fS;rw[a0N];exact B
 clear B I;obtain⟨i0,N,D,E,F⟩:=a0t Tryz.infoPiece;go_enter func52,ntmps52;go_wp2_with fail
 go_loopw [5,7,10] (fun o _ i wr=>∃k:Nat,k<=n/\i = .int .i64 k/\Pcs wr w.heap.size o (ep (ws.take k))/\Below w.heap.size w wr) (fun _ _ i _=>n-(intOf i).toNat)
 case atStart=>exact⟨0,a0g _,rfl,a05 _ _ _ _,a0c _ _⟩
 case round=>
  obtain⟨k,H,rfl,hq,b⟩:=hrel;by_cases p:k<n
  .
   obtain⟨g,o,rfl,P,r⟩:=(h.later b) (by rw[ae G];omega);have c0:=r k (by rw[ae G];exact p);rw[FM ws k (by rw[ae x];exact p)]at c0;have C:=af (Cx ws k (by rw[ae x];exact p));have A:Hid ((ep (ws.take k)).length=k):=by show _=_;unfold ep;have:=ae x;simp;omega
   have L:=af H;clear r H h;generalize ((ws.getD k 0:Nat):Int)=y at *
   have HP:=af (Jq y wr);go_wp2_with fail;refine(ae HP).mono ?_;rintro e x1 ⟨rfl,m⟩;have q:=Pcs.later hq m (a0a _);have c:=ap b m;have j:=c.size;have f:Hid ((ep (ws.take k)).length+1<=maxLen/\((ep (ws.take k)).length+1)*16<=140737488355328):=by
    show _/\_;rw[ae A];have:=ae M;unfold maxLen;omega
   clear hq b m HP;go_wp2_with (at_builtin;refine a0x _ rfl _ _ 79 rfl w.heap.size 82 i0 (.agg #[.int .i64 0,.int .i64 0]) 2 16 a1s N D E F rfl (by decide) _ _ _ rfl (a0r q _) ⟨x1.heap.size,0,none⟩ 1 1 [.int .i64 y,.int .i64 16] rfl rfl (rC x1 _ _ _) (rB _ _) (ae f).1 (ae f).2 (ax j _) ?_;intro v' x2 l d t;clear t);have z:=aG (v:=u5) d q (a0a _) j c;have u:=lS l;rw[←ae C]at u;clear l d q;go_wp2;go_roundw
   case rel=>exact⟨k+1,by have:=ae L;omega,by go_num,u,z⟩
   case measure=>simp[intOf];omega
  . have s:ws.take k=ws:=a0F (by rw[ae x];omega);rw[s]at hq;have K:=af hq;have J:=af b;clear hq b s;go_wp2;go_ret;exact⟨_,rfl,ae K,ae J⟩
theorem kZ(a:Option Addr)(cap n:Nat)(ws:List Nat)(w:World)(l:ws.length=n)(h:bp w a (fS ws))(k:n<=100)(p:∀x∈ws,x<65536) :
  CD 81 #[.slice a n cap] w (.string ⟨(ws.flatMap (leS 2)).toArray⟩):=by
 have m:=af (AL a cap n ws w l h k);have r:=af (FN p (by omega));have o:(ep ws).length=n:=by unfold ep;rw[a0N];exact l
 have d:=af o;have s:=af k;clear l h k p o;go_enter func81,ntmps81;go_wp2_with fail;refine(ae m).mono ?_;rintro e w1 ⟨v,rfl,j,b⟩;obtain⟨a1,c1,rfl⟩:=j.formN (ae d);have g:=fG a1 c1 (ep ws) w1 (j.rowN (ae d)) (by have:=ae d;have:=ae s;omega);rw[ae r,ae d]at g;have i:=af g;have q:=af b;clear j b g m;go_wp2_with fail;refine(ae i).mono ?_;rintro e w2 ⟨rfl,c⟩;have f:=af (ap (ae q) c);clear c;go_wp2;go_ret;exact⟨rfl,ae f⟩
theorem jp(V:Nat)(w:World)(k:V<4294967296) :
  CD 82 #[.int .i64 (V:Int)] w (.string ⟨(leS 4 V).toArray⟩):=by
 have e1:bits .and .i64 (V:Int) 65535=((V%65536:Nat):Int):=by
  have:=yj (V:Int) (by omega) (by omega);rw[this];omega
 have d:Hid ([V%65536,V/65536].flatMap (leS 2)=leS 4 V):=by
  show _=_;rw[GW];simp
 have hq:V/65536<65536:=by omega
 have f:Hid (bp (w.alloc (.cells #[.int .i64 ((V%65536:Nat):Int),.int .i64 ((V/65536:Nat):Int)] 3)) (some ⟨w.heap.size,0,none⟩) (fS [V%65536,V/65536])):=by
  intro _;refine⟨w.heap.size,0,rfl,by simp,fun i j=>?_⟩
  match i,j with
  | 0,_=>simp[fS]
  | 1,_=>simp[fS]
 have c:=af (kZ (some ⟨w.heap.size,0,none⟩) 2 2 [V%65536,V/65536] _ rfl (ae f) (by omega) (fun x b=>by
  simp only[a08,List.mem_nil_iff,a1U]at b;rcases b with rfl|rfl
  . exact a0W _ (by decide)
  . exact hq))
 rw[ae d]at c;have g:Hid (Below w.heap.size w (w.alloc (.cells #[.int .i64 ((V%65536:Nat):Int),.int .i64 ((V/65536:Nat):Int)] 3))):=(a0c _ _).alloc (a0a _) _;generalize b:V%65536=x at *
 generalize l:V/65536=y at *
 have e2:(V:Int)/65536=(y:Int):=by omega
 clear d f b;go_enter func82,ntmps82;go_wp2_with fail;refine(ae c).mono ?_;rintro e w1 ⟨rfl,a⟩;have h:=af (ap (ae g) a);clear a;go_wp2;go_ret;exact⟨rfl,ae h⟩
def Jv(W:World)(g:Nat)(how st crc pk lg:Nat)(nm:ByteArray):Prop:=W.cell? ⟨g,0,none⟩=some (.int .i64 (how:Nat))/\W.cell? ⟨g,1,none⟩=some (.int .i64 (st:Nat))/\W.cell? ⟨g,2,none⟩=some (.int .i64 (crc:Nat))/\W.cell? ⟨g,3,none⟩=some (.int .i64 (pk:Nat))/\W.cell? ⟨g,4,none⟩=some (.int .i64 (lg:Nat))/\W.cell? ⟨g,5,none⟩=some (.string nm)
def ua(w:World)(how st crc pk lg:Nat)(nm:ByteArray)(W:World):Prop:=Below w.heap.size w W/\w.heap.size<W.heap.size/\Jv W w.heap.size how st crc pk lg nm
theorem ua.later{W':World}(h:ua w how st crc pk lg nm W)(hb:Below W.heap.size W W'):ua w how st crc pk lg nm W':=by
 have a:∀j,W'.cell? ⟨w.heap.size,j,none⟩=W.cell? ⟨w.heap.size,j,none⟩:=fun j=>hb.cell (p:=⟨w.heap.size,j,none⟩) h.2.1;exact⟨h.1.trans (hb.mono (a0s h.2.1)),a0k h.2.1 hb.size,(a 0).trans h.2.2.1,(a 1).trans h.2.2.2.1,(a 2).trans h.2.2.2.2.1,(a 3).trans h.2.2.2.2.2.1,(a 4).trans h.2.2.2.2.2.2.1,(a 5).trans h.2.2.2.2.2.2.2⟩
theorem Fz(W:World)(x y z:Nat):bp (W.alloc (.cells #[.int .i64 ((x:Nat):Int),.int .i64 ((y:Nat):Int),.int .i64 ((z:Nat):Int)] 3)) (some ⟨W.heap.size,0,none⟩) (fS [x,y,z]):=by
 intro _;refine⟨W.heap.size,0,rfl,by simp,fun i a=>?_⟩
 match i,a with
 | 0,_=>simp[fS]
 | 1,_=>simp[fS]
 | 2,_=>simp[fS]
theorem KS(W:World)(x y:Nat):bp (W.alloc (.cells #[.int .i64 ((x:Nat):Int),.int .i64 ((y:Nat):Int)] 3)) (some ⟨W.heap.size,0,none⟩) (fS [x,y]):=by
 intro _;refine⟨W.heap.size,0,rfl,by simp,fun i a=>?_⟩
 match i,a with
 | 0,_=>simp[fS]
 | 1,_=>simp[fS]
def tZ(w:World)(how st crc pk lg:Nat)(nm:ByteArray)(W:World)(r0 r1:Option Nat):Prop:=ua w how st crc pk lg nm W/\(∀g,r0=some g->bp W (some ⟨g,0,none⟩) (fS [20,0,how]))/\∀g,r1=some g->bp W (some ⟨g,0,none⟩) (fS [nm.size,0])
theorem tZ.later{W':World}{a b:Option Nat}(h:tZ w how st crc pk lg nm W a b)(hb:Below W.heap.size W W'):tZ w how st crc pk lg nm W' a b:=⟨h.1.later hb,fun g e=>(h.2.1 g e).later hb,fun g e=>(h.2.2 g e).later hb⟩
theorem tZ.new0{a:Option Nat}(h:tZ w how st crc pk lg nm W none a):tZ w how st crc pk lg nm (W.alloc (.cells #[.int .i64 20,.int .i64 0,.int .i64 ((how:Nat):Int)] 3)) (some W.heap.size) a:=by
 have h2:=h.later ((a0c W.heap.size W).alloc (a0a _) (.cells #[.int .i64 20,.int .i64 0,.int .i64 ((how:Nat):Int)] 3));exact⟨h2.1,fun g e=>by cases e;exact Fz W 20 0 how,h2.2.2⟩
theorem tZ.new1{a:Option Nat}(h:tZ w how st crc pk lg nm W a none):tZ w how st crc pk lg nm (W.alloc (.cells #[.int .i64 ((nm.size:Nat):Int),.int .i64 0] 3)) a (some W.heap.size):=by
 have h2:=h.later ((a0c W.heap.size W).alloc (a0a _) (.cells #[.int .i64 ((nm.size:Nat):Int),.int .i64 0] 3));exact⟨h2.1,h2.2.1,fun g e=>by cases e;exact KS W nm.size 0⟩
def bW(l:List UInt8):ByteArray:=⟨l.toArray⟩
def jw(how st crc pk lg n:Nat):ByteArray:=bW ([20,0,how].flatMap (leS 2))++bW (leS 4 st)++bW (leS 4 crc)++bW (leS 4 pk)++bW (leS 4 lg)++bW ([n,0].flatMap (leS 2))
theorem Je(how st crc pk lg:Nat)(nm:ByteArray)(w:World)(A:how<65536)(u:st<4294967296)(h2:crc<4294967296)(y:pk<4294967296)(z:lg<4294967296)(B:nm.size<65536) :
  CD 59 #[.agg #[.int .i64 (how:Nat),.int .i64 (st:Nat),.int .i64 (crc:Nat),.int .i64 (pk:Nat),.int .i64 (lg:Nat),.string nm]] w (.string (jw how st crc pk lg nm.size)):=by
 have p:prog.follows .mixedOrders=true:=by kernel_rfl
 have q:Hid (∀g W,bp W (some ⟨g,0,none⟩) (fS [20,0,how])->CD 81 #[.slice (some ⟨g,0,none⟩) 3 3] W (.string (bW ([20,0,how].flatMap (leS 2))))):=fun g W h=>kZ _ 3 3 [20,0,how] W rfl h (by omega) (fun x t=>by simp at t;omega);have r:Hid (∀g W,bp W (some ⟨g,0,none⟩) (fS [nm.size,0])->CD 81 #[.slice (some ⟨g,0,none⟩) 2 2] W (.string (bW ([nm.size,0].flatMap (leS 2))))):=fun g W h=>kZ _ 2 2 [nm.size,0] W rfl h (by omega) (fun x t=>by simp at t;omega);have k:Hid (∀W,CD 82 #[.int .i64 (st:Int)] W (.string (bW (leS 4 st)))):=fun W=>jp st W u;have m:Hid (∀W,CD 82 #[.int .i64 (crc:Int)] W (.string (bW (leS 4 crc)))):=fun W=>jp crc W h2;have n:Hid (∀W,CD 82 #[.int .i64 (pk:Int)] W (.string (bW (leS 4 pk)))):=fun W=>jp pk W y;have o:Hid (∀W,CD 82 #[.int .i64 (lg:Int)] W (.string (bW (leS 4 lg)))):=fun W=>jp lg W z;have j:∀l:List UInt8,(bW l).size=l.length:=fun l=>by simp[bW,ByteArray.size]
 have z0:((bW ([20,0,how].flatMap (leS 2))).size:Int)<=100:=by rw[j];simp[aL]
 have z5:((bW ([nm.size,0].flatMap (leS 2))).size:Int)<=100:=by rw[j];simp[aL]
 have z1:((bW (leS 4 st)).size:Int)<=100:=by rw[j,aL];omega
 have z2:((bW (leS 4 crc)).size:Int)<=100:=by rw[j,aL];omega
 have z3:((bW (leS 4 pk)).size:Int)<=100:=by rw[j,aL];omega
 have z4:((bW (leS 4 lg)).size:Int)<=100:=by rw[j,aL];omega
 unfold jw;generalize bW ([20,0,how].flatMap (leS 2))=A0 at *
 generalize bW ([nm.size,0].flatMap (leS 2))=A5 at *
 generalize bW (leS 4 st)=A1 at *
 generalize bW (leS 4 crc)=A2 at *
 generalize bW (leS 4 pk)=A3 at *
 generalize bW (leS 4 lg)=A4 at *
 have C:(nm.size:Int)<65536:=by omega
 have T0':Hid (ua w how st crc pk lg nm (w.alloc (.cells #[.int .i64 (how:Nat),.int .i64 (st:Nat),.int .i64 (crc:Nat),.int .i64 (pk:Nat),.int .i64 (lg:Nat),.string nm] 38))):=⟨(a0c _ _).alloc (a0a _) _,by simp,by simp,by simp,by simp,by simp,by simp,by simp⟩;clear A u h2 y z B j;go_enter func59,ntmps59;go_wp2_with fail;obtain⟨W0,hW0⟩:∃x,w.alloc (.cells #[.int .i64 (how:Nat),.int .i64 (st:Nat),.int .i64 (crc:Nat),.int .i64 (pk:Nat),.int .i64 (lg:Nat),.string nm] 38)=x:=⟨_,rfl⟩;rw[hW0]at T0';rw[hW0];have T0:=T0';clear T0' hW0;refine wp_region_held_drew (S:=fun W=>Jv W w.heap.size how st crc pk lg nm) p (ae T0).2.2 (fun c=>?_);refine ag 0 (.pointer (some ⟨w.heap.size,0,none⟩)) rfl (by kernel_rfl) (fun _ _ _ h=>h) rfl (fun W a=>by obtain⟨s0,s1,s2,s3,s4,s5⟩:=a;go_simp) c ?_;refine ag 1 (.int .i64 (how:Nat)) rfl (by kernel_rfl) (fun _ _ _ h=>h) rfl (fun W a=>by obtain⟨s0,s1,s2,s3,s4,s5⟩:=a;go_simp) c ?_;refine ag 4 (.pointer (some ⟨w.heap.size,1,none⟩)) rfl (by kernel_rfl) (fun _ _ _ h=>h) rfl (fun W a=>by obtain⟨s0,s1,s2,s3,s4,s5⟩:=a;go_simp) c ?_;refine ag 5 (.int .i64 (st:Nat)) rfl (by kernel_rfl) (fun _ _ _ h=>h) rfl (fun W a=>by obtain⟨s0,s1,s2,s3,s4,s5⟩:=a;go_simp) c ?_;refine ag 8 (.pointer (some ⟨w.heap.size,2,none⟩)) rfl (by kernel_rfl) (fun _ _ _ h=>h) rfl (fun W a=>by obtain⟨s0,s1,s2,s3,s4,s5⟩:=a;go_simp) c ?_;refine ag 9 (.int .i64 (crc:Nat)) rfl (by kernel_rfl) (fun _ _ _ h=>h) rfl (fun W a=>by obtain⟨s0,s1,s2,s3,s4,s5⟩:=a;go_simp) c ?_;refine ag 12 (.pointer (some ⟨w.heap.size,3,none⟩)) rfl (by kernel_rfl) (fun _ _ _ h=>h) rfl (fun W a=>by obtain⟨s0,s1,s2,s3,s4,s5⟩:=a;go_simp) c ?_;refine ag 13 (.int .i64 (pk:Nat)) rfl (by kernel_rfl) (fun _ _ _ h=>h) rfl (fun W a=>by obtain⟨s0,s1,s2,s3,s4,s5⟩:=a;go_simp) c ?_;refine ag 16 (.pointer (some ⟨w.heap.size,4,none⟩)) rfl (by kernel_rfl) (fun _ _ _ h=>h) rfl (fun W a=>by obtain⟨s0,s1,s2,s3,s4,s5⟩:=a;go_simp) c ?_;refine ag 17 (.int .i64 (lg:Nat)) rfl (by kernel_rfl) (fun _ _ _ h=>h) rfl (fun W a=>by obtain⟨s0,s1,s2,s3,s4,s5⟩:=a;go_simp) c ?_;refine ag 20 (.pointer (some ⟨w.heap.size,5,none⟩)) rfl (by kernel_rfl) (fun _ _ _ h=>h) rfl (fun W a=>by obtain⟨s0,s1,s2,s3,s4,s5⟩:=a;go_simp) c ?_;refine ag 21 (.string nm) rfl (by kernel_rfl) (fun _ _ _ h=>h) rfl (fun W a=>by obtain⟨s0,s1,s2,s3,s4,s5⟩:=a;go_simp) c ?_;refine ag 22 (.int .i64 (nm.size:Nat)) rfl (by kernel_rfl) (fun _ _ _ h=>h) rfl (fun W a=>by obtain⟨s0,s1,s2,s3,s4,s5⟩:=a;go_simp) c ?_;have b:tZ w how st crc pk lg nm W0.drew none none:=⟨⟨(ae T0).1.drew,(ae T0).2.1,(ae T0).2.2⟩,nofun,nofun⟩;generalize W0.drew=W at b c ⊢;refine wpAnyH_ready (rs:=[2,23]) (by kernel_rfl) (by simp) ?_;repeat' first
  | exact AllReadyH.nil
  | refine AllReadyH.cons rfl (fun K d=>?_) ?_
  | (refine iD 5 rfl ?_;go_simp;have b:=b.new0;refine Shut.out d _ _ b.1.2.2 (fun c=>?_);clear d K;generalize W.alloc (.cells #[.int .i64 20,.int .i64 0,.int .i64 ((how:Nat):Int)] 3)=V at b c ⊢;generalize W.heap.size=g at b ⊢;revert V;intro W c b;(first|refine wpAnyH_ready (rs:=[3,23]) (by decide +kernel) (by simp) ?_|refine wpAnyH_ready (rs:=[3]) (by decide +kernel) (by simp) ?_))
  | (refine iD 26 rfl ?_;go_simp;have b:=b.new1;refine Shut.out d _ _ b.1.2.2 (fun c=>?_);clear d K;generalize W.alloc (.cells #[.int .i64 ((nm.size:Nat):Int),.int .i64 0] 3)=V at b c ⊢;generalize W.heap.size=g at b ⊢;revert V;intro W c b;(first|refine wpAnyH_ready (rs:=[2]) (by decide +kernel) (by simp) ?_|refine wpAnyH_ready (rs:=[3]) (by decide +kernel) (by simp) ?_|refine wpAnyH_ready (rs:=[6]) (by decide +kernel) (by simp) ?_|refine wpAnyH_ready (rs:=[10]) (by decide +kernel) (by simp) ?_|refine wpAnyH_ready (rs:=[14]) (by decide +kernel) (by simp) ?_|refine wpAnyH_ready (rs:=[18]) (by decide +kernel) (by simp) ?_|refine wpAnyH_ready (rs:=[24]) (by decide +kernel) (by simp) ?_))
  | (refine iD 6 rfl ?_;go_simp;go_at_call 81;refine(ae q _ _ (b.2.1 _ rfl)).mono ?_;rintro e W ⟨rfl,f⟩;have b:=b.later f;refine Shut.out d _ _ b.1.2.2 (fun c=>?_);clear d K;clear f;(first|refine wpAnyH_ready (rs:=[6,23]) (by decide +kernel) (by simp) ?_|refine wpAnyH_ready (rs:=[6]) (by decide +kernel) (by simp) ?_))
  | (refine iD 9 rfl ?_;go_simp;go_at_call 82;refine(ae k _).mono ?_;rintro e W ⟨rfl,f⟩;have b:=b.later f;refine Shut.out d _ _ b.1.2.2 (fun c=>?_);clear d K;clear f;refine wpAnyH_take (i:=7) (v:=.string (A0++A1)) rfl (by kernel_rfl) (by kernel_rfl) (by kernel_rfl) (fun _ _ _ h=>h) (a0o ⟨by rfl,fun W a=>by go_simp<;>omega⟩) c ?_;(first|refine wpAnyH_ready (rs:=[10,23]) (by decide +kernel) (by simp) ?_|refine wpAnyH_ready (rs:=[10]) (by decide +kernel) (by simp) ?_))
  | (refine iD 13 rfl ?_;go_simp;go_at_call 82;refine(ae m _).mono ?_;rintro e W ⟨rfl,f⟩;have b:=b.later f;refine Shut.out d _ _ b.1.2.2 (fun c=>?_);clear d K;clear f;refine wpAnyH_take (i:=11) (v:=.string (A0++A1++A2)) rfl (by kernel_rfl) (by kernel_rfl) (by kernel_rfl) (fun _ _ _ h=>h) (a0o ⟨by rfl,fun W a=>by go_simp<;>omega⟩) c ?_;(first|refine wpAnyH_ready (rs:=[14,23]) (by decide +kernel) (by simp) ?_|refine wpAnyH_ready (rs:=[14]) (by decide +kernel) (by simp) ?_))
  | (refine iD 17 rfl ?_;go_simp;go_at_call 82;refine(ae n _).mono ?_;rintro e W ⟨rfl,f⟩;have b:=b.later f;refine Shut.out d _ _ b.1.2.2 (fun c=>?_);clear d K;clear f;refine wpAnyH_take (i:=15) (v:=.string (A0++A1++A2++A3)) rfl (by kernel_rfl) (by kernel_rfl) (by kernel_rfl) (fun _ _ _ h=>h) (a0o ⟨by rfl,fun W a=>by go_simp<;>omega⟩) c ?_;(first|refine wpAnyH_ready (rs:=[18,23]) (by decide +kernel) (by simp) ?_|refine wpAnyH_ready (rs:=[18]) (by decide +kernel) (by simp) ?_))
  | (refine iD 21 rfl ?_;go_simp;go_at_call 82;refine(ae o _).mono ?_;rintro e W ⟨rfl,f⟩;have b:=b.later f;refine Shut.out d _ _ b.1.2.2 (fun c=>?_);clear d K;clear f;refine wpAnyH_take (i:=19) (v:=.string (A0++A1++A2++A3++A4)) rfl (by kernel_rfl) (by kernel_rfl) (by kernel_rfl) (fun _ _ _ h=>h) (a0o ⟨by rfl,fun W a=>by go_simp<;>omega⟩) c ?_;(first|refine wpAnyH_ready (rs:=[23]) (by decide +kernel) (by simp) ?_|refine wpAnyH_ready (rs:=[24]) (by decide +kernel) (by simp) ?_))
  | (refine iD 27 rfl ?_;go_simp;go_at_call 81;refine(ae r _ _ (b.2.2 _ rfl)).mono ?_;rintro e W ⟨rfl,f⟩;have b:=b.later f;refine Shut.out d _ _ b.1.2.2 (fun c=>?_);clear d K;clear f;refine wpAnyH_take (i:=25) (v:=.string (A0++A1++A2++A3++A4++A5)) rfl (by kernel_rfl) (by kernel_rfl) (by kernel_rfl) (fun _ _ _ h=>h) (a0o ⟨by rfl,fun W a=>by go_simp<;>omega⟩) c ?_;refine wpAnyH_ready (rs:=[26]) (by kernel_rfl) (by simp) ?_)
  | (refine iD 2 rfl ?_;go_simp;refine Shut.out d _ _ b.1.2.2 (fun c=>?_);clear d K;refine wpAnyH_done (by kernel_rfl) ?_ _;generalize s:A0++A1++A2++A3++A4++A5=AA;go_wp2;go_ret;exact⟨by subst s;rfl,b.1.1⟩)
theorem qe(l:List UInt8):(bW l).size=l.length:=by simp[bW,ByteArray.size]
theorem jb(how st crc pk lg n:Nat):(jw how st crc pk lg n).size=26:=by
 unfold jw;rw[a0U,a0U,a0U,a0U,a0U];simp only[qe,a06,a2k,a0m,aL,a00]
def cG(how st crc pk lg:Nat)(nm:ByteArray):ByteArray:=(⟨#[80,75,3,4]⟩:ByteArray)++jw how st crc pk lg nm.size++nm
theorem yh(how st crc pk lg:Nat)(nm f:ByteArray)(w:World)(k:how<65536)(l:st<4294967296)(h2:crc<4294967296)(m:pk<4294967296)(n:lg<4294967296)(o:nm.size<65536) :
  CD 31 #[.agg #[.int .i64 (how:Nat),.int .i64 (st:Nat),.int .i64 (crc:Nat),.int .i64 (pk:Nat),.int .i64 (lg:Nat),.string nm,.string f]] w (.string (cG how st crc pk lg nm)):=by
 have j:=af (fun W=>Je how st crc pk lg nm W k l h2 m n o);have d:prog.follows .mixedOrders=true:=by kernel_rfl
 obtain⟨A,hA⟩:∃A,jw how st crc pk lg nm.size=A:=⟨_,rfl⟩;have q:(A.size:Int)<=1000:=by
  rw[←hA,jb];omega
 have r:(nm.size:Int)<65536:=by omega
 have p:cG how st crc pk lg nm=(⟨#[80,75,3,4]⟩:ByteArray)++A++nm:=by unfold cG;rw[hA]
 rw[hA]at j;rw[p];have T0':Hid (ua w how st crc pk lg nm (w.alloc (.cells #[.int .i64 (how:Nat),.int .i64 (st:Nat),.int .i64 (crc:Nat),.int .i64 (pk:Nat),.int .i64 (lg:Nat),.string nm,.string f] 40))):=⟨(a0c _ _).alloc (a0a _) _,by simp,by simp,by simp,by simp,by simp,by simp,by simp⟩;clear k l h2 m n o hA p;go_enter func31,ntmps31;go_wp2_with fail;obtain⟨W0,hW0⟩:∃x,w.alloc (.cells #[.int .i64 (how:Nat),.int .i64 (st:Nat),.int .i64 (crc:Nat),.int .i64 (pk:Nat),.int .i64 (lg:Nat),.string nm,.string f] 40)=x:=⟨_,rfl⟩;rw[hW0]at T0';rw[hW0];have T0:=T0';clear T0' hW0;refine wp_region_held_drew (S:=fun W=>Jv W w.heap.size how st crc pk lg nm) d (ae T0).2.2 (fun b=>?_);refine ag 0 (.pointer (some ⟨w.heap.size,0,none⟩)) rfl (by kernel_rfl) (fun _ _ _ h=>h) rfl (fun W a=>by obtain⟨s0,s1,s2,s3,s4,s5⟩:=a;go_simp) b ?_;refine ag 1 (.agg #[.int .i64 (how:Nat),.int .i64 (st:Nat),.int .i64 (crc:Nat),.int .i64 (pk:Nat),.int .i64 (lg:Nat),.string nm]) rfl (by kernel_rfl) (fun _ _ _ h=>h) rfl (fun W a=>by obtain⟨s0,s1,s2,s3,s4,s5⟩:=a;go_simp) b ?_;refine ag 4 (.pointer (some ⟨w.heap.size,0,none⟩)) rfl (by kernel_rfl) (fun _ _ _ h=>h) rfl (fun W a=>by obtain⟨s0,s1,s2,s3,s4,s5⟩:=a;go_simp) b ?_;refine ag 5 (.pointer (some ⟨w.heap.size,5,none⟩)) rfl (by kernel_rfl) (fun _ _ _ h=>h) rfl (fun W a=>by obtain⟨s0,s1,s2,s3,s4,s5⟩:=a;go_simp) b ?_;refine ag 6 (.string nm) rfl (by kernel_rfl) (fun _ _ _ h=>h) rfl (fun W a=>by obtain⟨s0,s1,s2,s3,s4,s5⟩:=a;go_simp) b ?_;have T1:Hid (ua w how st crc pk lg nm W0.drew):=⟨(ae T0).1.drew,(ae T0).2.1,(ae T0).2.2⟩;generalize W0.drew=W1 at *
 refine ai 2 (by kernel_rfl) rfl fun K c=>?_;go_simp;go_at_call 59;refine(ae j W1).mono ?_;rintro e W2 ⟨rfl,i⟩;have T2:=af ((ae T1).later i);refine Shut.out c _ _ (ae T2).2.2 (fun b=>?_);clear c K i;refine ag 3 (.string ((⟨#[80,75,3,4]⟩:ByteArray)++A)) rfl (by kernel_rfl) (fun _ _ _ h=>h) rfl (fun W a=>by obtain⟨s0,s1,s2,s3,s4,s5⟩:=a;go_simp<;>omega) b ?_;refine ag 7 (.string ((⟨#[80,75,3,4]⟩:ByteArray)++A++nm)) rfl (by kernel_rfl) (fun _ _ _ h=>h) rfl (fun W a=>by obtain⟨s0,s1,s2,s3,s4,s5⟩:=a;go_simp<;>omega) b ?_;refine ai 8 (by kernel_rfl) rfl fun K c=>?_;go_simp;refine Shut.out c _ _ (ae T2).2.2 (fun b=>?_);clear c K;refine wpAnyH_done (by kernel_rfl) ?_ _;generalize g:(⟨#[80,75,3,4]⟩:ByteArray)++A++nm=AA;go_wp2;go_ret;exact⟨by subst g;rfl,(ae T2).1⟩
theorem A9(how st crc pk lg:Nat)(nm:ByteArray):(cG how st crc pk lg nm).size=30+nm.size:=by
 unfold cG;rw[a0U,a0U,jb];have:(⟨#[80,75,3,4]⟩:ByteArray).size=4:=rfl;omega
theorem qu(how st crc pk lg:Nat)(nm a:ByteArray)(w:World)(j:how<65536)(k:st<4294967296)(h2:crc<4294967296)(l:pk<4294967296)(m:lg<4294967296)(n:nm.size<65536)(q:a.size<=100000) :
  CD 15 #[.agg #[.int .i64 (how:Nat),.int .i64 (st:Nat),.int .i64 (crc:Nat),.int .i64 (pk:Nat),.int .i64 (lg:Nat),.string nm,.string a]] w (.string (cG how st crc pk lg nm++a)):=by
 have f:prog.follows .mixedOrders=true:=by kernel_rfl
 have o:=af (fun W=>yh how st crc pk lg nm a W j k h2 l m n);have r:((cG how st crc pk lg nm).size:Int)<=70000:=by rw[A9];omega
 have s:(a.size:Int)<=100000:=by omega
 generalize cG how st crc pk lg nm=A at *
 have T0':Hid (ua w how st crc pk lg nm (w.alloc (.cells #[.int .i64 (how:Nat),.int .i64 (st:Nat),.int .i64 (crc:Nat),.int .i64 (pk:Nat),.int .i64 (lg:Nat),.string nm,.string a] 40))/\(w.alloc (.cells #[.int .i64 (how:Nat),.int .i64 (st:Nat),.int .i64 (crc:Nat),.int .i64 (pk:Nat),.int .i64 (lg:Nat),.string nm,.string a] 40)).cell? ⟨w.heap.size,6,none⟩=some (.string a)):=⟨⟨(a0c _ _).alloc (a0a _) _,by simp,by simp,by simp,by simp,by simp,by simp,by simp⟩,by simp⟩;clear j k h2 l m n q;go_enter func15,ntmps15;go_wp2_with fail;obtain⟨W0,hW0⟩:∃x,w.alloc (.cells #[.int .i64 (how:Nat),.int .i64 (st:Nat),.int .i64 (crc:Nat),.int .i64 (pk:Nat),.int .i64 (lg:Nat),.string nm,.string a] 40)=x:=⟨_,rfl⟩;rw[hW0]at T0';rw[hW0];have T0:=T0';clear T0' hW0;refine wp_region_held_drew (S:=fun W=>Jv W w.heap.size how st crc pk lg nm/\W.cell? ⟨w.heap.size,6,none⟩=some (.string a)) f ⟨(ae T0).1.2.2,(ae T0).2⟩ (fun c=>?_);refine ag 0 (.agg #[.int .i64 (how:Nat),.int .i64 (st:Nat),.int .i64 (crc:Nat),.int .i64 (pk:Nat),.int .i64 (lg:Nat),.string nm,.string a]) rfl (by kernel_rfl) (fun _ _ _ h=>h) rfl (fun W b=>by obtain⟨⟨s0,s1,s2,s3,s4,s5⟩,s6⟩:=b;go_simp) c ?_;refine ag 2 (.pointer (some ⟨w.heap.size,6,none⟩)) rfl (by kernel_rfl) (fun _ _ _ h=>h) rfl (fun W b=>by obtain⟨⟨s0,s1,s2,s3,s4,s5⟩,s6⟩:=b;go_simp) c ?_;refine ag 3 (.string a) rfl (by kernel_rfl) (fun _ _ _ h=>h) rfl (fun W b=>by obtain⟨⟨s0,s1,s2,s3,s4,s5⟩,s6⟩:=b;go_simp) c ?_;have T1:Hid (ua w how st crc pk lg nm W0.drew/\W0.drew.cell? ⟨w.heap.size,6,none⟩=some (.string a)):=⟨⟨(ae T0).1.1.drew,(ae T0).1.2.1,(ae T0).1.2.2⟩,(ae T0).2⟩;generalize W0.drew=W1 at *
 refine ai 1 (by kernel_rfl) rfl fun K d=>?_;go_simp;go_at_call 31;refine(ae o W1).mono ?_;rintro e W2 ⟨rfl,g⟩;have T2:Hid (ua w how st crc pk lg nm W2/\W2.cell? ⟨w.heap.size,6,none⟩=some (.string a)):=⟨(ae T1).1.later g,by rw[g.cell (p:=⟨w.heap.size,6,none⟩) (ae T1).1.2.1];exact(ae T1).2⟩;refine Shut.out d _ _ ⟨(ae T2).1.2.2,(ae T2).2⟩ (fun c=>?_);clear d K g;refine ag 4 (.string (A++a)) rfl (by kernel_rfl) (fun _ _ _ h=>h) rfl (fun W b=>by obtain⟨⟨s0,s1,s2,s3,s4,s5⟩,s6⟩:=b;go_simp<;>omega) c ?_;refine ai 5 (by kernel_rfl) rfl fun K d=>?_;go_simp;refine Shut.out d _ _ ⟨(ae T2).1.2.2,(ae T2).2⟩ (fun c=>?_);clear d K;refine wpAnyH_done (by kernel_rfl) ?_ _;generalize i:A++a=AA;go_wp2;go_ret;exact⟨by subst i;rfl,(ae T2).1.1⟩
theorem yF(l:List UInt8):leS l.length (cB l)=l:=by
 apply a2g
 . rw[aL]
 . intro j a h2;have h:=Df l.length (cB l) j h2;rw[Ad]at h;rw[List.getD_eq_getElem?_getD,List.getElem?_eq_getElem a,List.getD_eq_getElem?_getD,List.getElem?_eq_getElem h2]at h;simpa using h
theorem tX(k V:Nat):cB (leS k V)=V%2 ^ (8*k):=by
 induction k with
 | zero=>simp[leS,cB,a1k]
 | succ k ih=>
  simp only[leS];rw[ik,ih,aL];have e:2 ^ (8*(k+1))=2 ^ (8*k)*256:=by rw[a2d,a0S]
  rw[e,Nat.mod_mul]
  congr 2
  simp[cB]
theorem oA(V p k:Nat):V/2 ^ p%2 ^ (k+1)=V/2 ^ p%2 ^ k+V/2 ^ (p+k)%2*2 ^ k:=by
 rw[yU,a1K,←a0S]
def fE(l:List Int):Nat:=(l.map Int.toNat).sum
theorem qL(a b:List Int):fE (a++b)=fE a+fE b:=by simp[fE]
theorem kh(x:Int)(b:List Int):fE (x :: b)=x.toNat+fE b:=by simp[fE]
def dJ(V:Nat):Nat->List Int->List Int
 | _,[]=>[]
 | p,b :: bs=>((V/2 ^ p%2 ^ b.toNat:Nat):Int) :: dJ V (p+b.toNat) bs
theorem ve(V p:Nat)(l:List Int):(dJ V p l).length=l.length:=by
 induction l generalizing p with
 | nil=>rfl
 | cons b l ih=>simp[dJ,ih]
theorem wL(V p:Nat)(a b:List Int):dJ V p (a++b)=dJ V p a++dJ V (p+fE a) b:=by
 induction a generalizing p with
 | nil=>simp[dJ,fE]
 | cons x a ih=>simp[dJ,ih,kh,a1T]
def ee(l:List Int):Bool:=l.all (fun b=>decide (0<=b)&&decide (b<=16))
def jk(s:List UInt8)(l:List Int):Bool:=ee l&&decide (l.length<=4000)&&decide (s.length=(fE l+7)/8)&&decide (cB s<2 ^ fE l)
def xZ(s:List UInt8)(l:List Int):List Int:=if jk s l=true then dJ (cB s) 0 l else []
theorem Aq{l:List Int}(h:ee l=true)(k:Nat)(a:k<l.length):0<=l.getD k 0/\l.getD k 0<=16:=by
 have:=a1m.1 h (l.getD k 0) (by simp[List.getD,a]);simpa using this
theorem KQ{l:List Int}(h:ee l=true):fE l<=16*l.length:=by
 induction l with
 | nil=>simp[fE]
 | cons b l ih=>
  have a:(0<=b/\b<=16)/\ee l=true:=by simpa[ee]using h
  have:=ih a.2;rw[kh,a0E];omega
theorem BX(s:List UInt8)(m:Nat)(h:s.length=(m+7)/8):(cB s/2 ^ m%2 ^ ((8-m%8)%8)=0)<->cB s<2 ^ m:=by
 have a:=oX s;have e:8*s.length=m+(8-m%8)%8:=by omega
 rw[e,a0S]at a;have h2:cB s/2 ^ m<2 ^ ((8-m%8)%8):=Nat.div_lt_of_lt_mul a;rw[a1c h2];constructor
 .
  intro b;rcases Nat.div_eq_zero_iff.1 b with h|h
  . have:=a1i m;omega
  . exact h
 . exact a1L
def wd(l:List UInt8)(i k:Nat):Nat:=cB ((l.drop i).take k)
theorem DK(l:List UInt8)(i k:Nat):wd l i k<2 ^ (8*k):=by
 unfold wd;refine a0k (oX _) (a0Q (by decide) ?_);rw[a0H];omega
theorem kW(l:List UInt8)(i:Nat):wd l i 2<65536:=DK l i 2
theorem gU(l:List UInt8)(i:Nat):wd l i 4<4294967296:=DK l i 4
theorem gh(h:i+k<=l.length):((l.drop i).take k).length=k:=by
 rw[a0H,a1l];omega
theorem nO(h:i+k<=l.length):leS k (wd l i k)=(l.drop i).take k:=by
 have:=yF ((l.drop i).take k);rw[gh h]at this;exact this
theorem LX(k:Nat)(h:i+j<=l.length):wd l i (j+k)=wd l i j+2 ^ (8*j)*wd l (i+j) k:=by
 unfold wd;rw[List.take_add,ik,gh h,List.drop_drop]
theorem Mm(h:i+2<=l.length):wd l i 4=wd l i 2+65536*wd l (i+2) 2:=LX (j:=2) 2 h
theorem DJ{v:Nat}(h:i+k<=l.length)(a:v<2 ^ (8*k)):wd l i k=v<->(l.drop i).take k=leS k v:=by
 constructor
 . intro e;rw[←e,nO h]
 . intro e;unfold wd;rw[e,tX,a1c a]
theorem FH(h:i+k<=l.length):cB l/2 ^ (8*i)%2 ^ (8*k)=wd l i k:=by
 have e1:cB l=cB (l.take i)+2 ^ (8*i)*cB (l.drop i):=by
  have a:=ik (l.take i) (l.drop i);rw[a2D,a0H,a1r (by omega)]at a;exact a
 have l1:cB (l.take i)<2 ^ (8*i):=by
  have:=oX (l.take i);rw[a0H,a1r (by omega)]at this;exact this
 have e2:cB (l.drop i)=wd l i k+2 ^ (8*k)*cB ((l.drop i).drop k):=by
  have a:=ik ((l.drop i).take k) ((l.drop i).drop k);rw[a2D,gh h]at a;exact a
 rw[e1,Nat.add_mul_div_left _ _ (a1i _),a1L l1,a0J,e2,Nat.add_mul_mod_self_left,a1c (DK l i k)]
theorem tD(V b:Nat):∀(n p j:Nat),j<n->(dJ V p (List.replicate n ((b:Nat):Int))).getD j 0=((V/2 ^ (p+b*j)%2 ^ b:Nat):Int)
 | 0,_,_,h=>by omega
 | n+1,p,0,_=>by simp[List.replicate_succ,dJ]
 | n+1,p,j+1,h=>by
  rw[List.replicate_succ];simp only[dJ,a2p];rw[tD V b n _ j (by omega),a0p,show p+b+b*j=p+b*(j+1) by rw[a2d];omega]
theorem vY(h:30<=l.length):jk (l.take 30) (List.replicate 15 16)=true:=by
 have e1:fE (List.replicate 15 16)=240:=by decide
 have e2:(l.take 30).length=30:=by rw[a0H];omega
 have e3:ee (List.replicate 15 16)=true:=by decide
 have e4:=oX (l.take 30);rw[e2]at e4;unfold jk;rw[e1,e2,e3];simpa using e4
theorem Ba(h:30<=l.length)(j:Nat)(b:j<15):(xZ (l.take 30) (List.replicate 15 16)).getD j 0=((wd l (2*j) 2:Nat):Int):=by
 unfold xZ;rw[a0d (vY h)];have a:=tD (cB (l.take 30)) 16 15 0 j b;rw[show((16:Nat):Int)=16 from rfl]at a;rw[a];have e2:(l.take 30).length=30:=by rw[a0H];omega
 have h2:=FH (l:=l.take 30) (i:=2*j) (k:=2) (by omega);rw[show 0+16*j=8*(2*j) by omega,show(16:Nat)=8*2 from rfl,h2]
 congr 1
 unfold wd;rw[List.drop_take,List.take_take,a1r (by omega)]
theorem GC(h:30<=l.length):(xZ (l.take 30) (List.replicate 15 16)).length=15:=by
 unfold xZ;rw[a0d (vY h),ve,a0w]
def oc(l:List UInt8):Bool:=decide (wd l 0 4=67324752)&&(decide (wd l 4 2=20)&&(decide (wd l 6 2=0)&&decide (wd l 28 2=0)))
theorem BR(l:List UInt8)(n:Nat):l.take (30+n)=(l.drop 0).take 4++((l.drop 4).take 2++((l.drop 6).take 2++((l.drop 8).take 2++((l.drop 10).take 4++((l.drop 14).take 4++((l.drop 18).take 4++((l.drop 22).take 4++((l.drop 26).take 2++((l.drop 28).take 2++(l.drop 30).take n))))))))):=by
 have st:∀i k m,(l.drop i).take (k+m)=(l.drop i).take k++(l.drop (i+k)).take m:=fun i k m=>by rw[List.take_add,List.drop_drop]
 rw[←st 28 2 n,←st 26 2 _,←st 22 4 _,←st 18 4 _,←st 14 4 _,←st 10 4 _,←st 8 2 _,←st 6 2 _,←st 4 2 _,←st 0 4 _,a16]
 congr 1
 omega
theorem ng(how st crc pk lg:Nat)(nm:ByteArray):(cG how st crc pk lg nm).data.toList=leS 4 67324752++(leS 2 20++(leS 2 0++(leS 2 how++(leS 4 st++(leS 4 crc++(leS 4 pk++(leS 4 lg++(leS 2 nm.size++(leS 2 0++nm.data.toList))))))))):=by
 have e:leS 4 67324752=[80,75,3,4]:=by decide +kernel
 rw[e];unfold cG jw bW;simp
theorem GD(h:30+wd l 26 2<=l.length)(b:nm.data.toList=(l.drop 30).take (wd l 26 2)) :
  (cG (wd l 8 2) (wd l 10 4) (wd l 14 4) (wd l 18 4) (wd l 22 4) nm).data.toList.isPrefixOf l=oc l:=by
 have c:nm.size=wd l 26 2:=by
  have:=congrArg List.length b;rw[gh h]at this;simpa using this
 have a:(cG (wd l 8 2) (wd l 10 4) (wd l 14 4) (wd l 18 4) (wd l 22 4) nm).data.toList.length=30+wd l 26 2:=by
  rw[ng,b];simp only[a0m,aL,gh h];omega
 rw[a2t,List.isPrefixOf_iff_prefix,List.prefix_iff_eq_take,a,BR,ng,c,b,
  nO (i:=8) (k:=2) (by omega),nO (i:=10) (k:=4) (by omega),nO (i:=14) (k:=4) (by omega),nO (i:=18) (k:=4) (by omega),nO (i:=22) (k:=4) (by omega),nO (i:=26) (k:=2) (by omega)]
 simp only[oc,a0l,a0u];rw[DJ (i:=0) (k:=4) (by omega) (by decide),DJ (i:=4) (k:=2) (by omega) (by decide),DJ (i:=6) (k:=2) (by omega) (by decide),DJ (i:=28) (k:=2) (by omega) (by decide)];constructor
 . intro e;obtain⟨e1,e⟩:=a2H e (by rw[aL,gh (by omega)]);obtain⟨e2,e⟩:=a2H e (by rw[aL,gh (by omega)]);obtain⟨e3,e⟩:=a2H e (by rw[aL,gh (by omega)]);have e:=a2I (a2I (a2I (a2I (a2I (a2I e)))));obtain⟨e4,_⟩:=a2H e (by rw[aL,gh (by omega)]);exact⟨e1.symm,e2.symm,e3.symm,e4.symm⟩
 . rintro⟨e1,e2,e3,e4⟩;rw[e1,e2,e3,e4]
theorem KW(k:Nat)(h:i<l.length):wd l i (k+1)=(l.getD i 0).toNat+256*wd l (i+1) k:=by
 have e:(l.drop i).take (k+1)=l[i] :: (l.drop (i+1)).take k:=by rw[List.drop_eq_getElem_cons h,List.take_succ_cons]
 unfold wd;rw[e,List.getD_eq_getElem?_getD,List.getElem?_eq_getElem h];simp only[cB,a2B]
theorem Jp{a b:List UInt8}(k:Nat)(h:a.length=m):wd (a++b) (m+i) k=wd b i k:=by
 unfold wd;rw[←h,a24,a2J (by omega),a1b,a19]
theorem gV(b:List UInt8)(h:V<2 ^ (8*k)):wd (leS k V++b) 0 k=V:=by
 unfold wd;rw[a16,a3G (by rw[aL];exact a0a _),a0F (by rw[aL];exact a0a _),tX,a1c h]
theorem sd(r:List UInt8)(d:how<65536)(e:st<4294967296)(h2:crc<4294967296)(f:pk<4294967296)(g:lg<4294967296)(h:nm.size<65536) :
  oc ((cG how st crc pk lg nm).data.toList++r)=true/\wd ((cG how st crc pk lg nm).data.toList++r) 8 2=how/\wd ((cG how st crc pk lg nm).data.toList++r) 10 4=st/\wd ((cG how st crc pk lg nm).data.toList++r) 14 4=crc/\wd ((cG how st crc pk lg nm).data.toList++r) 18 4=pk/\wd ((cG how st crc pk lg nm).data.toList++r) 22 4=lg/\wd ((cG how st crc pk lg nm).data.toList++r) 26 2=nm.size/\(((cG how st crc pk lg nm).data.toList++r).drop 30).take nm.size=nm.data.toList/\((cG how st crc pk lg nm).data.toList++r).drop (30+nm.size)=r:=by
 rw[ng];simp only[a0M];have g4:∀(V:Nat) (b:List UInt8) (i k:Nat),wd (leS 4 V++b) (4+i) k=wd b i k:=fun V b i k=>Jp k (aL 4 V);have g2:∀(V:Nat) (b:List UInt8) (i k:Nat),wd (leS 2 V++b) (2+i) k=wd b i k:=fun V b i k=>Jp k (aL 2 V);have c:∀(V:Nat) (b:List UInt8) (i:Nat),(leS 4 V++b).drop (4+i)=b.drop i:=fun V b i=>by rw[a24,a2J (by rw[aL];omega),a1b,aL,a19]
 have a:∀(V:Nat) (b:List UInt8) (i:Nat),(leS 2 V++b).drop (2+i)=b.drop i:=fun V b i=>by rw[a24,a2J (by rw[aL];omega),a1b,aL,a19]
 have e30:∀j,30+j=4+(2+(2+(2+(4+(4+(4+(4+(2+(2+j))))))))):=fun j=>by omega
 have l:nm.data.toList.length=nm.size:=by simp
 refine⟨?_,?_,?_,?_,?_,?_,?_,?_,?_⟩
 . unfold oc;rw[gV _ (by decide),show(4:Nat)=4+0 from rfl,g4,gV _ (by decide),show(6:Nat)=4+(2+0)from rfl,g4,g2,gV _ (by decide),show(28:Nat)=4+(2+(2+(2+(4+(4+(4+(4+(2+0))))))))from rfl,g4,g2,g2,g2,g4,g4,g4,g4,g2,gV _ (by decide)];rfl
 . rw[show(8:Nat)=4+(2+(2+0))from rfl,g4,g2,g2,gV _ d]
 . rw[show(10:Nat)=4+(2+(2+(2+0)))from rfl,g4,g2,g2,g2,gV _ e]
 . rw[show(14:Nat)=4+(2+(2+(2+(4+0))))from rfl,g4,g2,g2,g2,g4,gV _ h2]
 . rw[show(18:Nat)=4+(2+(2+(2+(4+(4+0)))))from rfl,g4,g2,g2,g2,g4,g4,gV _ f]
 . rw[show(22:Nat)=4+(2+(2+(2+(4+(4+(4+0))))))from rfl,g4,g2,g2,g2,g4,g4,g4,gV _ g]
 . rw[show(26:Nat)=4+(2+(2+(2+(4+(4+(4+(4+0)))))))from rfl,g4,g2,g2,g2,g4,g4,g4,g4,gV _ h]
 . rw[show(30:Nat)=4+(2+(2+(2+(4+(4+(4+(4+(2+(2+0)))))))))from rfl,c,a,a,a,c,c,c,c,a,a,a16,a3G (by omega),a0F (by omega)]
 . rw[e30,c,a,a,a,c,c,c,c,a,a,a24,a2J (by omega),a1b,l,a3F,a16]
def dG(s:ByteArray)(p k:Nat):Int:=if p+k<=s.size then((wd s.data.toList p k:Nat):Int)else -1
theorem iX{s:ByteArray}{p:Nat}(h:p+k<=s.size):dG s p k=((wd s.data.toList p k:Nat):Int):=a0d h
theorem Dm{s:ByteArray}{p:Nat}(h:¬ p+k<=s.size):dG s p k = -1:=a0e h
theorem Gb(s:ByteArray)(i:Nat)(h:i<s.size):s.data.toList.getD i 0=s[i]:=by
 have a:i<s.data.toList.length:=by simpa using h
 rw[List.getD_eq_getElem?_getD,List.getElem?_eq_getElem a];rfl
theorem KX(s:ByteArray)(k:Nat)(h:i<s.size):wd s.data.toList i (k+1)=256*wd s.data.toList (i+1) k+s[i].toNat:=by
 rw[KW k (by simpa using h),Gb s i h,a2S]
theorem FO{X:Nat}{b:UInt8}(a:(X:Int)<16777216):wrap64 (256*(X:Int)+wrap64 (b.toNat:Int))=((256*X+b.toNat:Nat):Int):=by
 have:=b.toNat_lt;simp only[wrap64];omega
theorem d6(s:ByteArray)(p k:Nat)(w:World)(y:p<=4000000)(v:k<=4)(C:(s.size:Int)<=4611686018427387904) :
  CD 36 #[.string s,.int .i64 (p:Int),.int .i64 (k:Int)] w (.int .i64 (dG s p k)):=by
 have h:(k:Int)<=4:=by omega
 have z:(0:Int)<=(p:Int):=by omega
 have g:(0:Int)<=(k:Int):=by omega
 by_cases c:p+k<=s.size
 .
  rw[iX c];have d:(p:Int)+(k:Int)<=(s.size:Int):=by omega
  have r:=af c;clear c;go_enter func36,ntmps36;go_wp2_with fail
  go_loopw [7,8] (fun x i wr=>∃q j:Nat,q+j=k/\i = .int .i64 ((q:Int)-1)/\x = .int .i64 ((wd s.data.toList (p+q) j:Nat):Int)/\Below w.heap.size w wr) (fun _ i _=>(intOf i+1).toNat)
  case atStart=>exact⟨k,0,rfl,rfl,by simp[wd,cB],a0c _ _⟩
  case round=>
   obtain⟨q,j,e,rfl,rfl,b⟩:=hrel;have a:=af b;clear b;rcases q with _|q
   .
    obtain rfl:j=k:=by omega
    go_wp2;go_ret;exact⟨rfl,ae a⟩
   .
    have l:p+q<s.size:=by have:=ae r;omega
    have o:=af (KX s j l);have u:wd s.data.toList (p+q+1) j<16777216:=a0k (DK _ _ _) (by
     have:8*j<=24:=by omega
     exact a0z (a0Q (by decide) this) (by decide))
    have e1:((q+1:Nat):Int)-1=(q:Int):=by omega
    have e2:p+(q+1)=p+q+1:=rfl;rw[e1,e2];generalize wd s.data.toList (p+q+1) j=X at *
    have f:(X:Int)<16777216:=by omega
    have t:=af e;have A:(p:Int)+(q:Int)<(s.size:Int):=by omega
    have m:0<=(p:Int)+(q:Int):=by omega
    have n:(p:Int)+(q:Int)<=4611686018427387904:=by omega
    have B:(q:Int)<=4:=by omega
    clear u e1 e2 e d h g v y;go_wp2;go_roundw
    case rel=>exact⟨q,j+1,by have:=ae t;omega,by go_num,by rw[ae o,FO f],ae a⟩
    case measure=>simp[intOf]
 .
  rw[Dm c];have d:(s.size:Int)<(p:Int)+(k:Int):=by omega
  clear c;go_enter func36,ntmps36;go_wp2;go_ret;exact⟨rfl,a0c _ _⟩
attribute [local go_sem ↓] Go.wp_at_zero Go.wp_at_succ
theorem Ia(V p k:Nat)(h:k<=16):V/2 ^ p%2 ^ k<65536:=by
 have a:V/2 ^ p%2 ^ k<2 ^ k:=a0W _ (a1i k);have h2:2 ^ k<=2 ^ 16:=a0Q (by omega) h;omega
theorem rx(k:Nat)(h:k<=16):p2 k<=65536:=by
 have h2:2 ^ k<=2 ^ 16:=a0Q (by omega) h;have a:p2 k=2 ^ k:=rfl;omega
theorem gJ(b p c:Nat)(s:ByteArray)(w:World)(h:Rdr w b s p)(A:s.size<=2000000)(u:c<=16) :
  Calls prog 151 #[.pointer (some ⟨b,0,none⟩),.int .i64 (c:Int)] w fun e w'=>e = .returned (.int .i64 (aj s/2 ^ p%2 ^ c:Nat))/\Rdr w' b s (p+c)/\aw b w w':=by
 have D:=af A;have F:(c:Int)<=16:=by omega
 have B:=af u;clear A u;go_enter func151,ntmps151;go_wp2_with fail
 go_loopw [5,6] (fun n i wr=>∃k:Nat,k<=c/\i = .int .i64 k/\n = .int .i64 (aj s/2 ^ p%2 ^ k:Nat)/\Rdr wr b s (p+k)/\aw b w wr) (fun _ i _=>c-(intOf i).toNat)
 case atStart=>exact⟨0,a0g _,rfl,by simp[a1k],h,aw.refl _ _⟩
 case round=>
  obtain⟨k,v,rfl,rfl,q,d⟩:=hrel;clear h;have C:=af v;by_cases H:k<c
  .
   have G:(k:Int)<(c:Int):=by omega
   have a:k<=16:=by have:=ae B;omega
   have t:Hid (aj s/2 ^ p%2 ^ (k+1)=aj s/2 ^ p%2 ^ k+aj s/2 ^ (p+k)%2*p2 k):=oA (aj s) p k;have m:=Ia (aj s) p k a;have I:aj s/2 ^ (p+k)%2<=1:=by omega
   have o:=rx k a;have f:=af (kS b (p+k) s wr q (ae D));have j:=af (fun W=>Kz k (p2 k) W (by omega) rfl);generalize aj s/2 ^ p%2 ^ k=n at *
   generalize aj s/2 ^ (p+k)%2=x at *
   generalize p2 k=PW at *
   have g:x*PW<=65536:=by rcases (show x=0∨x=1 by omega)with e|e<;>subst e<;>omega
   have e1:IntKind.i64.wrap ((x:Int)*(PW:Int))=((x*PW:Nat):Int):=by rw[←a1v];exact bF _ (by omega) (by omega)
   have e1':((x:Int)*(PW:Int))=((x*PW:Nat):Int):=by rw[←a1v]
   have z:(n:Int)<65536:=by omega
   have y:((x*PW:Nat):Int)<=65536:=by omega
   generalize E:x*PW=M at *
   clear E a I o m g v q;go_wp2_with fail;refine(ae f).mono ?_;rintro e x1 ⟨rfl,r,l⟩;go_wp2_with fail;refine(ae j _).mono ?_;rintro e x2 ⟨rfl,rfl⟩;go_wp2;go_roundw
   case rel=>exact⟨k+1,by omega,by go_num,by rw[ae t];go_num,r,d.trans l⟩
   case measure=>simp[intOf];omega
  .
   obtain rfl:k=c:=by have:=ae C;omega
   go_wp2;go_ret;exact⟨rfl,q,d⟩
theorem rest_step(V p j:Nat):(V/2 ^ p%2 ^ (j+1)=0)<->(V/2 ^ p%2 ^ j=0/\V/2 ^ (p+j)%2=0):=by
 rw[oA];have:=a1i j;constructor
 .
  intro h;have a:=Nat.eq_zero_of_add_eq_zero_right h;have h2:=Nat.eq_zero_of_add_eq_zero_left h;rcases Nat.mul_eq_zero.1 h2 with b|b
  . exact⟨a,b⟩
  . omega
 . rintro⟨a,h2⟩;rw[a,h2];simp
theorem wM(b p:Nat)(s:ByteArray)(w:World)(h:Rdr w b s p)(J:s.size<=2000000)(T:p<=8*s.size) :
  Calls prog 113 #[.pointer (some ⟨b,0,none⟩)] w fun e w'=>e = .returned (.bool (decide (aj s/2 ^ p%2 ^ ((8-p%8)%8)=0)))/\Rdr w' b s (p+(8-p%8)%8)/\aw b w w':=by
 have N:=af J;have E:(8-p%8)%8<=7:=by omega
 have F:(p+(8-p%8)%8)%8=0:=by omega
 have y:p+(8-p%8)%8<=8*s.size:=by omega
 have f:∀j,j<(8-p%8)%8->(p+j)%8≠0:=by omega
 have V:(s.size:Int)<=2000000:=by omega
 generalize (8-p%8)%8=c at *
 have B:=af y;clear J T y;go_enter func113,ntmps113;go_wp2_with fail
 go_loopw [3] (fun n wr=>∃k m:Nat,k<=c/\n = .int .i64 (m:Nat)/\m<=k/\(m=0<->aj s/2 ^ p%2 ^ k=0)/\Rdr wr b s (p+k)/\aw b w wr) (fun _ wr=>c+p-(match wr.cell? ⟨b,1,none⟩with|some (.int _ i)=>i.toNat|_=>0))
 case atStart=>exact⟨0,0,a0g _,rfl,a0a _,by simp[a1k],h,aw.refl _ _⟩
 case round=>
  obtain⟨k,m,I,rfl,v,u,z,d⟩:=hrel;clear h;have P:=z.at (by have:=ae B;omega);obtain⟨c0,c1,c2,f0,f1,f2,Q⟩:=P;have M:=af I;have r:=af u;have U:((p+k:Nat):Int)<=16000000:=by have:=ae B;omega
  clear u;by_cases g:k<c
  .
   have S:¬ ((p+k:Nat):Int)%8=0:=by have:=f k g;omega
   have G:=af (rest_step (aj s) p k);have K:aj s/2 ^ (p+k)%2<=1:=by omega
   have t:=af (kS b (p+k) s wr z (ae N));generalize aj s/2 ^ (p+k)%2=x at *
   have W:(x:Int)<=1:=by omega
   have R:(m:Int)<=7:=by omega
   have L:=af K;have A:=af v;have q:=af g;have C:=af (show p+k<8*s.size by have:=ae B;omega);clear f K I v g z F E;generalize a:p+k=pk at *
   have o:=af a;clear a;go_wp2_with fail;refine(ae t).mono ?_;rintro e x1 ⟨rfl,l,D⟩;go_wp2;go_roundw
   case rel=>exact⟨k+1,m+x,ae q,by go_num,by have:=ae A;have:=ae L;omega,by rw[ae G,←ae r];omega,by rw[←ae o]at l;exact l,d.trans D⟩
   case measure=>
    have O:=(l.at (by have:=ae C;omega)).2.1;rw[O,c1];have:=ae o;have:=ae q;simp;omega
  .
   obtain rfl:k=c:=by have:=ae M;omega
   have X:((p+k:Nat):Int)%8=0:=by omega
   generalize a:p+k=pk at *
   go_wp2;go_ret;refine⟨am ?_,by rw[a];exact z,d⟩;rw[show decide (aj s/2 ^ p%2 ^ k=0)=decide (m=0)from decide_eq_decide.2 (ae r).symm];rcases a2j m with H|H
   . subst H;rfl
   . rw[a0j (by omega)];first|(exact a0j (by omega))|(exact beq_false_of_ne (by omega))|(exact(by omega:False).elim)
end Go.Proofs.YtggknepmhjfohaaGreatDoor
namespace Go.Proofs.YtggknepmhjfohaaGreatDoor
open Go.Proofs.Tryz
open Go.RowKit Corb
variable {b p:Nat}{s:ByteArray}{w w':World}
theorem Box.keep1{P:Nat}{x y:Int}(h:Box w P x y)(a:aw b w w')(hb:P≠b):Box w' P x y:=by
 unfold Box at *
 rw[a.2 P (Array.getElem?_eq_some_iff.1 h).1 hb];exact h
theorem Ku(n x k M:Nat)(d:n<p2 k)(g:x<=1)(c:k<=16)(a:x*p2 k=M):bits .or .i64 (n:Int) (M:Int)=((n+M:Nat):Int):=by
 have f:=rx k c;have b:M<=65536:=by
  rcases (show x=0∨x=1 by omega)with e|e<;>subst e<;>omega
 rw[kF n M (by omega) (by omega)]
 congr 1
 rw[Nat.or_comm];rw[nat_join k M n (by rw[←a];exact Nat.mul_mod_left _ _) d];omega
theorem tC(b p c:Nat)(num:Int)(s:ByteArray)(w:World)(h:Rdr w b s p)(B:s.size<=2000000)(z:c<=16) :
  Calls prog 189 #[.pointer (some ⟨b,0,none⟩),.agg #[.int .i64 num,.int .i64 (c:Int)]] w fun e w'=>e = .returned (.int .i64 (aj s/2 ^ p%2 ^ c:Nat))/\Rdr w' b s (p+c)/\aw b w w':=by
 have F:=af B;have G:(c:Int)<=16:=by omega
 have D:=af z;have q:=h.lt;have y:=h.alloc (.cells #[.int .i64 num,.int .i64 (c:Int)] 82);have j:aw b w (w.alloc (.cells #[.int .i64 num,.int .i64 (c:Int)] 82)):=(aw.refl _ _).alloc (by omega) _;clear B z h;go_enter func189,ntmps189;go_wp2_with fail
 go_loopw [5,6,9] (fun n _ i wr=>∃k:Nat,k<=c/\i = .int .i64 k/\n = .int .i64 (aj s/2 ^ p%2 ^ k:Nat)/\Rdr wr b s (p+k)/\aw b w wr) (fun _ _ i _=>c-(intOf i).toNat)
 case atStart=>exact⟨0,a0g _,rfl,by simp[a1k],y,j⟩
 case round=>
  obtain⟨k,A,rfl,rfl,t,d⟩:=hrel;clear y j;have E:=af A;by_cases q:k<c
  .
   have H:(k:Int)<(c:Int):=by omega
   have a:k<=16:=by have:=ae D;omega
   have v:Hid (aj s/2 ^ p%2 ^ (k+1)=aj s/2 ^ p%2 ^ k+aj s/2 ^ (p+k)%2*p2 k):=oA (aj s) p k;have m:aj s/2 ^ p%2 ^ k<p2 k:=a0W _ (a1i k);have C:aj s/2 ^ (p+k)%2<=1:=by omega
   have r:=rx k a;have g:=af (pO b (p+k) s wr t (ae F));have f:=jI k;generalize aj s/2 ^ p%2 ^ k=n at *
   generalize aj s/2 ^ (p+k)%2=x at *
   have I:=Ku n x k (x*p2 k) m C a rfl;have l:x*p2 k<=65536:=by rcases (show x=0∨x=1 by omega)with e|e<;>rw[e]<;>omega
   have e1':(x:Int)*2 ^ k=((x*p2 k:Nat):Int):=by rw[a1v,f]
   have e1:IntKind.i64.wrap ((x:Int)*2 ^ k)=((x*p2 k:Nat):Int):=by rw[e1'];exact bF _ (by omega) (by omega)
   generalize x*p2 k=M at *
   have e2:IntKind.i64.wrap (M:Int)=(M:Int):=bF _ (by omega) (by omega);have J:(k:Int)<=16:=by omega
   clear a C r l A t m f;go_wp2_with fail;refine(ae g).mono ?_;rintro e x1 ⟨rfl,u,o⟩;go_wp2;go_roundw
   case rel=>exact⟨k+1,by omega,by go_num,by rw[ae v];go_num,u,d.trans o⟩
   case measure=>simp[intOf];omega
  .
   obtain rfl:k=c:=by have:=ae E;omega
   go_wp2;go_ret;exact⟨rfl,t,d⟩
theorem Kt(m x:Nat)(a:m<=1)(b:x<=1):∃y:Nat,bits .or .i64 (m:Int) (x:Int)=(y:Int)/\y<=1/\(y=0<->m=0/\x=0):=by
 refine⟨m ||| x,kF m x (by omega) (by omega),?_,?_⟩
 . rcases (show m=0∨m=1 by omega)with e|e<;>rcases (show x=0∨x=1 by omega)with f|f<;>subst e<;>subst f<;>decide
 . rcases (show m=0∨m=1 by omega)with e|e<;>rcases (show x=0∨x=1 by omega)with f|f<;>subst e<;>subst f<;>decide
theorem qG(b p:Nat)(s:ByteArray)(w:World)(h:Rdr w b s p)(M:s.size<=2000000)(W:p<=8*s.size) :
  Calls prog 56 #[.pointer (some ⟨b,0,none⟩)] w fun e w'=>e = .returned (.bool (decide (aj s/2 ^ p%2 ^ ((8-p%8)%8)=0)))/\Rdr w' b s (p+(8-p%8)%8)/\aw b w w':=by
 have Q:=af M;have H:(8-p%8)%8<=7:=by omega
 have I:(p+(8-p%8)%8)%8=0:=by omega
 have z:p+(8-p%8)%8<=8*s.size:=by omega
 have f:∀j,j<(8-p%8)%8->(p+j)%8≠0:=by omega
 have Y:(s.size:Int)<=2000000:=by omega
 generalize (8-p%8)%8=c at *
 have E:=af z;clear M W z;go_enter func56,ntmps56;go_wp2_with fail
 go_loopw [3] (fun n wr=>∃k m:Nat,k<=c/\n = .int .i64 (m:Nat)/\m<=1/\(m=0<->aj s/2 ^ p%2 ^ k=0)/\Rdr wr b s (p+k)/\aw b w wr) (fun _ wr=>c+p-(match wr.cell? ⟨b,1,none⟩with|some (.int _ i)=>i.toNat|_=>0))
 case atStart=>exact⟨0,0,a0g _,rfl,by omega,by simp[a1k],h,aw.refl _ _⟩
 case round=>
  obtain⟨k,m,L,rfl,v,u,C,d⟩:=hrel;clear h;have S:=C.at (by have:=ae E;omega);obtain⟨c0,c1,c2,f0,f1,f2,T⟩:=S;have P:=af L;have r:=af u;have X:((p+k:Nat):Int)<=16000000:=by have:=ae E;omega
  clear u;by_cases g:k<c
  .
   have U:¬ ((p+k:Nat):Int)%8=0:=by have:=f k g;omega
   have J:=af (rest_step (aj s) p k);have N:aj s/2 ^ (p+k)%2<=1:=by omega
   have t:=af (pO b (p+k) s wr C (ae Q));generalize aj s/2 ^ (p+k)%2=x at *
   obtain⟨y,V,B,A⟩:=Kt m x v N;have O:=af A;have D:=af B;have q:=af g;have F:=af (show p+k<8*s.size by have:=ae E;omega);clear f N L v g C I H A B;generalize a:p+k=pk at *
   have o:=af a;clear a;go_wp2_with fail;refine(ae t).mono ?_;rintro e x1 ⟨rfl,l,G⟩;go_wp2;go_roundw
   case rel=>exact⟨k+1,y,ae q,rfl,ae D,by rw[ae J,←ae r];exact ae O,by rw[←ae o]at l;exact l,d.trans G⟩
   case measure=>
    have R:=(l.at (by have:=ae F;omega)).2.1;rw[R,c1];have:=ae o;have:=ae q;simp;omega
  .
   obtain rfl:k=c:=by have:=ae P;omega
   have Z:((p+k:Nat):Int)%8=0:=by omega
   generalize a:p+k=pk at *
   go_wp2;go_ret;refine⟨am ?_,by rw[a];exact C,d⟩;rw[show decide (aj s/2 ^ p%2 ^ k=0)=decide (m=0)from decide_eq_decide.2 (ae r).symm];rcases a2j m with K|K
   . subst K;rfl
   . rw[a0j (by omega)];first|(exact a0j (by omega))|(exact beq_false_of_ne (by omega))|(exact(by omega:False).elim)
def bH(m:List UInt8):List (Int×Int):=m.map fun b=>((b.toNat:Int),8)
theorem kw(m:List UInt8):(bH m).length=m.length:=by simp[bH]
theorem D2(m:List UInt8):aX (bH m)=true:=by
 simp only[aX,bH,List.all_map,a1m];intro b _;have:=a2h b;have a:p2 (8:Int).toNat=256:=by decide
 have c:pOk (b.toNat:Int) 8=true:=aP.2 ⟨by omega,by omega,by rw[a];omega⟩;exact c
theorem Ay(m:List UInt8):aW (bH m)=(cB m,8*m.length):=by
 induction m with
 | nil=>rfl
 | cons b m ih=>
  have e0:bH (b :: m)=[((b.toNat:Int),(8:Int))]++bH m:=rfl;have e:aW [((b.toNat:Int),(8:Int))]=(b.toNat,8):=by simp[aW,mM,ig]
  have e2:cB (b :: m)=cB [b]+2 ^ (8*1)*cB m:=ik [b] m;have e3:cB [b]=b.toNat:=by simp[cB]
  rw[e0,l9,ih,e,e2,e3];refine Prod.ext ?_ ?_
  . show b.toNat+cB m*2 ^ 8=b.toNat+2 ^ (8*1)*cB m;rw[a1d]
  . show 8+8*m.length=8*(b :: m).length;rw[a0E];omega
theorem na(m:List UInt8)(h:m.length<=4000):lOk (bH m)=true:=by
 simp only[lOk,a0l,a2u];exact⟨D2 m,by rw[kw];exact h⟩
theorem Ax(m:List UInt8)(h:m.length<=4000):oG (bH m)=m:=by
 rw[dW (na m h),cx,Ay];show leS ((8*m.length+7)/8) (cB m)=m;rw[show(8*m.length+7)/8=m.length by omega];exact yF m
def ef(n:Nat):List (Int×Int):=[(1,1),(0,2),(0,5),((n:Int),16),(((65535-n:Nat):Int),16)]
def gn(n:Nat):Nat:=1+n*256+(65535-n)*16777216
theorem r9(n:Nat)(h:n<=65535):lOk (ef n)=true:=by
 have a:p2 (16:Int).toNat=65536:=by decide
 have a1:pOk 1 1=true:=by decide
 have a2:pOk 0 2=true:=by decide
 have a3:pOk 0 5=true:=by decide
 have a4:pOk (n:Int) 16=true:=aP.2 ⟨by omega,by omega,by rw[a];omega⟩;have a5:pOk ((65535-n:Nat):Int) 16=true:=aP.2 ⟨by omega,by omega,by rw[a];omega⟩;simp only[lOk,aX,ef,a1S,a2K,a1,a2,a3,a4,a5];simp
theorem uG(n:Nat):aW (ef n)=(gn n,40):=by
 simp[aW,mM,ef,ig,gn]
theorem Em(n:Nat)(h:n<=65535):oG (ef n)=leS 5 (gn n):=by
 rw[dW (r9 n h),cx,uG];simp only[Nat.reduceAdd,Nat.reduceDiv]
theorem yg(n:Nat):(aW (ef n)).2%8=0:=by rw[uG];simp only[Nat.reduceMod]
theorem vj(L:List UInt8)(h:L.length<=300):oG (ef L.length++bH L)=leS 5 (gn L.length)++L:=by
 rw[DG (ef L.length) (bH L) (r9 _ (by omega)) (na L (by omega)) (by rw[kw];simp[ef];omega) (yg _),Em _ (by omega),Ax L (by omega)]
def fq(L:List UInt8):List UInt8:=if L.length<=300 then leS 5 (gn L.length)++L else []
theorem Jt(n:Nat)(h:n<=300):n ^^^ 65535=65535-n:=by
 apply Nat.eq_of_testBit_eq;intro i;have e1:(65535:Nat)=2 ^ 16-1:=rfl;have e2:65535-n=2 ^ 16-(n+1):=by omega
 rw[e2,Nat.testBit_two_pow_sub_succ (by omega),Nat.testBit_xor,e1,Nat.testBit_two_pow_sub_one];by_cases a:i<16
 . simp[a]
 . have:n.testBit i=false:=Nat.testBit_lt_two_pow (a0k (show n<2 ^ 16 by omega) (a0Q (by omega) (by omega)));simp[a,this]
def KB(b:Nat)(w w':World):Prop:=Below b w w'/\bX b w w'
theorem KB.refl(b:Nat)(w:World):KB b w w:=⟨a0c _ _,bX.refl _ _⟩
theorem KB.trans{w1 w2:World}(h:KB b w w1)(k:KB b w1 w2):KB b w w2:=⟨h.1.trans k.1,h.2.trans k.2⟩
theorem KB.drew(h:KB b w w'):KB b w w'.drew:=⟨h.1.drew,h.2.drew⟩
theorem KB.set(h:KB b w w')(o:Nat)(u:Value):KB b w (w'.setCell ⟨b,o,none⟩ u):=⟨ah h.1 (a0a _) u,h.2.set u⟩
theorem KB.below{w'':World}(h:KB b w w')(hb:Below w'.heap.size w' w'')(c:b<=w'.heap.size):KB b w w'':=
 ⟨h.1.trans (hb.mono c),h.2.trans ⟨hb.size,fun k a _ _=>hb.block k a⟩⟩
theorem zu{W2 WA:World}{v v' v1 v2:Value}{l:List UInt8}{x:UInt8}(T2:Three W2 b v v1 v2)(Y2:Bys W2 b v l)(h:KB b w W2)
  (e:Below (b+1) W2 WA) (d:bX b W2 WA) (f:Bys WA b v l) (c:w'.ownsRow (b+1) 5 1 v' (l.length+1) (da l++[.int .u8 (x.toNat:Int)])) (a:WA.grownBy w' v.ownBlock) :
  (∃g cap,v' = .slice (some ⟨g,0,none⟩) (l.length+1) cap)/\Three w' b v v1 v2/\Bys w' b v' (l++[x])/\KB b w w':=by
 obtain⟨i,h2,j,k⟩:=tw T2 Y2 h.1 e c a;exact⟨i,h2,j,k,h.2.trans (d.grown f a)⟩
theorem IA(b V m:Nat)(num bits:Int)(w:World)(h:Out w b V m)(n0:0<=num)(n1:num<65536)(b0:0<=bits)(b1:bits<=16)(hm:m<=100000) :
  Calls prog 134 #[.pointer (some ⟨b,0,none⟩),.int .i64 num,.int .i64 bits] w fun e w'=>e = .returned (.tuple #[]) /\
   Out w' b (V+num.toNat%p2 bits.toNat*p2 m) (m+bits.toNat)/\KB b w w':=by
 obtain⟨n,rfl⟩:=a0n n0;obtain⟨c,rfl⟩:=a0n b0;rw[a0p,a0p];obtain⟨i0,hi,a8,a9,ba⟩:=a0t Tryz.infoU8;go_enter func134,ntmps134;go_wp2
 go_loopw [1,6] (fun x i wr=>∃k:Nat,k<=c/\i = .int .i64 k/\x = .int .i64 (n/p2 k:Nat)/\Out wr b (V+n%p2 k*p2 m) (m+k)/\KB b w wr) (fun _ i _=>c-(intOf i).toNat)
 case atStart=>exact⟨0,a0g _,rfl,by simp[p2],by simpa[p2,a1k]using h,KB.refl _ _⟩
 case round=>
  obtain⟨k,hk,rfl,rfl,z,a⟩:=hrel;by_cases b5:k<c
  .
   have B:=af (wI V n k m);have g:=af (ye n k);have a5:n/p2 k<=n:=a1O _ _;obtain⟨hV,v,s,G⟩:=z;obtain⟨sa,scap,rfl⟩:=G.form;have a4:=rp (V+n%p2 k*p2 m) (m+k) hV;generalize V+n%p2 k*p2 m=V1 at *
   generalize W:m+k=m1 at *
   have hx:n/p2 k%2<=1:=by omega
   have ad:((n/p2 k:Nat):Int)%2=((n/p2 k%2:Nat):Int):=by omega
   have bc:((n/p2 k:Nat):Int)<65536:=by omega
   have a6:p2 (m1%8)<=128:=oE (m1%8) 7 (by omega);have O:n/p2 k%2*p2 (m1%8)<=1*p2 (m1%8):=a2n _ hx;have y:((n/p2 k%2:Nat):Int)*((p2 (m1%8):Nat):Int)=((n/p2 k%2*p2 (m1%8):Nat):Int):=by simp
   have q:=zi V1 m1 (n/p2 k%2) hV hx;have d:=zh V1 m1 (n/p2 k%2) hV hx;have ab:m1%8<8:=a0W _ (by omega);have l:m1<=100016:=by omega
   have Q:(leS (m1/8) V1).length=m1/8:=aL _ _;generalize n/p2 k=nk at *
   generalize a7:nk%2=x at *
   generalize a0:V1/p2 (8*(m1/8))=L at *
   generalize ac:m1%8=r at *
   generalize N:p2 r=P at *
   generalize a1:x*P=X at *
   have an:=af N;have K:=af W;have ao:=af ac;have E:=af q;have C:=af d;clear W a0 ac N a1 hV q d a7 hx a5;obtain⟨k0,H,I,f0,f1,f2,F⟩:=s;have s:Hid (Three wr b _ _ _):=⟨k0,H,I,f0,f1,f2,F⟩;have b6:(r:Int)<8:=by omega
   have bl:(L:Int)<128:=by omega
   have bs:(X:Int)<=128:=by omega
   have S:(k:Int)<(c:Int):=by omega
   have bk:=af ab;have D:=af l;have Hk:=af hk;have al:Hid (IntKind.i64.wrap ((L:Int)+IntKind.i64.wrap ((nk:Int).tmod 2*(P:Int)))=(L:Int)+(X:Int)):=by
    show IntKind.i64.wrap ((L:Int)+IntKind.i64.wrap ((nk:Int).tmod 2*(P:Int)))=(L:Int)+(X:Int);rw[a1Z (by omega),ad,y,bF (X:Int) (by omega) (by omega),bF ((L:Int)+(X:Int)) (by omega) (by omega)]
   clear ab l a6 O a4 hk hm;go_wp2_with fail;go_cut[]from 7 to 62 (fun wc=>wc=(wr.setCell ⟨b,1,none⟩ (.int .i64 ((L:Int)+(X:Int)))).drew)
   case first=>
    go_region_with (go_at_call 171;refine(eU _ _ (by omega)).mono ?_;rintro e w' ⟨rfl,rfl⟩;rw[a0p,ae an])
    all_goals
     go_wp2_with fail
     go_meet
     exact by rw[ae al]
   case rest=>
    have T1:=((ae s).set1 (.int .i64 ((L:Int)+(X:Int)))).drew;have Y1:=(G.set (o:=1) (.int .i64 ((L:Int)+(X:Int)))).drew;have B1:KB b w _:=(a.set 1 (.int .i64 ((L:Int)+(X:Int)))).drew;rw[←hcut]at T1 Y1 B1;clear hcut G a s k0 H I f0 f1 f2 F y ad;have T1':=af T1;obtain⟨k0,H,I,f0,f1,f2,F⟩:=T1;by_cases aa:(r:Int)=7
    .
     have A:r=7:=by omega
     obtain⟨o1,o2,o3,o4⟩:=ae C A;have O1:=af o1;have O2:=af o2;have O3:=af o3;have O4:=af o4;have M:L+X<256:=by omega
     have a3:=af (nU (L+X) M);have b4:IntKind.u8.wrap ((L:Int)+(X:Int))=(L:Int)+(X:Int):=by
      rw[IntKind.wrap_u8'];omega
     subst A;clear o1 o2 o3 o4 aa M;have T2:=(ae T1').set2 (.int .i64 8);have Y2:=Y1.set (o:=2) (.int .i64 8);have B2:KB b w _:=B1.set 2 (.int .i64 8);have U:=af Q;clear Q;go_wp2_with fail;generalize wc.setCell ⟨b,2,none⟩ (.int .i64 8)=W2 at *
     clear k0 H I f0 f1 f2 T1' Y1 B1;have T2':=af T2;obtain⟨k0,H,I,f0,f1,f2,a2⟩:=T2;have R:Hid (((UInt8.ofNat (L+X)).toNat:Int)=(L:Int)+(X:Int)):=by
      show((UInt8.ofNat (L+X)).toNat:Int)=(L:Int)+(X:Int);rw[ae a3];omega
     have T:(leS (m1/8) V1).length<=20000:=by have:=ae U;have:=ae D;omega
     have J:=af T;clear T;go_cut[]from 7 to 62 (fun wc2=>∃v',Three wc2 b v' (.int .i64 ((L:Int)+(X:Int))) (.int .i64 8)/\Bys wc2 b v' (leS (m1/8) V1++[UInt8.ofNat (L+X)])/\KB b w wc2)
     case first=>
      go_region_law (refine aQ rfl (.tmp 47) (.tmp 53) 22 rfl (b+1) 5 i0 (.int .u8 0) 1 1 a0O hi a8 a9 ba rfl (by decide) _ _ _ (by simp[Act.eval]) (Y2.alloc _) ⟨W2.heap.size,0,none⟩ 1 1 [.int .u8 ((L:Int)+(X:Int))] (by simp[Act.eval]) rfl (by intro j u hj;match j,hj with | 0,hj=>simp at hj;subst hj;simp[Addr.add]) (by intro u hu;simp at hu;subst hu;rfl) (by have:=ae J;unfold maxLen;omega) (by have:=ae J;omega) (by simp;omega) ?_;intro v' w' p f Z;clear Z;rw[←ae R]at p;obtain⟨⟨g',bb,rfl⟩,T3,Y3,B3⟩:=zu (ae T2') Y2 B2 (by first|exact(a0c _ _).alloc (by omega) _|exact((a0c _ _).alloc (by omega) _).drew) (by first|exact(bX.refl _ _).alloc _|exact((bX.refl _ _).alloc _).drew) (by first|exact Y2.alloc _|exact(Y2.alloc _).drew) p f;clear p f;have T3':=af T3;obtain⟨q0,q1,q2,e0,e1,e2,b2⟩:=T3)
      all_goals
       go_wp2_with fail
       go_meet
       exact⟨_,(ae T3').set0 _,Y3.set _,B3.set _ _⟩
     case rest=>
      obtain⟨v',T4,Y4,B4⟩:=hcut;clear k0 H I f0 f1 f2 T2' Y2 B2 a2;obtain⟨va,vc,rfl⟩:=Y4.form;have T4':=af T4;obtain⟨k0,H,I,f0,f1,f2,b3⟩:=T4;go_wp2;go_roundw
      case rel=>
       refine⟨k+1,by have:=ae Hk;omega,by go_num,by rw[←ae g];go_num,?_,(B4.set _ _).set _ _⟩;rw[ae B,show m+(k+1)=m1+1 by have:=ae K;omega];refine⟨ae O1,.slice va (leS (m1/8) V1++[UInt8.ofNat (L+X)]).length vc,?_,?_⟩
       . rw[ae O2,ae O3];exact((ae T4').set1 _).set2 _
       . rw[ae O4];exact(Y4.set _).set _
      case measure=>simp[intOf];omega
    .
     have bd:((r:Int)+1 == 8)=false:=by simp;omega
     have t:r<7:=by omega
     obtain⟨o1,o2,o3⟩:=ae E t;have O1:=af o1;have O2:=af o2;have O3:=af o3;have Y:Hid ((m1+1)%8=r+1):=by show(m1+1)%8=r+1;have:=ae ao;omega
     clear o1 o2 o3 t aa;go_wp2;go_roundw
     case rel=>
      refine⟨k+1,by have:=ae Hk;omega,by go_num,by rw[←ae g];go_num,?_,B1.set _ _⟩;rw[ae B,show m+(k+1)=m1+1 by have:=ae K;omega];refine⟨ae O1,.slice sa (leS (m1/8) V1).length scap,?_,?_⟩
      . rw[ae O2,ae Y];exact(ae T1').set2 _
      . rw[ae O3];exact Y1.set _
     case measure=>simp[intOf];omega
  .
   have S:k=c:=by omega
   subst S;go_wp2
   go_end0
   exact⟨rfl,z,a⟩
theorem kY(b V m:Nat)(w:World)(h:Out w b V m)(d:m<=90000) :
  Calls prog 135 #[.pointer (some ⟨b,0,none⟩)] w fun e w'=>e = .returned (.tuple #[])/\Out w' b V (8*((m+7)/8))/\Below b w w':=by
 have j:=af h;obtain⟨k,v,u,n⟩:=h;obtain⟨k0,o,x,f0,f1,f2,q⟩:=u;by_cases l:m%8=0
 .
  have g:((m%8:Nat):Int)=0:=by omega
  have s:Hid (8*((m+7)/8)=m):=by show _=_;omega
  clear l k n k0 o d;go_enter func135,ntmps135;go_wp2
  go_end0
  exact⟨rfl,by rw[ae s];exact ae j,a0c _ _⟩
 .
  have g:(0:Int)<((m%8:Nat):Int):=by omega
  have t:((m%8:Nat):Int)<8:=by omega
  have a:Hid (m+(8-m%8)=8*((m+7)/8)):=by show _=_;omega
  have i:Hid ((8-((m%8:Nat):Int)).toNat=8-m%8):=by show(8-((m%8:Nat):Int)).toNat=8-m%8;omega
  have f:=af d;clear l k n k0 o d;generalize ((m%8:Nat):Int)=r at *
  go_enter func135,ntmps135;go_wp2_with fail;refine(oH b V m 0 (8-r) _ (ae j) (by omega) (by omega) (by omega) (by omega) (by have:=ae f;omega)).mono ?_;rintro e w1 ⟨rfl,c,hb⟩;rw[ae i]at c;simp only[Int.toNat_zero,Nat.zero_mod,Nat.zero_mul,a1q]at c;rw[ae a]at c;have p:=af c;clear c;go_wp2
  go_end0
  exact⟨rfl,ae p,hb⟩
theorem kg(s:ByteArray):s.data.toList.length=s.size:=by simp
theorem JE(l:List UInt8)(s:ByteArray):(⟨l.toArray⟩:ByteArray)++s=⟨(l++s.data.toList).toArray⟩:=by
 apply ByteArray.ext;rw[ByteArray.data_append];apply Array.ext';simp
theorem yC(s:ByteArray)(w:World)(A:s.size<=300) :
  CD 104 #[.string s] w (.string ⟨(leS 5 (gn s.size)++s.data.toList).toArray⟩):=by
 have E:(s.size:Int)<=300:=by omega
 have B:=af (wF w 195);have m:Hid (Below w.heap.size w (w.alloc (.cells #[.slice none 0 0,.int .i64 0,.int .i64 0] 195))):=(a0c _ _).alloc (a0a _) _;have q:=af A;clear A;go_enter func104,ntmps104;go_wp2_with fail;refine(oH _ 0 0 1 1 _ (ae B) (by omega) (by omega) (by omega) (by omega) (by omega)).mono ?_;rintro e x1 ⟨rfl,r,d⟩;go_wp2_with fail;refine(oH _ _ _ 0 2 _ r (by omega) (by omega) (by omega) (by omega) (by omega)).mono ?_;rintro e x2 ⟨rfl,h2,f⟩;have a:Out x2 w.heap.size 1 3:=h2;clear r h2;go_wp2_with fail;refine(kY _ _ _ _ a (by omega)).mono ?_;rintro e x3 ⟨rfl,t,g⟩;have b:Out x3 w.heap.size 1 8:=t;have n:=af (((ae m).trans d).trans (f.trans g));clear a t d f g;go_wp2_with fail;refine(oH _ _ _ (s.size:Int) 16 _ b (by omega) (by omega) (by omega) (by omega) (by omega)).mono ?_;rintro e x4 ⟨rfl,u,h⟩;clear b;go_wp2_with fail;refine(oH _ _ _ (65535-(s.size:Int)) 16 _ u (by omega) (by omega) (by omega) (by omega) (by omega)).mono ?_;rintro e x5 ⟨rfl,x,i⟩;have z:1+((s.size:Int).toNat%p2 (16:Int).toNat*p2 8)+((65535-(s.size:Int)).toNat%p2 (16:Int).toNat*p2 (8+(16:Int).toNat))=gn s.size:=by
  have e16:p2 (16:Int).toNat=65536:=by decide
  have e8:p2 8=256:=by decide
  have e24:p2 (8+(16:Int).toNat)=16777216:=by decide
  rw[e16,e8,e24];unfold gn;have:=ae q;rw[a0p,show(65535-(s.size:Int)).toNat=65535-s.size by omega,a1c (by omega),a1c (by omega)]
 have l:Out x5 w.heap.size (gn s.size) 40:=by rw[←z];exact x
 obtain⟨_,v,T,Y⟩:=l;have j:=kx Y;have o:=af ((ae n).trans (h.trans i));obtain⟨k0,F,G,f0,f1,f2,D⟩:=T;have k:leS (40/8) (gn s.size)=leS 5 (gn s.size):=rfl;rw[k]at j;have p:=af (JE (leS 5 (gn s.size)) s);clear u x z h i Y F G k;have c:=aL 5 (gn s.size);generalize y:leS 5 (gn s.size)=P at j p c;have HP:=af y;have C:¬ 9223372036854775807<P.length+s.size:=by have:=ae q;omega
 clear y c;go_wp2;go_ret;exact⟨by rw[ae HP,←ae p];rfl,ae o⟩
theorem jG(k:Int)(w:World) :
  Calls prog 89 #[.int .i64 k] w fun e w'=>e = .returned (.slice (some ⟨w.heap.size,0,none⟩) 2 2)/\w'=w.alloc (.cells #[.int .i64 1,.int .i64 1,.int .i64 k,.int .i64 2] 82):=by
 go_enter func89,ntmps89;go_wp2;go_ret;exact⟨rfl,rfl⟩
theorem KG(w:World)(a b c d e f:Value)(t:TypeId)(g:Nat)(i:w.heap.size=g):∀(j:Nat) (u:Value),[a,b,c,d,e,f][j]?=some u->(w.alloc (.cells #[a,b,c,d,e,f] t)).cell? ((⟨g,0,none⟩:Addr).add j)=some u:=by
 subst i;intro j u h
 match j,h with
 | 0,h=>simp at h;subst h;simp[Addr.add]
 | 1,h=>simp at h;subst h;simp[Addr.add]
 | 2,h=>simp at h;subst h;simp[Addr.add]
 | 3,h=>simp at h;subst h;simp[Addr.add]
 | 4,h=>simp at h;subst h;simp[Addr.add]
 | 5,h=>simp at h;subst h;simp[Addr.add]
theorem KF(a b c d e f:Int):∀u∈[Value.int .i64 a,.int .i64 b,.int .i64 c,.int .i64 d,.int .i64 e,.int .i64 f],u.oneCell'=true:=by
 intro u g;simp at g;rcases g with rfl|rfl|rfl|rfl|rfl|rfl<;>rfl
theorem I6(s:ByteArray)(i:Nat)(h:i<s.size):s.data.toList.take (i+1)=s.data.toList.take i++[s[i]]:=by
 have a:=kg s;rw[List.take_add_one,List.getElem?_eq_getElem (by omega)];simp;rfl
theorem xu(m:List UInt8)(b:UInt8):bH m++[((b.toNat:Int),(8:Int))]=bH (m++[b]):=by simp[bH]
theorem D4(s:ByteArray)(w:World):∃(c:Nat) (x:World) (cs:Array Value) (f:Nat×Nat),(convert 9 22 (.string s)).run prog w = .ok (.slice (some ⟨w.heap.size,0,none⟩) s.size c) x/\Below w.heap.size w x/\x.heap[w.heap.size]?=some (.cells cs 5 f)/\∀i (h:i<s.size),cs[i]?=some (.int .u8 (s[i].toNat:Int)):=by
 refine⟨_,_,bytesRow s (grownCap w s.size 0 5),((bytesRow s (grownCap w s.size 0 5)).size,(bytesRow s (grownCap w s.size 0 5)).size+1),run_bytes_of_string w _ _ _ s a14 a0O a13,?_,?_,?_⟩
 . exact((a0c _ w).drew).alloc (by simp) _
 . exact Array.getElem?_push_size
 . intro i h;exact bytesRow_at s (grownCap w s.size 0 5) i h
theorem IJ{i:Nat}{a:Array Value}{t:TypeId}{f:Nat×Nat}{v:Value}(h:w.heap[b]?=some (.cells a t f))(c:a[i]?=some v):w.cell? ⟨b,i,none⟩=some v:=by
 unfold World.cell?;rw[h];exact c
theorem uf(s:ByteArray)(w:World)(U:s.size<=300) :
  CD 65 #[.string s] w (.string ⟨(leS 5 (gn s.size)++s.data.toList).toArray⟩):=by
 obtain⟨i0,C,H,I,J⟩:=a0t Tryz.infoPiece;have ab:(s.size:Int)<=300:=by omega
 have hI:¬ (300:Int)<(s.size:Int):=by omega
 obtain⟨N,hN⟩:∃N:Nat,65535-s.size=N:=⟨_,rfl⟩;have hx:bits .xor .i64 (s.size:Int) 65535=(N:Int):=by
  have:=lG s.size 65535 (by omega) (by omega);rw[Jt s.size U,hN]at this;exact this
 have HH:Hid (ef s.size=[(1,1),(0,2)]++[(0,5),((s.size:Int),16),((N:Int),16)]):=by show _=_;unfold ef;rw[hN];rfl
 have P:Hid ((w.alloc (.cells #[.int .i64 1,.int .i64 1,.int .i64 0,.int .i64 2] 82)).ownsRow w.heap.size 82 2 (.slice (some ⟨w.heap.size,0,none⟩) 2 2) 2 [.int .i64 1,.int .i64 1,.int .i64 0,.int .i64 2]):=a04 w #[.int .i64 1,.int .i64 1,.int .i64 0,.int .i64 2] 2 (a0a _) (by unfold maxLen;omega) rfl;have K:Hid (Below w.heap.size w (w.alloc (.cells #[.int .i64 1,.int .i64 1,.int .i64 0,.int .i64 2] 82))):=(a0c _ _).alloc (a0a _) _;have E:=af (vj s.data.toList (by rw[kg];exact U));have O:=af (kg s);have bd:Hid (2+3<=maxLen/\(2+3)*16<=140737488355328):=by show _/\_;unfold maxLen;omega
 clear U hN;go_enter func65,ntmps65;go_wp2_with fail;refine(jG 0 w).mono ?_;rintro e x1 ⟨rfl,r⟩;have x:=af (show x1.ownsRow w.heap.size 82 2 (.slice (some ⟨w.heap.size,0,none⟩) 2 2) 2 [.int .i64 1,.int .i64 1,.int .i64 0,.int .i64 2] by rw[r];exact ae P);have u:=af (show Below w.heap.size w x1 by rw[r];exact ae K);have n:=(ae u).size;clear r;go_wp2_with (at_builtin;refine a0x _ rfl _ _ 79 rfl w.heap.size 82 i0 (.agg #[.int .i64 0,.int .i64 0]) 2 16 a1s C H I J rfl (by decide) (.slice (some ⟨w.heap.size,0,none⟩) 2 2) _ _ rfl (a0r (ae x) _) ⟨x1.heap.size,0,none⟩ 3 3 [.int .i64 0,.int .i64 5,.int .i64 (s.size:Nat),.int .i64 16,.int .i64 (N:Nat),.int .i64 16] rfl rfl (KG _ _ _ _ _ _ _ _ _ rfl) (KF _ _ _ _ _ _) (ae bd).1 (ae bd).2 (ax n _) ?_;intro v' x2 c a f;clear f;obtain⟨c3,x3,cs,fz,R,o,B,A⟩:=D4 s x2);have j:Below w.heap.size w x2:=aG (v:=.slice (some ⟨w.heap.size,0,none⟩) 2 2) a (ae x) (a0a _) n (ae u);have g:Pcs x2 w.heap.size v' (ef s.size):=by rw[ae HH];exact c
 have F:=af (g.later o (a0a _));have L:=af (ap j o);have M:Hid (∀W,bj 5 x3 W->∀i (C:i<s.size),W.cell? ⟨x2.heap.size,i,none⟩=some (.int .u8 (s[i].toNat:Int))):=fun W h i C=>IJ (h _ _ _ B) (A i C);generalize x2.heap.size=G at *
 obtain⟨va,vc,rfl⟩:=(ae F).form;have S:Hid ((ef s.size).length=5):=rfl;clear c a j g R o A B
 go_loopw [4,6,23] (fun v _ i wr=>∃k:Nat,k<=s.size/\i = .int .i64 k/\Pcs wr w.heap.size v (ef s.size++bH (s.data.toList.take k))/\bj 5 x3 wr/\Below w.heap.size w wr) (fun _ _ i _=>s.size-(intOf i).toNat)
 case atStart=>exact⟨0,a0g _,rfl,by simpa[bH]using ae F,bj.refl _ _,ae L⟩
 case round=>
  obtain⟨k,hk,rfl,hq,l,d⟩:=hrel;have b:Hid ((ef s.size++bH (s.data.toList.take k)).length=5+k):=by
   show _=_;rw[a0m,ae S,kw,a0H,ae O];omega
  obtain⟨Y,Z,rfl⟩:=hq.formN (ae b);by_cases p:k<s.size
  .
   have aa:(k:Int)<(s.size:Int):=by omega
   have Q:=ae M wr l k p;have X:(s[k].toNat:Int)<256:=by have:=a2h s[k];omega
   have V:Hid (ef s.size++bH (s.data.toList.take k)++[((s[k].toNat:Int),(8:Int))]=ef s.size++bH (s.data.toList.take (k+1))):=by show _=_;rw[a0M,xu,I6 s k p]
   have t:Hid (5+k+1<=maxLen/\(5+k+1)*16<=140737488355328):=by show _/\_;unfold maxLen;omega
   have q:=af (hq.own (ae b));have z:=d.size;have m:=af (a0b d l);clear hq d l;go_wp2_with (at_builtin;refine a0x _ rfl _ _ 79 rfl w.heap.size 82 i0 (.agg #[.int .i64 0,.int .i64 0]) 2 16 a1s C H I J rfl (by decide) (.slice Y (5+k) Z) _ _ rfl (a0r (ae q) _) ⟨wr.heap.size,0,none⟩ 1 1 [.int .i64 (s[k].toNat:Int),.int .i64 8] rfl rfl (rC _ _ _ _) (rB _ _) (ae t).1 (ae t).2 (ax z _) ?_;intro v' y2 c a f;clear f);have j:=aG (v:=.slice Y (5+k) Z) a (ae q) (a0a _) z (ae m).1;have g:=Fi (ae b) c;rw[ae V]at g;have D:=((ae m).2.alloc (.cells #[.int .i64 (s[k].toNat:Int),.int .i64 8] 82)).grown (a0r (ae q) _) (by decide) a;clear c a;go_wp2;go_roundw
   case rel=>exact⟨k+1,by omega,by go_num,g,D,j⟩
   case measure=>simp[intOf];omega
  .
   obtain rfl:k=s.size:=by omega
   have y:Hid (s.data.toList.take s.size=s.data.toList):=a0F (by rw[ae O];exact a0a _);rw[ae y]at hq b;have T:Hid (oG (ef s.size++bH s.data.toList)=leS 5 (gn s.size)++s.data.toList):=by have:=ae E;rw[ae O]at this;exact this
   have HP:=af (fG Y Z (ef s.size++bH s.data.toList) wr (hq.rowN (ae b)) (by rw[ae b];omega));rw[ae b,ae T]at HP;clear hq hk p l;go_wp2_with fail;refine(ae HP).mono ?_;rintro e y1 ⟨rfl,hy⟩;go_wp2;go_ret;exact⟨rfl,ap d hy⟩
theorem pE(s:ByteArray)(w:World)(b:s.size<=1048576) :
  CD 65 #[.string s] w (.string ⟨(fq s.data.toList).toArray⟩):=by
 by_cases a:s.size<=300
 .
  have e:fq s.data.toList=leS 5 (gn s.size)++s.data.toList:=by unfold fq;rw[kg,a0d a]
  rw[e];exact uf s w a
 .
  have c:(300:Int)<(s.size:Int):=by omega
  have e:fq s.data.toList=[]:=by unfold fq;rw[kg,a0e a]
  rw[e];clear b a e;go_enter func65,ntmps65;go_wp2;go_ret;exact⟨rfl,a0c _ _⟩
def eJ(w:World)(b:Nat)(s:ByteArray)(p:Nat):Prop:=Three w b (.string s) (.int .i64 (min p (8*s.size):Nat)) (.bool true)
theorem eJ.before(h:eJ w b s p)(a:p<8*s.size):Three w b (.string s) (.int .i64 (p:Int)) (.bool true):=by
 unfold eJ at h;rwa[a1r (by omega)]at h
theorem eJ.next(h:Three w b (.string s) (.int .i64 ((p:Int)+1)) (.bool true))(a:p<8*s.size):eJ w b s (p+1):=by
 unfold eJ;rwa[a1r (by omega)]
theorem eJ.past(h:eJ w b s p)(a:8*s.size<=p):Three w b (.string s) (.int .i64 (8*s.size:Nat)) (.bool true):=by
 unfold eJ at h;rwa[a2X (by omega)]at h
theorem eJ.bad(h:Three w b (.string s) (.int .i64 (8*s.size:Nat)) (.bool true))(a:8*s.size<=p):eJ w b s (p+1):=by
 unfold eJ;rwa[a2X (by omega)]
theorem eJ.at(h:eJ w b s p)(a:p<=8*s.size):Three w b (.string s) (.int .i64 (p:Int)) (.bool true):=by
 unfold eJ at h;rwa[a1r (by omega)]at h
theorem eJ.kept(h:eJ w b s p)(hb:Below (b+1) w w'):eJ w' b s p:=Three.kept h hb
theorem eJ.lt(h:eJ w b s p):b<w.heap.size:=h.2.2.2.2.2.2
theorem eJ.cut(h:eJ w b s p):∃q,q<=8*s.size/\eJ w b s q:=⟨min p (8*s.size),a26 _ _,by unfold eJ at h ⊢;rw[a1r (a26 p (8*s.size))];exact h⟩
attribute [local go_sem ↓] Go.wp_at_zero Go.wp_at_succ
theorem rI(b p:Nat)(s:ByteArray)(w:World)(h:eJ w b s p)(r:s.size<=2000000) :
  Calls prog 150 #[.pointer (some ⟨b,0,none⟩)] w fun e w'=>e = .returned (.int .i64 (aj s/2 ^ p%2:Nat))/\eJ w' b s (p+1)/\aw b w w':=by
 have u:(s.size:Int)<=2000000:=by omega
 by_cases g:p<8*s.size
 .
  have d:=h.before g;have hq:p/8<s.size:=by omega
  have hb:=tk s p hq;generalize m:aj s/2 ^ p%2=N at *
  have l:=af g;have t:(p:Int)<8*(s.size:Int):=by omega
  have j:p2 (p%8)<=128:=oE (p%8) 7 (by omega);have i:=lP (p%8);have a:=af d;obtain⟨c0,c1,c2,f0,f1,f2,n⟩:=d;have c:(s[p/8]).toNat/p2 (p%8)%2=N:=hb;clear h m hb;obtain⟨Q,hQ⟩:∃Q,p/8=Q:=⟨_,rfl⟩;obtain⟨R,hR⟩:∃R,p%8=R:=⟨_,rfl⟩;simp only[hQ,hR]at c j i hq;have o:=(s[Q]).toNat_lt;generalize f:p2 R=PW at *
  have k:=af (fun W=>Kz R PW W (by omega) f);have e1:IntKind.i64.wrap (Q:Int)=(Q:Int):=bF _ (by omega) (by omega);have e2:(p:Int)/8=(Q:Int):=by omega
  have e3:(p:Int)%8=(R:Int):=by omega
  have e4:Int.tmod (p:Int) 8=(R:Int):=by rw[a1Z (by omega)];exact e3
  have e5:(Q:Int)<(s.size:Int):=by omega
  have e6:(0:Int)<=(Q:Int):=by omega
  have q:(s[Q]).toNat/PW<=(s[Q]).toNat:=a1O _ _;have e7:((s[Q]).toNat:Int)/(PW:Int)=(((s[Q]).toNat/PW:Nat):Int):=by simp
  have e0:(0:Int)<=((s[Q]).toNat:Int)/(PW:Int)/\((s[Q]).toNat:Int)/(PW:Int)<=255:=by rw[e7];exact⟨a3r _,by omega⟩
  have e8:IntKind.i64.wrap (((s[Q]).toNat:Int)/(PW:Int))=((s[Q]).toNat:Int)/(PW:Int):=bF _ (by omega) (by omega);have e10:((s[Q]).toNat:Int)/(PW:Int)%2=(N:Int):=by rw[e7];exact_mod_cast c
  have e9:Int.tmod (((s[Q]).toNat:Int)/(PW:Int)) 2=(N:Int):=by rw[a1Z e0.1];exact e10
  have e14:IntKind.i64.wrap ((s[Q]).toNat:Int)=((s[Q]).toNat:Int):=bF _ (by omega) (by omega);have e12:¬ PW=0:=by omega
  clear r g hQ hR f c q o j i e7 e0;go_enter a3s,a3t;go_wp2
  go_quiet (fail)
  go_wp2
  go_region_held3 (fun W=>W.cell? ⟨b,0,none⟩=some (.string s)/\W.cell? ⟨b,1,none⟩=some (.int .i64 (p:Int))) (first|exact⟨c0,c1⟩|assumption) (first|(go_at_call 171;refine(ae k _).mono ?_;rintro e w' ⟨rfl,rfl⟩))
  all_goals
   go_wp2;go_ret;exact⟨rfl,eJ.next (by exact(ae a).set1 _) (ae l),iM _ _ _ _ _⟩
 .
  have d:=h.past (by omega);have a:=af d;have l:=af g;have m:=af (mB s p (by omega));obtain⟨c0,c1,c2,f0,f1,f2,n⟩:=d;rw[a1v]at c1;clear h g r;go_enter a3s,a3t;go_wp2
  go_quiet (fail)
  go_wp2;go_ret;exact⟨aE (by rw[ae m];rfl),eJ.bad ((ae a).set2 _) (by have:=ae l;omega),iM _ _ _ _ _⟩
theorem Ao(b p c:Nat)(s:ByteArray)(w:World)(h:eJ w b s p)(A:s.size<=2000000)(u:c<=16) :
  Calls prog 151 #[.pointer (some ⟨b,0,none⟩),.int .i64 (c:Int)] w fun e w'=>e = .returned (.int .i64 (aj s/2 ^ p%2 ^ c:Nat))/\eJ w' b s (p+c)/\aw b w w':=by
 have D:=af A;have F:(c:Int)<=16:=by omega
 have B:=af u;clear A u;go_enter func151,ntmps151;go_wp2_with fail
 go_loopw [5,6] (fun n i wr=>∃k:Nat,k<=c/\i = .int .i64 k/\n = .int .i64 (aj s/2 ^ p%2 ^ k:Nat)/\eJ wr b s (p+k)/\aw b w wr) (fun _ i _=>c-(intOf i).toNat)
 case atStart=>exact⟨0,a0g _,rfl,by simp[a1k],h,aw.refl _ _⟩
 case round=>
  obtain⟨k,v,rfl,rfl,q,d⟩:=hrel;clear h;have C:=af v;by_cases H:k<c
  .
   have G:(k:Int)<(c:Int):=by omega
   have a:k<=16:=by have:=ae B;omega
   have t:Hid (aj s/2 ^ p%2 ^ (k+1)=aj s/2 ^ p%2 ^ k+aj s/2 ^ (p+k)%2*p2 k):=oA (aj s) p k;have m:=Ia (aj s) p k a;have I:aj s/2 ^ (p+k)%2<=1:=by omega
   have o:=rx k a;have f:=af (rI b (p+k) s wr q (ae D));have j:=af (fun W=>Kz k (p2 k) W (by omega) rfl);generalize aj s/2 ^ p%2 ^ k=n at *
   generalize aj s/2 ^ (p+k)%2=x at *
   generalize p2 k=PW at *
   have g:x*PW<=65536:=by rcases (show x=0∨x=1 by omega)with e|e<;>subst e<;>omega
   have e1:IntKind.i64.wrap ((x:Int)*(PW:Int))=((x*PW:Nat):Int):=by rw[←a1v];exact bF _ (by omega) (by omega)
   have e1':((x:Int)*(PW:Int))=((x*PW:Nat):Int):=by rw[←a1v]
   have z:(n:Int)<65536:=by omega
   have y:((x*PW:Nat):Int)<=65536:=by omega
   generalize E:x*PW=M at *
   clear E a I o m g v q;go_wp2_with fail;refine(ae f).mono ?_;rintro e x1 ⟨rfl,r,l⟩;go_wp2_with fail;refine(ae j _).mono ?_;rintro e x2 ⟨rfl,rfl⟩;go_wp2;go_roundw
   case rel=>exact⟨k+1,by omega,by go_num,by rw[ae t];go_num,r,d.trans l⟩
   case measure=>simp[intOf];omega
  .
   obtain rfl:k=c:=by have:=ae C;omega
   go_wp2;go_ret;exact⟨rfl,q,d⟩
theorem vF(b p:Nat)(s:ByteArray)(w:World)(h:eJ w b s p)(J:s.size<=2000000)(T:p<=8*s.size) :
  Calls prog 113 #[.pointer (some ⟨b,0,none⟩)] w fun e w'=>e = .returned (.bool (decide (aj s/2 ^ p%2 ^ ((8-p%8)%8)=0)))/\eJ w' b s (p+(8-p%8)%8)/\aw b w w':=by
 have N:=af J;have E:(8-p%8)%8<=7:=by omega
 have F:(p+(8-p%8)%8)%8=0:=by omega
 have y:p+(8-p%8)%8<=8*s.size:=by omega
 have f:∀j,j<(8-p%8)%8->(p+j)%8≠0:=by omega
 have V:(s.size:Int)<=2000000:=by omega
 generalize (8-p%8)%8=c at *
 have B:=af y;clear J T y;go_enter func113,ntmps113;go_wp2_with fail
 go_loopw [3] (fun n wr=>∃k m:Nat,k<=c/\n = .int .i64 (m:Nat)/\m<=k/\(m=0<->aj s/2 ^ p%2 ^ k=0)/\eJ wr b s (p+k)/\aw b w wr) (fun _ wr=>c+p-(match wr.cell? ⟨b,1,none⟩with|some (.int _ i)=>i.toNat|_=>0))
 case atStart=>exact⟨0,0,a0g _,rfl,a0a _,by simp[a1k],h,aw.refl _ _⟩
 case round=>
  obtain⟨k,m,I,rfl,v,u,z,d⟩:=hrel;clear h;have P:=z.at (by have:=ae B;omega);obtain⟨c0,c1,c2,f0,f1,f2,Q⟩:=P;have M:=af I;have r:=af u;have U:((p+k:Nat):Int)<=16000000:=by have:=ae B;omega
  clear u;by_cases g:k<c
  .
   have S:¬ ((p+k:Nat):Int)%8=0:=by have:=f k g;omega
   have G:=af (rest_step (aj s) p k);have K:aj s/2 ^ (p+k)%2<=1:=by omega
   have t:=af (rI b (p+k) s wr z (ae N));generalize aj s/2 ^ (p+k)%2=x at *
   have W:(x:Int)<=1:=by omega
   have R:(m:Int)<=7:=by omega
   have L:=af K;have A:=af v;have q:=af g;have C:=af (show p+k<8*s.size by have:=ae B;omega);clear f K I v g z F E;generalize a:p+k=pk at *
   have o:=af a;clear a;go_wp2_with fail;refine(ae t).mono ?_;rintro e x1 ⟨rfl,l,D⟩;go_wp2;go_roundw
   case rel=>exact⟨k+1,m+x,ae q,by go_num,by have:=ae A;have:=ae L;omega,by rw[ae G,←ae r];omega,by rw[←ae o]at l;exact l,d.trans D⟩
   case measure=>
    have O:=(l.at (by have:=ae C;omega)).2.1;rw[O,c1];have:=ae o;have:=ae q;simp;omega
  .
   obtain rfl:k=c:=by have:=ae M;omega
   have X:((p+k:Nat):Int)%8=0:=by omega
   generalize a:p+k=pk at *
   go_wp2;go_ret;refine⟨am ?_,by rw[a];exact z,d⟩;rw[show decide (aj s/2 ^ p%2 ^ k=0)=decide (m=0)from decide_eq_decide.2 (ae r).symm];rcases a2j m with H|H
   . subst H;rfl
   . rw[a0j (by omega)];first|(exact a0j (by omega))|(exact beq_false_of_ne (by omega))|(exact(by omega:False).elim)
end Go.Proofs.YtggknepmhjfohaaGreatDoor
namespace Go.Proofs.YtggknepmhjfohaaGreatDoor
open Go.Proofs.Tryz
open Corb
variable {l:List Int}{s:List UInt8}
def bitsOf(l:List (Int×Int)):List Int:=l.map (·.2)
def numsOf(l:List (Int×Int)):List Int:=l.map (·.1)
theorem zv(V p q:Nat)(l:List Int):dJ V (p+q) l=dJ (V/2 ^ p) q l:=by
 induction l generalizing q with
 | nil=>rfl
 | cons b l ih=>
  simp only[dJ];rw[a1K,←a0S,←ih,a1T]
theorem Fj(l:List (Int×Int))(W:Nat)(h:aX l=true):dJ ((aW l).1+W*2 ^ (aW l).2) 0 (bitsOf l)=numsOf l:=by
 induction l generalizing W with
 | nil=>rfl
 | cons p l ih=>
  have a:pOk p.1 p.2=true/\aX l=true:=by simpa[aX]using h
  obtain⟨⟨d,e⟩,n0,n1⟩:=aP.1 a.1;have e1:aW [p]=(p.1.toNat,p.2.toNat):=by simp[aW,mM,ig]
  have e2:aW (p :: l)=(p.1.toNat+(aW l).1*2 ^ p.2.toNat,p.2.toNat+(aW l).2):=by
   rw[show p :: l=[p]++l from rfl,l9,e1]
  have b:p.1.toNat<2 ^ p.2.toNat:=by
   have:((p2 p.2.toNat:Nat):Int)=((2 ^ p.2.toNat:Nat):Int):=rfl;omega
  have c:(aW (p :: l)).1+W*2 ^ (aW (p :: l)).2=p.1.toNat+((aW l).1+W*2 ^ (aW l).2)*2 ^ p.2.toNat:=by
   rw[e2];simp only;rw[a0S,a1W,a1T]
   congr 2
   rw[a1d (2 ^ p.2.toNat),a1C]
  rw[c];show((((p.1.toNat+((aW l).1+W*2 ^ (aW l).2)*2 ^ p.2.toNat)/2 ^ 0%2 ^ p.2.toNat:Nat):Int)) :: dJ _ (0+p.2.toNat) (bitsOf l)=p.1 :: numsOf l;rw[Nat.pow_zero,Nat.div_one,Nat.add_mul_mod_self_right,a1c b];rw[show 0+p.2.toNat=p.2.toNat+0 by omega,zv,Nat.add_mul_div_right _ _ (a1i _),a1L b,a0J,ih W a.2]
  congr 1
  omega
theorem Fv{l:List (Int×Int)}(h:aX l=true):fE (bitsOf l)=(aW l).2:=by
 have b:=vB l h;have h2:(fE (bitsOf l):Int)=bT l:=by
  clear b;induction l with
  | nil=>rfl
  | cons p l ih=>
   have a:pOk p.1 p.2=true/\aX l=true:=by simpa[aX]using h
   obtain⟨⟨c,d⟩,_⟩:=aP.1 a.1;have:=ih a.2;simp only[bitsOf,a0B,bT,a0P]at this ⊢;rw[kh];omega
 omega
theorem Jn{l:List (Int×Int)}(h:lOk l=true):cB (oG l)=(aW l).1:=by
 have a:aX l=true:=by simp only[lOk,a0l]at h;exact h.1
 rw[dW h,cx,tX,a1c];exact a0k (wV l a) (a0Q (by omega) (by omega))
open Go.RowKit
theorem sf(a:Option Addr)(cap n:Nat)(l:List (Int×Int))(w:World)(c:l.length=n)(h:mY w a l)(b:n<=1000000000) :
  CD 54 #[.slice a n cap] w (.int .i64 (ox l)):=by
 subst c;exact gz a cap l w h b
theorem Rdr.over{w:World}{b p:Nat}{s:ByteArray}(h:Rdr w b s p)(a:8*s.size<p):Three w b (.string s) (.int .i64 (8*(s.size:Int))) (.bool true):=by
 unfold Rdr at h;rw[a2X (by omega),a0v (by omega)]at h;exact h
theorem yb(h:ee l=false∨4000<l.length):jk s l=false/\xZ s l=[]:=by
 have a:jk s l=false:=by
  unfold jk;rcases h with h|h
  . simp[h]
  . simp;omega
 exact⟨a,a0e (by simp[a])⟩
theorem Gz(h:ee l=true)(a:l.length<=4000):jk s l=(decide (s.length=(fE l+7)/8)&&decide (cB s<2 ^ fE l)):=by
 simp[jk,h,a]
theorem JU(h:jk s l=false):xZ s l=[]:=a0e (by simp[h])
theorem Gy(h:jk s l=true):xZ s l=dJ (cB s) 0 l:=a0d h
theorem oI{v:Value}{a b:Bool}(h:a=b):Ending.returned (.tuple #[v,.bool a]) = .returned (.tuple #[v,.bool b]):=by rw[h]
def blank(l:List Int):List (Int×Int):=l.map fun b=>(0,b)
theorem mg(l:List Int):(blank l).length=l.length:=by simp[blank]
theorem E7(b:Int):pOk 0 b=inB b 0 16:=by
 rw[a2t,aP,aC];have:=lP b.toNat
 constructor
 . exact fun h=>h.1
 . exact fun h=>⟨h,by omega,by omega⟩
theorem F9(l:List Int):aX (blank l)=ee l:=by
 simp only[aX,ee,blank,List.all_map]
 congr 1
 funext b
 exact E7 b
theorem DV(l:List Int)(h:ee l=true):bT (blank l)=(fE l:Int):=by
 induction l with
 | nil=>rfl
 | cons b l ih=>
  have a:(0<=b/\b<=16)/\ee l=true:=by simpa[ee]using h
  have:=ih a.2;simp only[bT,blank,a0B,a0P]at this ⊢;rw[kh,this];omega
theorem Ar(l:List Int)(a:l.length<=4000):ox (blank l)=if ee l=true then(fE l:Int)else -1:=by
 unfold ox lOk;rw[F9,mg];rcases hb:ee l with _|_
 . simp
 . simp[a,DV l hb]
theorem As(l:List Int)(b:Int):blank (l++[b])=blank l++[(0,b)]:=by simp[blank]
theorem DU(l:List Int)(k:Nat)(h:k<l.length):(blank l).getD k (0,0)=(0,l.getD k 0):=by
 simp[blank,List.getD,h]
theorem xg(b:Int)(w:World) :
  CD 53 #[.int .i64 b] w (.agg #[.int .i64 0,.int .i64 b]):=by
 go_enter func53,ntmps53;go_wp2;exact a0y (v:=.agg #[.int .i64 0,.int .i64 b]) (by simp[results,results53,go_sem]) rfl ⟨rfl,(a0c _ _).alloc (a0a _) _⟩
theorem D8(a:Option Addr)(cap:Nat)(l:List Int)(w:World)(h:bp w a l)(G:l.length<=4000) :
  Calls prog 52 #[.slice a l.length cap,.func (.func 53) #[] #[]] w fun e w'=>∃v,e = .returned v/\Pcs w' w.heap.size v (blank l)/\Below w.heap.size w w':=by
 have F:=af G;have L:(l.length:Int)<=4000:=by omega
 clear G;obtain⟨i0,M,C,D,E⟩:=a0t Tryz.infoPiece;go_enter func52,ntmps52;go_wp2_with fail
 go_loopw [5,7,10] (fun o _ i wr=>∃k:Nat,k<=l.length/\i = .int .i64 k/\Pcs wr w.heap.size o (blank (l.take k))/\Below w.heap.size w wr) (fun _ _ i _=>l.length-(intOf i).toNat)
 case atStart=>exact⟨0,a0g _,rfl,a05 _ _ _ _,a0c _ _⟩
 case round=>
  obtain⟨k,I,rfl,hq,b⟩:=hrel;by_cases t:k<l.length
  .
   obtain⟨g,o,rfl,N,H⟩:=(h.later b) (by omega);have c0:=H k t;have B:=af (ci l k t);have s:Hid ((blank (l.take k)).length=k):=by show(blank (l.take k)).length=k;rw[mg];simp;omega
   have K:=af I;clear H I h;generalize l.getD k 0=y at *
   go_wp2_with fail;refine(xg y _).mono ?_;rintro e x1 ⟨rfl,n⟩;have q:=Pcs.later hq n (a0a _);have c:=ap b n;have r:=c.size;clear hq b n;go_wp2_with (at_builtin;refine a0x _ rfl _ _ 79 rfl w.heap.size 82 i0 (.agg #[.int .i64 0,.int .i64 0]) 2 16 a1s M C D E rfl (by decide) _ _ _ rfl (a0r q _) ⟨x1.heap.size,0,none⟩ 1 1 [.int .i64 0,.int .i64 y] rfl rfl (by intro j u p;match j,p with | 0,p=>simp at p;subst p;simp[Addr.add] | 1,p=>simp at p;subst p;simp[Addr.add]) (by intro u J;simp at J;rcases J with rfl|rfl<;>rfl) (by have:=ae s;have:=ae F;unfold maxLen;omega) (by have:=ae s;have:=ae F;omega) (by simp;omega) ?_;intro v' x2 m d x;clear x);have A:=aG (v:=u5) d q (a0a _) r c;have z:=lS m;rw[←As,←ae B]at z;clear m d q;go_wp2;go_roundw
   case rel=>exact⟨k+1,by have:=ae K;omega,by go_num,z,A⟩
   case measure=>simp[intOf];omega
  . have f:l.take k=l:=a0F (by omega);rw[f]at hq;obtain⟨va,vc,rfl⟩:=hq.form;clear f h;go_wp2;go_ret;exact⟨_,rfl,hq,b⟩
theorem ES(a:Addr)(w:World):(method 387 85 (.pointer (some a)) "loop.example/corbel/impl.pass").run prog w = .ok (189,.pointer (some a)) w:=by kernel_rfl
theorem Ea(b:Nat)(s:ByteArray)(a:Option Addr)(cap:Nat)(l:List Int)(w:World)(h:mY w a (blank l))(hbo:ee l=true)(h4:l.length<=4000)(hs:s.size<=2000000)(hr:Rdr w b s 0)(hb:∀g o,a=some ⟨g,o,none⟩->0<l.length->g<b) :
  Calls prog 77 #[.slice a l.length cap,.func (.method "loop.example/corbel/impl.pass") #[.iface 85 (.pointer (some ⟨b,0,none⟩))] #[]] w fun e w'=>
   ∃v,e = .returned v/\ak w' (b+1) v (dJ (aj s) 0 l)/\Rdr w' b s (fE l)/\Below b w w':=by
 have Hbo:=af hbo;have H4:=af h4;have Hs:=af hs;have h4':(l.length:Int)<=4000:=by omega
 have hbl:=mg l;clear hbo h4 hs;obtain⟨i0,hi,hz0,hz1,hz2⟩:=a0t Tryz.infoInt;have mp:=ES ⟨b,0,none⟩;have Hb:=af hb;clear hb;go_enter func77,ntmps77;go_wp2_with fail
 go_loopw [5,7,10] (fun o _ i wr=>∃k:Nat,k<=l.length/\i = .int .i64 k/\ak wr (b+1) o (dJ (aj s) 0 (l.take k))/\Rdr wr b s (fE (l.take k))/\Below b w wr) (fun _ _ i _=>l.length-(intOf i).toNat)
 case atStart=>exact⟨0,a0g _,rfl,ak.nil _ _,hr,a0c _ _⟩
 case round=>
  obtain⟨k,hk,rfl,hown,hrr,hbel⟩:=hrel;have hrl:=hrr.lt;by_cases hlt:k<l.length
  .
   obtain⟨g,o,rfl,hg,hc⟩:=h (by omega);have hgb:=ae Hb g o rfl (by omega);have hck:=hc k (by omega);rw[DU l k hlt]at hck;have c0:=(hbel.cell (p:=⟨g,o+k*2,none⟩) hgb).trans hck.1;have c1:=(hbel.cell (p:=⟨g,o+k*2+1,none⟩) hgb).trans hck.2;have htk:=af (ci l k hlt);have hrd:=af (wL (aj s) 0 (l.take k) [l.getD k 0]);have hsu:=af (qL (l.take k) [l.getD k 0]);have hlk:Hid ((dJ (aj s) 0 (l.take k)).length=k):=by show(dJ (aj s) 0 (l.take k)).length=k;rw[ve];simp;omega
   obtain⟨y0,y1⟩:=Aq (ae Hbo) k hlt;have HK:=af hk;clear hc hk h hr hck hbl;generalize l.getD k 0=y at *
   obtain⟨c,rfl⟩:=a0n y0;go_wp2_with fail;refine(tC b (fE (l.take k)) c 0 s _ (hrr.alloc _) (ae Hs) (by omega)).mono ?_;rintro e x1 ⟨rfl,hr1,hk1⟩;have hown1:ak x1 (b+1) u5 (dJ (aj s) 0 (l.take k)):=hk1.own (a0r hown _) (a0h _);have hbel1:=(hbel.alloc (a0s hrl) (.cells #[.int .i64 0,.int .i64 (c:Int)] 82)).trans hk1.1;have hr1l:=hr1.lt;generalize hX:aj s/2 ^ fE (l.take k)%2 ^ c=X at *
   have HX:=af hX;clear hX hown hrr hbel hk1;go_wp2_with (at_builtin;refine a0x _ rfl _ _ 56 rfl (b+1) 3 i0 (.int .i64 0) 1 8 a0D hi hz0 hz1 hz2 rfl (by decide) _ _ _ rfl (a0r hown1 _) ⟨x1.heap.size,0,none⟩ 1 1 [.int .i64 (X:Int)] rfl rfl (by intro j u hj;match j,hj with | 0,hj=>simp at hj;subst hj;simp[Addr.add]) (by intro u hu;simp at hu;subst hu;rfl) (by have:=ae hlk;have:=ae H4;unfold maxLen;omega) (by have:=ae hlk;have:=ae H4;omega) (by simp;omega) ?_;intro v' x3 hown hgrow hnil;clear hnil);have hr3:Rdr x3 b s (fE (l.take k)+c):=hr1.kept (aG (v:=u5) hgrow hown1 (a0a _) (by omega) (a0c _ _));have hbel3:Below b w x3:=aG (v:=u5) hgrow hown1 (a01 _) (by omega) hbel1;have hown3:=mw hown;clear hown hgrow hown1 hr1 hbel1;go_wp2;go_roundw
   case rel=>
    refine⟨k+1,by have:=ae HK;omega,by go_num,?_,?_,hbel3⟩
    . rw[ae htk,ae hrd];simp only[dJ,a0J,a0p];rw[ae HX];exact hown3
    . rw[ae htk,ae hsu];simp only[fE,a0B,a1D,a0P,a3C,a0p,a1q];exact hr3
   case measure=>simp[intOf];omega
  . have hlk2:l.take k=l:=a0F (by omega);rw[hlk2]at hown hrr;obtain⟨va,vc,rfl⟩:=hown.form;clear hlk2 h hr;go_wp2;go_ret;exact⟨_,rfl,hown,hrr,hbel⟩
theorem FJ(b:Nat)(s:ByteArray)(a:Option Addr)(cap:Nat)(l:List Int)(w:World)(h:mY w a (blank l))(f:ee l=true)(j:l.length<=4000)(m:s.size<=2000000)(k:Rdr w b s 0)(hb:∀g o,a=some ⟨g,o,none⟩->0<l.length->g<b) :
  Calls prog 55 #[.iface 85 (.pointer (some ⟨b,0,none⟩)),.slice a l.length cap] w fun e w'=>
   ∃v,e = .returned v/\ak w' (b+1) v (dJ (aj s) 0 l)/\Rdr w' b s (fE l)/\Below b w w':=by
 go_enter func55,ntmps55;go_wp2_with fail;refine(Ea b s a cap l _ h f j m k hb).mono ?_;rintro e w1 ⟨v,rfl,c,i,d⟩;obtain⟨va,vc,rfl⟩:=c.form;go_wp2;go_ret;exact⟨_,rfl,c,i,d⟩
theorem qZ(s:ByteArray)(a:Option Addr)(cap:Nat)(l:List Int)(w:World)(h:bp w a l)(hs:s.size<=2000000)(hl:l.length<=2000000) :
  Calls prog 27 #[.string s,.slice a l.length cap] w fun e w'=>∃v,e = .returned (.tuple #[v,.bool (jk s.data.toList l)])/\ak w' w.heap.size v (xZ s.data.toList l)/\Below w.heap.size w w':=by
 have ac:(l.length:Int)<=2000000:=by omega
 have Y:=af hs;clear hs hl;by_cases S:l.length<=4000
 .
  have V:(l.length:Int)<=4000:=by omega
  have G:=af S;have C:=af (Ar l S);have j:=af (mg l);go_enter func27,ntmps27;go_wp2_with fail;refine(D8 a cap l _ h (ae G)).mono ?_;rintro e x1 ⟨v,rfl,hq,J⟩;obtain⟨va,vc,rfl⟩:=hq.formN (ae j);have u:=hq.rowN (ae j);clear h S;go_wp2_with fail;refine(sf va vc l.length (blank l) _ (ae j) u (by have:=ae G;omega)).mono ?_;rintro e x2 ⟨rfl,A⟩;rw[ae C];have O:=hq.later A (a0a _);have d:=O.rowN (ae j);have c:=ap J A;have Q:=af c.size;clear u J A hq;rcases k:ee l with _|_
  .
   have b:=af (yb (s:=s.data.toList) (a0o k));rw[a0e (by simp)];go_wp2
   go_ret2
   refine⟨_,oI (ae b).1.symm,?_,c⟩;rw[(ae b).2];exact ak.nil _ _
  .
   have U:=af k;have n:=af (Gz (s:=s.data.toList) k (ae G));have P:s.data.toList.length=s.size:=by simp
   have X:=KQ k;have hS:(fE l:Int)<=64000:=by have:=ae G;omega
   have aa:(0:Int)<=(fE l:Int):=by omega
   have r:=af (BX s.data.toList (fE l));rw[P]at n r;rw[a0d rfl];have x:=af (Gy (s:=s.data.toList) (l:=l));have t:=af (JU (s:=s.data.toList) (l:=l));have Z:cB s.data.toList=aj s:=rfl;rw[Z]at n r x;clear k X P Z;generalize hm:fE l=m at *
   have Hm:=af hm;clear hm;by_cases he:(s.size:Int)=((m:Int)+7)/8
   .
    have L:s.size=(m+7)/8:=by omega
    have I:=KC x2 s 87;have z:Below x2.heap.size x2 (x2.alloc (.cells #[.string s,.int .i64 0,.bool false] 87)):=(a0c _ _).alloc (a0a _) _;have q:=d.later z;have M:∀g o,va=some ⟨g,o,none⟩->0<l.length->g<x2.heap.size:=by
     intro g o e h0;obtain⟨g',o',e',ab,_⟩:=d (by rw[ae j];exact h0);rw[e]at e';simp only[a0i,a0A,a0V]at e';omega
    have R:=af L;have HG:=af M;clear L M d;go_wp2_with fail;refine(FJ x2.heap.size s va vc l _ q (ae U) (ae G) (ae Y) I (ae HG)).mono ?_;rintro e x3 ⟨v,rfl,p,E,K⟩;have f:=ap c (z.trans K);rw[ae Hm]at E;clear I z q K c O;obtain⟨va',vc',rfl⟩:=p.form;go_wp2_with fail;refine(qG x2.heap.size m s _ E (ae Y) (by have:=ae R;omega)).mono ?_;rintro e x4 ⟨rfl,W,B⟩;have D:=B.own p (a0h _);have i:=f.trans (B.1.mono (ae Q));clear p E W B f;by_cases F:aj s/2 ^ m%2 ^ ((8-m%8)%8)=0
    .
     rw[a0v F];have N:jk s.data.toList l=true:=by
      rw[ae n,a0v (ae R),a0v ((ae r (ae R)).1 F)];rfl
     have H:=af N;clear N F;go_wp2
     go_ret2
     refine⟨_,oI (ae H).symm,?_,i⟩;rw[ae x (ae H)];exact ak.mono D (Nat.le_succ_of_le (ae Q))
    .
     rw[a0j F];have b:jk s.data.toList l=false:=by
      rw[ae n,a0j (fun h=>F ((ae r (ae R)).2 h))];simp
     have y:=af b;have T:=af (ae t b);clear b F;go_wp2
     go_ret2
     refine⟨_,oI (ae y).symm,?_,i⟩;rw[ae T];exact ak.nil _ _
   .
    have b:jk s.data.toList l=false:=by
     rw[ae n,a0j (by omega)];rfl
    have ad:((s.size:Int) != ((m:Int)+7)/8)=true:=by simpa using he
    have y:=af b;have T:=af (ae t b);clear b;go_wp2
    go_ret2
    refine⟨_,oI (ae y).symm,?_,c⟩;rw[ae T];exact ak.nil _ _
 .
  have b:=af (yb (s:=s.data.toList) (l:=l) (Or.inr (by omega)));have V:4000<(l.length:Int):=by omega
  clear S;go_enter func27,ntmps27;go_wp2
  go_ret2
  refine⟨_,oI (ae b).1.symm,?_,a0c _ _⟩;rw[(ae b).2];exact ak.nil _ _
end Go.Proofs.YtggknepmhjfohaaGreatDoor
