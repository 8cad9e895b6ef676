/- Of what the proof is made: 27 texts, one behind the other. -/
import Derived.Test.YtchidddpplangaaGreatDoorRb1
import Derived.Test.YtchidddpplangaaGreatDoorM9
import Derived.Test.YtchidddpplangaaGreatDoorM8
import Derived.Test.YtchidddpplangaaGreatDoorM1
import Derived.Test.YtchidddpplangaaGreatDoorM2
import Derived.Deep.CutRange
import Derived.Laws.IdiomStrings
import Derived.Laws.OwnMore
import Derived.Test.YtchidddpplangaaGreatDoorM4
import Derived.Test.YtchidddpplangaaGreatDoorM3
import Derived.Deep.RegionHeld3
import Derived.Deep.DrawnRows
set_option maxRecDepth 100000
set_option linter.unusedSimpArgs false
set_option linter.unusedVariables false
set_option maxHeartbeats 6400000
namespace Go.Proofs.YtchidddpplangaaGreatDoor
open Go.Proofs.Tryz
open Go.RowKit Corb
variable {P V b c crc g how i j k lg m o pk st:Nat}{W W2 WA w w':World}{l:List UInt8}{nm:ByteArray}{v v' v1:Value}{x y:Int}{xs:List Int}
def Bys(w:World)(b:Nat)(v:Value)(l:List UInt8):Prop:=w.ownsRow (b+1) 5 1 v l.length (da l)
theorem Bys.form(h:Bys w b v l):∃a cap,v = .slice a l.length cap:=by
 rcases h.2 with⟨e,c⟩|⟨g,cap,_,e,_⟩
 . exact⟨none,0,by rw[e,c]⟩
 . exact⟨_,cap,e⟩
theorem Bys.set(h:Bys w b v l)(u:Value):Bys (w.setCell ⟨b,o,none⟩ u) b v l:=
 a23 h (a:=⟨b,o,none⟩) (a0i b) u
theorem Bys.drew(h:Bys w b v l):Bys w.drew b v l:=h
def Out(w:World)(b V m:Nat):Prop:=
 V<p2 m/\∃v,Three w b v (.int .i64 (V/p2 (8*(m/8)):Nat)) (.int .i64 (m%8:Nat))/\Bys w b v (leS (m/8) V)
theorem AR(V m x:Nat)(a:V<p2 m)(b:x<=1)(c:m%8<7) :
  V+x*p2 m<p2 (m+1)/\(V+x*p2 m)/p2 (8*((m+1)/8))=V/p2 (8*(m/8))+x*p2 (m%8)/\leS ((m+1)/8) (V+x*p2 m)=leS (m/8) V:=by
 refine⟨add_lt V x m a b,?_,?_⟩
 . rw[show(m+1)/8=m/8 by omega];have:=xu V x m (m/8) (by omega);rw[show m-8*(m/8)=m%8 by omega]at this;exact this
 . rw[show(m+1)/8=m/8 by omega];exact sB (m/8) V x m (by omega)
theorem AQ(V m x:Nat)(e:V<p2 m)(f:x<=1)(g:m%8=7) :
  V+x*p2 m<p2 (m+1)/\(V+x*p2 m)/p2 (8*((m+1)/8))=0/\(m+1)%8=0 /\
   leS ((m+1)/8) (V+x*p2 m)=leS (m/8) V++[UInt8.ofNat (V/p2 (8*(m/8))+x*p2 (m%8))]:=by
 have b:=add_lt V x m e f;refine⟨b,?_,by omega,?_⟩
 .
  apply a2r;have:p2 (8*((m+1)/8))=2 ^ (m+1):=by unfold p2;rw[show 8*((m+1)/8)=m+1 by omega]
  rw[this];exact b
 . rw[show(m+1)/8=m/8+1 by omega];have a:=sB (m/8) V x m (by omega);have d:=xu V x m (m/8) (by omega);rw[show m-8*(m/8)=m%8 by omega]at d;have c:=xQ (V+x*2 ^ m) (m+1) (m/8) b (by omega);rw[show m+1-8*(m/8)=8 by omega]at c;show leS (m/8) (V+x*2 ^ m)++[UInt8.ofNat ((V+x*2 ^ m)/2 ^ (8*(m/8))%256)]=_;rw[a1m c,a,d];rfl
theorem sy(V m:Nat)(a:V<p2 m):V/p2 (8*(m/8))<p2 (m%8):=by
 have:=xQ V m (m/8) a (by omega);rw[show m-8*(m/8)=m%8 by omega]at this;exact this
theorem oO(k:Nat)(h:k<256):(UInt8.ofNat k).toNat=k:=by
 have:k%256=k:=a1m h;simp[this]
theorem uD{v2:Value}{x:UInt8}(T2:Three W2 b v v1 v2)(Y2:Bys W2 b v l)(j:Below b w W2)
  (d:Below (b+1) W2 WA) (a:w'.ownsRow (b+1) 5 1 v' (l.length+1) (da l++[.int .u8 (x.toNat:Int)])) (c:WA.grownBy w' v.ownBlock) :
  (∃g cap,v' = .slice (some ⟨g,0,none⟩) (l.length+1) cap)/\Three w' b v v1 v2/\Bys w' b v' (l++[x])/\Below b w w':=by
 have h:=T2.2.2.2.2.2.2;have i:=a0m h d.size;have f:∀k,v.ownBlock=some k->b+1<=k:=fun k m=>(Y2.lt k m).1;have hb:Below (b+1) W2 w':=d.grown c (by omega) f;refine⟨?_,T2.kept hb,?_,j.trans (hb.mono (by omega))⟩
 .
  rcases a.2 with⟨_,n⟩|⟨g,cap,_,e,_⟩
  . omega
  . exact⟨g,cap,e⟩
 . show w'.ownsRow (b+1) 5 1 v' (l++[x]).length (da (l++[x]));simpa[da]using a
theorem KT(n k:Nat):n%p2 (k+1)=n%p2 k+n/p2 k%2*p2 k:=Au n k
theorem yr(V n k m:Nat):V+n%p2 (k+1)*p2 m=V+n%p2 k*p2 m+n/p2 k%2*p2 (m+k):=by
 rw[KT,a1t,a2u,show p2 k*p2 m=p2 (m+k) by unfold p2;rw[←a0W,a2s]];omega
theorem zK(n k:Nat):n/p2 k/2=n/p2 (k+1):=oR n k
theorem py(b V m:Nat)(num bits:Int)(w:World)(h:Out w b V m)(n0:0<=num)(n1:num<65536)(b0:0<=bits)(b1:bits<=16)(hm:m<=100000) :
  Calls prog 119 #[.pointer (some ⟨b,0,none⟩),.int .i64 num,.int .i64 bits] w fun e w'=>e = .returned (.tuple #[]) /\
   Out w' b (V+num.toNat%p2 bits.toNat*p2 m) (m+bits.toNat)/\Below b w w':=by
 obtain⟨n,rfl⟩:=a0t n0;obtain⟨c,rfl⟩:=a0t b0;rw[a0p,a0p];obtain⟨i0,hi,ba,bb,bc⟩:=a0o Tryz.infoU8;go_enter func119,ntmps119;go_wp2
 go_loopw [1,6] (fun x i wr=>∃k:Nat,k<=c/\i = .int .i64 k/\x = .int .i64 (n/p2 k:Nat)/\Out wr b (V+n%p2 k*p2 m) (m+k)/\Below b w wr) (fun _ i _=>c-(intOf i).toNat)
 case atStart=>exact⟨0,a0g _,rfl,by simp[p2],by simpa[p2,a1j]using h,a0c _ _⟩
 case round=>
  obtain⟨k,hk,rfl,rfl,z,a⟩:=hrel;by_cases b5:k<c
  .
   have B:=ae (yr V n k m);have g:=ae (zK n k);have a7:n/p2 k<=n:=a1V _ _;obtain⟨hV,v,s,G⟩:=z;obtain⟨sa,scap,rfl⟩:=G.form;have a6:=sy (V+n%p2 k*p2 m) (m+k) hV;generalize V+n%p2 k*p2 m=V1 at *
   generalize W:m+k=m1 at *
   have hx:n/p2 k%2<=1:=by omega
   have al:((n/p2 k:Nat):Int)%2=((n/p2 k%2:Nat):Int):=by omega
   have be:((n/p2 k:Nat):Int)<65536:=by omega
   have a8:p2 (m1%8)<=128:=pw (m1%8) 7 (by omega);have O:n/p2 k%2*p2 (m1%8)<=1*p2 (m1%8):=a17 _ hx;have y:((n/p2 k%2:Nat):Int)*((p2 (m1%8):Nat):Int)=((n/p2 k%2*p2 (m1%8):Nat):Int):=by simp
   have q:=AR V1 m1 (n/p2 k%2) hV hx;have d:=AQ V1 m1 (n/p2 k%2) hV hx;have ac:m1%8<8:=a0Y _ (by omega);have l:m1<=100016:=by omega
   have Q:(leS (m1/8) V1).length=m1/8:=aF _ _;generalize n/p2 k=nk at *
   generalize a9:nk%2=x at *
   generalize a2:V1/p2 (8*(m1/8))=L at *
   generalize ad:m1%8=r at *
   generalize N:p2 r=P at *
   generalize a3:x*P=X at *
   have a0:=ae N;have K:=ae W;have a1:=ae ad;have E:=ae q;have C:=ae d;clear W a2 ad N a3 hV q d a9 hx a7;obtain⟨k0,H,I,f0,f1,f2,F⟩:=s;have s:Hid (Three wr b _ _ _):=⟨k0,H,I,f0,f1,f2,F⟩;have b6:(r:Int)<8:=by omega
   have bn:(L:Int)<128:=by omega
   have bs:(X:Int)<=128:=by omega
   have S:(k:Int)<(c:Int):=by omega
   have bl:=ae ac;have D:=ae l;have Hk:=ae hk;have an:Hid (IntKind.i64.wrap ((L:Int)+IntKind.i64.wrap ((nk:Int).tmod 2*(P:Int)))=(L:Int)+(X:Int)):=by
    show IntKind.i64.wrap ((L:Int)+IntKind.i64.wrap ((nk:Int).tmod 2*(P:Int)))=(L:Int)+(X:Int);rw[a2b (by omega),al,y,bK (X:Int) (by omega) (by omega),bK ((L:Int)+(X:Int)) (by omega) (by omega)]
   clear ac l a8 O a6 hk hm;go_wp2_with fail;go_cut[]from 7 to 62 (fun wc=>wc=(wr.setCell ⟨b,1,none⟩ (.int .i64 ((L:Int)+(X:Int)))).drew)
   case first=>
    go_region_with (go_at_call 163;refine(fu _ _ (by omega)).mono ?_;rintro e w' ⟨rfl,rfl⟩;rw[a0p,ab a0])
    all_goals
     go_wp2_with fail
     go_meet
     exact by rw[ab an]
   case rest=>
    have T1:=((ab s).set1 (.int .i64 ((L:Int)+(X:Int)))).drew;have Y1:=(G.set (o:=1) (.int .i64 ((L:Int)+(X:Int)))).drew;have B1:Below b w _:=(ah a (o:=1) (a0a _) (.int .i64 ((L:Int)+(X:Int)))).drew;rw[←hcut]at T1 Y1 B1;clear hcut G a s k0 H I f0 f1 f2 F y al;have T1':=ae T1;obtain⟨k0,H,I,f0,f1,f2,F⟩:=T1;by_cases aa:(r:Int)=7
    .
     have A:r=7:=by omega
     obtain⟨o1,o2,o3,o4⟩:=ab C A;have O1:=ae o1;have O2:=ae o2;have O3:=ae o3;have O4:=ae o4;have M:L+X<256:=by omega
     have a5:=ae (oO (L+X) M);have b4:IntKind.u8.wrap ((L:Int)+(X:Int))=(L:Int)+(X:Int):=by
      rw[IntKind.wrap_u8'];omega
     subst A;clear o1 o2 o3 o4 aa M;have T2:=(ab T1').set2 (.int .i64 8);have Y2:=Y1.set (o:=2) (.int .i64 8);have B2:Below b w _:=ah B1 (o:=2) (a0a _) (.int .i64 8);have U:=ae Q;clear Q;go_wp2_with fail;generalize wc.setCell ⟨b,2,none⟩ (.int .i64 8)=W2 at *
     clear k0 H I f0 f1 f2 T1' Y1 B1;have T2':=ae T2;obtain⟨k0,H,I,f0,f1,f2,a4⟩:=T2;have R:Hid (((UInt8.ofNat (L+X)).toNat:Int)=(L:Int)+(X:Int)):=by
      show((UInt8.ofNat (L+X)).toNat:Int)=(L:Int)+(X:Int);rw[ab a5];omega
     have T:(leS (m1/8) V1).length<=20000:=by have:=ab U;have:=ab D;omega
     have J:=ae T;clear T;go_cut[]from 7 to 62 (fun wc2=>∃v',Three wc2 b v' (.int .i64 ((L:Int)+(X:Int))) (.int .i64 8)/\Bys wc2 b v' (leS (m1/8) V1++[UInt8.ofNat (L+X)])/\Below b w wc2)
     case first=>
      go_region_law (refine aL rfl (.tmp 47) (.tmp 53) 103 rfl (b+1) 5 i0 (.int .u8 0) 1 1 a0Q hi ba bb bc rfl (by decide) _ _ _ (by simp[Act.eval]) (Y2.alloc _) ⟨W2.heap.size,0,none⟩ 1 1 [.int .u8 ((L:Int)+(X:Int))] (by simp[Act.eval]) rfl (by intro j u hj;match j,hj with | 0,hj=>simp at hj;subst hj;simp[Addr.add]) (by intro u hu;simp at hu;subst hu;rfl) (by have:=ab J;unfold maxLen;omega) (by have:=ab J;omega) (by simp;omega) ?_;intro v' w' p f Z;clear Z;rw[←ab R]at p;obtain⟨⟨g',bd,rfl⟩,T3,Y3,B3⟩:=uD (ab T2') Y2 B2 (by first|exact(a0c _ _).alloc (by omega) _|exact((a0c _ _).alloc (by omega) _).drew) p f;clear p f;have T3':=ae T3;obtain⟨q0,q1,q2,e0,e1,e2,b2⟩:=T3)
      all_goals
       go_wp2_with fail
       go_meet
       exact⟨_,(ab T3').set0 _,Y3.set _,ah B3 (a0a _) _⟩
     case rest=>
      obtain⟨v',T4,Y4,B4⟩:=hcut;clear k0 H I f0 f1 f2 T2' Y2 B2 a4;obtain⟨va,vc,rfl⟩:=Y4.form;have T4':=ae T4;obtain⟨k0,H,I,f0,f1,f2,b3⟩:=T4;go_wp2;go_roundw
      case rel=>
       refine⟨k+1,by have:=ab Hk;omega,by go_num,by rw[←ab g];go_num,?_,ah (ah B4 (a0a _) _) (a0a _) _⟩;rw[ab B,show m+(k+1)=m1+1 by have:=ab K;omega];refine⟨ab O1,.slice va (leS (m1/8) V1++[UInt8.ofNat (L+X)]).length vc,?_,?_⟩
       . rw[ab O2,ab O3];exact((ab T4').set1 _).set2 _
       . rw[ab O4];exact(Y4.set _).set _
      case measure=>simp[intOf];omega
    .
     have bk:((r:Int)+1 == 8)=false:=by simp;omega
     have t:r<7:=by omega
     obtain⟨o1,o2,o3⟩:=ab E t;have O1:=ae o1;have O2:=ae o2;have O3:=ae o3;have Y:Hid ((m1+1)%8=r+1):=by show(m1+1)%8=r+1;have:=ab a1;omega
     clear o1 o2 o3 t aa;go_wp2;go_roundw
     case rel=>
      refine⟨k+1,by have:=ab Hk;omega,by go_num,by rw[←ab g];go_num,?_,ah B1 (a0a _) _⟩;rw[ab B,show m+(k+1)=m1+1 by have:=ab K;omega];refine⟨ab O1,.slice sa (leS (m1/8) V1).length scap,?_,?_⟩
      . rw[ab O2,ab Y];exact(ab T1').set2 _
      . rw[ab O3];exact Y1.set _
     case measure=>simp[intOf];omega
  .
   have S:k=c:=by omega
   subst S;go_wp2
   go_end0
   exact⟨rfl,z,a⟩
def ot(l:List (Int×Int)):List (Nat×Nat):=l.map (fun p=>(p.1.toNat,p.2.toNat))
def cH(l:List (Int×Int)):Nat×Nat:=iR (0,0) (ot l)
def gF(l:List (Int×Int)):List UInt8:=leS (((cH l).2+7)/8) (cH l).1
def qF(l:List (Int×Int)):List UInt8:=if lOk l=true then gF l else []
theorem gx{l:List (Int×Int)}(h:lOk l=true):qF l=gF l:=a0e h
theorem MU{l:List (Int×Int)}(h:lOk l=false):qF l=[]:=a0d (by simp[h])
theorem Iw(l:List (Int×Int))(k:Nat)(h:k<l.length):cH (l.take (k+1)) =
  ((cH (l.take k)).1+(l.getD k (0,0)).1.toNat*p2 (cH (l.take k)).2,(cH (l.take k)).2+(l.getD k (0,0)).2.toNat):=by
 rw[a1b h,cH,ot,a0I,mz];simp only[a0H,a1X,iR];have e:l.getD k (0,0)=l[k]:=by simp[List.getD,h]
 rw[e];rfl
theorem Iv(l:List (Int×Int))(h:bw l=true):((cH l).2:Int)=cm l:=by
 have key:∀(m:List (Int×Int)) (s:Nat×Nat),bw m=true->((iR s (ot m)).2:Int)=(s.2:Int)+cm m:=by
  intro m;induction m with
  | nil=>intro s _;simp[ot,iR,cm]
  | cons p m ih=>
   intro s a;simp only[bw,a1Z,a0n]at a;have b:=aS.1 a.1;have:=ih (s.1+p.1.toNat*2 ^ s.2,s.2+p.2.toNat) a.2;simp only[ot,a0H,iR]at this ⊢;rw[this];simp only[cm,a0H,a0M];omega
 have:=key l (0,0) h;simpa[cH]using this
theorem Nj(l:List (Int×Int))(h:bw l=true):(cH l).1<p2 (cH l).2:=by
 have key:∀(m:List (Int×Int)) (s:Nat×Nat),s.1<p2 s.2->bw m=true->(iR s (ot m)).1<p2 (iR s (ot m)).2:=by
  intro m;induction m with
  | nil=>intro s b _;exact b
  | cons p m ih=>
   intro s b a;simp only[bw,a1Z,a0n]at a;have d:=aS.1 a.1;have c:p.1.toNat<p2 p.2.toNat:=by omega
   exact ih _ (KN s.1 s.2 p.1.toNat p.2.toNat b c) a.2
 exact key l (0,0) (by decide) h
theorem ym(w:World)(t:TypeId):Out (w.alloc (.cells #[.slice none 0 0,.int .i64 0,.int .i64 0] t)) w.heap.size 0 0:=by
 refine⟨by decide,.slice none 0 0,⟨by simp,by simp,by simp,by simp,by simp,by simp,by simp⟩,?_⟩;exact a00 _ _ _ _
theorem Fh{a b:List UInt8}(h:a=b):Ending.returned (.string ⟨a.toArray⟩) = .returned (.string ⟨b.toArray⟩):=by rw[h]
theorem kY(h:Bys w b v l) :
  (convert 103 9 v).run prog w = .ok (.string ⟨l.toArray⟩) w:=by
 rcases h.2 with⟨e,a⟩|⟨g,cap,_,e,_⟩
 . subst e;have d:l=[]:=a2A a;subst d;rw[run_convert_bytes_string w _ _ _ none 0 0 a0Q a2E a2F];rfl
 .
  subst e;exact run_convert_bytes_back w _ _ _ ⟨g,0,none⟩ cap l a0Q a2E a2F (fun j c=>by
   have:=h.cells (g:=g) rfl j (.int .u8 (l[j].toNat:Int)) (by simp[da,c]);exact this)
theorem nS.below{a:Option Addr}{l:List (Int×Int)}{B:Nat}(h:nS w a l)(b:w.heap.size<=B)(hb:Below B w w'):nS w' a l:=h.later (hb.mono b)
theorem Two.kept{v0:Value}(h:Two w b v0 v1)(hb:Below (b+1) w w'):Two w' b v0 v1:=by
 obtain⟨c0,c1,f0,f1,c⟩:=h;have a:=a0i b;exact⟨(hb.cell (p:=⟨b,0,none⟩) a).trans c0,(hb.cell (p:=⟨b,1,none⟩) a).trans c1,(hb.frozen (p:=⟨b,0,none⟩) a).trans f0,(hb.frozen (p:=⟨b,1,none⟩) a).trans f1,a0m c hb.size⟩
def km(w:World)(b V m:Nat):Prop:=
 V<p2 m/\∃v,Two w b v (.int .i64 (m:Int))/\Bys w b v (leS ((m+7)/8) V)
theorem KO{x:UInt8}(T2:Two W2 b v v1)(Y2:Bys W2 b v l)(j:Below b w W2)
  (d:Below (b+1) W2 WA) (a:w'.ownsRow (b+1) 5 1 v' (l.length+1) (da l++[.int .u8 (x.toNat:Int)])) (c:WA.grownBy w' v.ownBlock) :
  (∃g cap,v' = .slice (some ⟨g,0,none⟩) (l.length+1) cap)/\Two w' b v v1/\Bys w' b v' (l++[x])/\Below b w w':=by
 have h:=T2.2.2.2.2;have i:=a0m h d.size;have f:∀k,v.ownBlock=some k->b+1<=k:=fun k m=>(Y2.lt k m).1;have hb:Below (b+1) W2 w':=d.grown c (by omega) f;refine⟨?_,T2.kept hb,?_,j.trans (hb.mono (by omega))⟩
 .
  rcases a.2 with⟨_,n⟩|⟨g,cap,_,e,_⟩
  . omega
  . exact⟨g,cap,e⟩
 . show w'.ownsRow (b+1) 5 1 v' (l++[x]).length (da (l++[x]));simpa[da]using a
theorem Bys.at{cap:Nat}(h:Bys w b (.slice (some ⟨g,0,none⟩) l.length cap) l)(a:j<l.length) :
  w.cell? ⟨g,j,none⟩=some (.int .u8 ((l.getD j 0).toNat:Int))/\w.frozen? ⟨g,j,none⟩=false/\b<g:=by
 refine⟨?_,a2j h j,(a0y h g rfl).1⟩;rw[a09 h j (by omega)];simp[da,a,List.getD]
theorem Bys.put{cap:Nat}(h:Bys w b (.slice (some ⟨g,0,none⟩) l.length cap) l)(x:UInt8) :
  Bys (w.setCell ⟨g,j,none⟩ (.int .u8 (x.toNat:Int))) b (.slice (some ⟨g,0,none⟩) l.length cap) (l.set j x):=by
 have:=a1M h j (.int .u8 (x.toNat:Int));show World.ownsRow _ _ _ _ _ (l.set j x).length (da (l.set j x));rw[a1d];have e:da (l.set j x)=(da l).set j (.int .u8 (x.toNat:Int)):=by simp[da,List.map_set]
 rw[e];exact this.1
theorem OY(V m x:Nat)(a:V<p2 m)(b:x<=1) :
  V+x*p2 m<p2 (m+1)/\leS ((m+1+7)/8) (V+x*p2 m)=(leS (m/8+1) V).set (m/8) (UInt8.ofNat (V/p2 (8*(m/8))+x*p2 (m%8))):=by
 refine⟨add_lt V x m a b,?_⟩;rw[show(m+1+7)/8=m/8+1 by omega];exact MB (m/8) V x m rfl b a
theorem OW(V m:Nat)(a:V<p2 m)(b:m%8=0):leS ((m+7)/8) V++[0]=leS (m/8+1) V:=by
 rw[show(m+7)/8=m/8 by omega];exact(MA (m/8) V (by rw[show 8*(m/8)=m by omega];exact a)).symm
theorem OU(V m:Nat)(a:m%8≠0):leS ((m+7)/8) V=leS (m/8+1) V:=by
 rw[show(m+7)/8=m/8+1 by omega]
theorem OS(V m:Nat)(a:V<p2 m):((leS (m/8+1) V).getD (m/8) 0).toNat=V/p2 (8*(m/8)):=by
 rw[ET _ _ _ (by omega)];have b:=sy V m a;have h2:=pw (m%8) 7 (by omega);have c:p2 7=128:=rfl;have e:V/2 ^ (8*(m/8))%256=V/p2 (8*(m/8)):=a1m (by show V/p2 (8*(m/8))<256;omega);rw[e,oO _ (by omega)]
def Box(w:World)(P:Nat)(x y:Int):Prop:=w.heap[P]?=some (.cells #[.int .i64 x,.int .i64 y] 185)
theorem L4(w:World)(x y:Int):Box (w.alloc (.cells #[.int .i64 x,.int .i64 y] 185)) w.heap.size x y:=by
 show(w.heap.push _)[w.heap.size]?=_;simp
theorem Box.cells(h:Box w P x y):w.cell? ⟨P,0,none⟩=some (.int .i64 x)/\w.cell? ⟨P,1,none⟩=some (.int .i64 y)/\P<w.heap.size:=by
 refine⟨by simp[World.cell?,show w.heap[P]?=_ from h],by simp[World.cell?,show w.heap[P]?=_ from h],?_⟩;have a:w.heap[P]?=some _:=h;exact(Array.getElem?_eq_some_iff.1 a).1
theorem Box.ne(h:Box w P x y)(i:Bys w b v l)(k:Nat)(a:v.ownBlock=some k):k≠P:=by
 rintro rfl;rcases i.2 with⟨e,_⟩|⟨g,cap,d,e,_,c,_⟩
 . subst e;simp[Value.ownBlock]at a
 . subst e;simp only[Value.ownBlock,a0l]at a;subst a;have f:w.heap[g]?=some (.cells #[.int .i64 x,.int .i64 y] 185):=h;rw[f]at c;simp at c
theorem Box.set(h:Box w P x y)(hb:b≠P)(u:Value):Box (w.setCell ⟨b,o,none⟩ u) P x y:=by
 show(w.setCell ⟨b,o,none⟩ u).heap[P]?=_;rw[a0O w ⟨b,o,none⟩ u P (fun e=>hb e.symm)];exact h
theorem Box.drew(h:Box w P x y):Box w.drew P x y:=h
theorem Box.alloc(h:Box w P x y)(o:Obj):Box (w.alloc o) P x y:=by
 show(w.alloc o).heap[P]?=_;rw[a1i w o P h.cells.2.2];exact h
theorem Box.grown(h:Box w P x y)(c:Bys w b v l)(a:w.grownBy w' v.ownBlock):Box w' P x y:=by
 show w'.heap[P]?=_;rw[a.block P h.cells.2.2 (fun e=>h.ne c P e.symm rfl)];exact h
def bV(b:Nat)(w w':World):Prop:=w.heap.size<=w'.heap.size/\∀k,k<w.heap.size->k≠b->(∀cur fr,w.heap[k]?≠some (.cells cur 5 fr))->w'.heap[k]?=w.heap[k]?
theorem bV.refl(b:Nat)(w:World):bV b w w:=⟨a0a _,fun _ _ _ _=>rfl⟩
theorem bV.trans{w1 w2:World}(h:bV b w w1)(k:bV b w1 w2):bV b w w2:=
 ⟨a0E h.1 k.1,fun j c hb d=>by
  have e:=h.2 j c hb d;rw[k.2 j (a0m c h.1) hb (fun a fr=>by rw[e];exact d a fr),e]⟩
theorem bV.drew(h:bV b w w'):bV b w w'.drew:=h
theorem bV.alloc(h:bV b w w')(o:Obj):bV b w (w'.alloc o):=
 h.trans ⟨by simp,fun j a _ _=>a1i w' o j a⟩
theorem bV.set(h:bV b w w')(u:Value):bV b w (w'.setCell ⟨b,o,none⟩ u):=
 h.trans ⟨by simp,fun j _ hb _=>a0O w' ⟨b,o,none⟩ u j hb⟩
theorem bV.setRow{cap:Nat}(h:bV b w w')(m:Bys w' c (.slice (some ⟨g,0,none⟩) l.length cap) l)(u:Value):bV b w (w'.setCell ⟨g,j,none⟩ u):=by
 refine h.trans ⟨by simp,fun k _ _ i=>?_⟩;by_cases e:k=g
 .
  subst e;rcases m.2 with⟨e,_⟩|⟨g',d,a,e,_,f,_⟩
  . simp at e
  . simp only[a0J,a0l,a0B,a0P,true_and]at e;obtain⟨rfl,_⟩:=e;exact absurd f (i a (0,0))
 . exact a0O w' ⟨g,j,none⟩ u k e
theorem bV.grown{w'':World}(h:bV b w w')(m:Bys w' c v l)(g:w'.grownBy w'' v.ownBlock):bV b w w'':=by
 refine h.trans ⟨g.size,fun k i _ j=>?_⟩;refine g.block k i (fun e=>?_);rcases m.2 with⟨e',_⟩|⟨g',f,a,e',_,d,_⟩
 . subst e';simp[Value.ownBlock]at e
 . subst e';simp only[Value.ownBlock,a0l]at e;subst e;exact j a (0,0) d
theorem Es(B X r:Nat)(a:B<p2 r)(e:r<8)(b:X=0∨X=p2 r):bits .or .u8 (B:Int) (X:Int)=((B+X:Nat):Int):=by
 have d:=pw r 7 (by omega);have c:p2 7=128:=rfl;rw[u8_or_nat B X (by omega) (by omega)]
 congr 1
 rw[Nat.or_comm];rcases b with rfl|rfl
 . simp
 . rw[nat_join r (p2 r) B (by unfold p2;simp) a];omega
theorem Two.other{v0:Value}(h:Two w b v0 v1)(a:g≠b)(u:Value):Two (w.setCell ⟨g,o,none⟩ u) b v0 v1:=by
 obtain⟨c0,c1,f0,f1,hb⟩:=h;refine⟨?_,?_,by simpa using f0,by simpa using f1,by simpa using hb⟩
 . rw[World.cell?_setCell_other _ _ _ _ (by simp only[ne_eq,a0B];omega)];exact c0
 . rw[World.cell?_setCell_other _ _ _ _ (by simp only[ne_eq,a0B];omega)];exact c1
theorem wP{wr:World}{cap V1 m1 x L X:Nat}{p q:Int}(j:Two wr b (.slice (some ⟨g,0,none⟩) (leS (m1/8+1) V1).length cap) (.int .i64 (m1:Int)))
  (a:Bys (wr.setCell ⟨g,m1/8,none⟩ (.int .u8 ((UInt8.ofNat (L+X)).toNat:Int))) b (.slice (some ⟨g,0,none⟩) (leS (m1/8+1) V1).length cap) ((leS (m1/8+1) V1).set (m1/8) (UInt8.ofNat (L+X))))
  (k:V1+x*p2 m1<p2 (m1+1)) (l:leS ((m1+1+7)/8) (V1+x*p2 m1)=(leS (m1/8+1) V1).set (m1/8) (UInt8.ofNat (L+X)))
  (h:(UInt8.ofNat (L+X)).toNat=L+X) (o:b<g) (n:g≠P) (m:P≠b) (d:Box wr P p q) (c:Below b w wr) (f:Bys wr b (.slice (some ⟨g,0,none⟩) (leS (m1/8+1) V1).length cap) (leS (m1/8+1) V1)) (i:bV b w wr) :
  km ((wr.setCell ⟨g,m1/8,none⟩ (.int .u8 ((L:Int)+(X:Int)))).setCell ⟨b,1,none⟩ (.int .i64 ((m1:Int)+1))).drew b (V1+x*p2 m1) (m1+1) /\
  Box ((wr.setCell ⟨g,m1/8,none⟩ (.int .u8 ((L:Int)+(X:Int)))).setCell ⟨b,1,none⟩ (.int .i64 ((m1:Int)+1))).drew P p q /\
  Below b w ((wr.setCell ⟨g,m1/8,none⟩ (.int .u8 ((L:Int)+(X:Int)))).setCell ⟨b,1,none⟩ (.int .i64 ((m1:Int)+1))).drew /\
  bV b w ((wr.setCell ⟨g,m1/8,none⟩ (.int .u8 ((L:Int)+(X:Int)))).setCell ⟨b,1,none⟩ (.int .i64 ((m1:Int)+1))).drew:=by
 have e:((UInt8.ofNat (L+X)).toNat:Int)=(L:Int)+(X:Int):=by rw[h];omega
 rw[e]at a;refine⟨⟨k,.slice (some ⟨g,0,none⟩) (leS (m1/8+1) V1).length cap,?_,?_⟩,?_,?_,?_⟩
 . exact((j.other (by omega) _).set1 _).drew
 . rw[l];exact(a.set _).drew
 . exact((d.set (by omega) _).set (by omega) _).drew
 . exact(ah (ah c (by omega) _) (a0a _) _).drew
 . exact((i.setRow f _).set _).drew
theorem KJ(b V m:Nat)(num bits:Int)(w:World)(h:km w b V m)(hp:pOk num bits=true)(hm:m<=100000) :
  Calls prog 293 #[.pointer (some ⟨b,0,none⟩),.agg #[.int .i64 num,.int .i64 bits]] w fun e w'=>e = .returned (.int .i64 num) /\
   km w' b (V+num.toNat*p2 m) (m+bits.toNat)/\Below b w w'/\bV b w w':=by
 obtain⟨⟨b0,b1⟩,n0,n1⟩:=aS.1 hp;have hq:=(D2 bits b1).2;obtain⟨n,rfl⟩:=a0t n0;obtain⟨c,rfl⟩:=a0t b0;rw[a0p,a0p];rw[a0p]at n1 hq;have Z:Hid (n%p2 c=n):=a1m (by omega);have cv:(n:Int)<65536:=by omega
 obtain⟨i0,hi,b9,ca,cc⟩:=a0o Tryz.infoU8;have cu:b<w.heap.size:=by obtain⟨_,v,ht,_⟩:=h;exact ht.2.2.2.2
 have C:=L4 w (n:Int) (c:Int);have h0:km (w.alloc (.cells #[.int .i64 (n:Int),.int .i64 (c:Int)] 185)) b V m:=by
  obtain⟨W,v,ht,hy⟩:=h;exact⟨W,v,ht.kept ((a0c _ _).alloc (by omega) _),a0k hy _⟩
 have A:Below b w (w.alloc (.cells #[.int .i64 (n:Int),.int .i64 (c:Int)] 185)):=(a0c _ _).alloc (by omega) _;clear n1 hq h hp;go_enter func293,ntmps293;go_wp2_with fail
 go_loopw [5,8] (fun _ i wr=>∃k:Nat,k<=c/\i = .int .i64 k/\km wr b (V+n%p2 k*p2 m) (m+k)/\Box wr w.heap.size n c/\Below b w wr/\bV b w wr) (fun _ i _=>c-(intOf i).toNat)
 case atStart=>exact⟨0,a0g _,rfl,by simpa[p2,a1j]using h0,C,A,(bV.refl _ _).alloc _⟩
 case round=>
  obtain⟨k,hk,rfl,G,d,p,t⟩:=hrel;clear h0 C A;obtain⟨bc0,bc1,J⟩:=d.cells;by_cases b5:k<c
  .
   have Q:=ae (yr V n k m);have b6:n/p2 k<=n:=a1V _ _;have al:Hid ((n:Int)/2 ^ k=((n/p2 k:Nat):Int)):=(Int.natCast_ediv n (2 ^ k)).symm;obtain⟨W,v,bn,a⟩:=G;obtain⟨sa,scap,rfl⟩:=a.form;have a9:=sy (V+n%p2 k*p2 m) (m+k) W;generalize V+n%p2 k*p2 m=V1 at *
   generalize ba:m+k=m1 at *
   have hx:n/p2 k%2<=1:=by omega
   have bc:((n/p2 k:Nat):Int)<65536:=by omega
   have bd:=mj ((n/p2 k:Nat):Int) (a3x _) (Int.lt_trans bc (by omega));have b4:((n/p2 k:Nat):Int)%2=((n/p2 k%2:Nat):Int):=by omega
   rw[b4]at bd;have b7:p2 (m1%8)<=128:=pw (m1%8) 7 (by omega);have a3:n/p2 k%2*p2 (m1%8)<=1*p2 (m1%8):=a17 _ hx;have cp:((n/p2 k%2:Nat):Int)*(2:Int) ^ (m1%8)=((n/p2 k%2*p2 (m1%8):Nat):Int):=by rw[a1v,j9]
   have K:n/p2 k%2*p2 (m1%8)=0∨n/p2 k%2*p2 (m1%8)=p2 (m1%8):=by
    rcases (show n/p2 k%2=0∨n/p2 k%2=1 by omega)with e|e<;>rw[e]<;>simp
   obtain⟨bs,b2⟩:=OY V1 m1 (n/p2 k%2) W hx;have b3:=OS V1 m1 W;have cy:=Es (V1/p2 (8*(m1/8))) (n/p2 k%2*p2 (m1%8)) (m1%8) a9 (by omega) K;have H:=ae (OW V1 m1 W);have y:=ae (OU V1 m1);have O:(leS (m1/8+1) V1).length=m1/8+1:=aF _ _;have D:(leS ((m1+7)/8) V1).length=(m1+7)/8:=aF _ _;have F:m1<=100016:=by omega
   have z:V1/p2 (8*(m1/8))+n/p2 k%2*p2 (m1%8)<256:=by omega
   have a5:=oO _ z;have a7:(k:Int)<(c:Int):=by omega
   have ch:(k:Int)<=16:=by omega
   have bk:(m1:Int)%8<8:=by omega
   have co:(m1:Int)<=100016:=by omega
   have cs:((n/p2 k%2*p2 (m1%8):Nat):Int)<=128:=by omega
   have cr:((n/p2 k%2:Nat):Int)<=1:=by omega
   have ad:=ae ba;have HK:=ae hk;have s:=ae O;have T:=ae D;have U:=ae F;have an:=ae bs;have a0:=ae b2;have a1:=ae b3;have aa:=ae a5;have c5:=ab al;clear al b4 K a9 b7 a3 bs b2 b3 O D F z a5 b6 hx ba hk W b5;generalize n/p2 k=nk at *
   generalize nk%2=x at *
   generalize x*p2 (m1%8)=X at *
   generalize V1/p2 (8*(m1/8))=L at *
   have l:=ae bn;obtain⟨k0,k1,f0,f1,cg⟩:=bn;have a2:w.heap.size≠b:=by omega
   by_cases hr:m1%8=0
   .
    have b8:((m1:Int)%8 == 0)=true:=by simp;omega
    have be:=ae (ab H hr);clear hr H y bk hm;have a8:(leS ((m1+7)/8) V1).length<=20000:=by have:=ab T;have:=ab U;omega
    have ac:=ae a8;clear a8;go_wp2_with (at_builtin;refine a0r _ rfl _ _ 103 rfl (b+1) 5 i0 (.int .u8 0) 1 1 a0Q hi b9 ca cc rfl (by decide) _ _ _ rfl (a0k a _) ⟨wr.heap.size,0,none⟩ 1 1 [.int .u8 0] rfl rfl (by intro j u hj;match j,hj with | 0,hj=>simp at hj;subst hj;simp[Addr.add]) (by intro u hu;simp at hu;subst hu;rfl) (by have:=ab ac;unfold maxLen;omega) (by have:=ab ac;omega) (by simp;omega) ?_;intro v' w' P q bb;clear bb;have B:=(d.alloc _).grown (a0k a _) q;have M:=(t.alloc (.cells #[.int .u8 0] 5)).grown (a0k a _) q;obtain⟨⟨g,cap,rfl⟩,T3,Y3,B3⟩:=KO (x:=0) (ab l) a p ((a0c _ _).alloc (by omega) _) P q;clear P q a d p t l k0 k1 f0 f1;have T3':=ae T3;obtain⟨k0,k1,f0,f1,a4⟩:=T3);have E:(leS ((m1+7)/8) V1).length+1=(leS (m1/8+1) V1).length:=by rw[←ab be,a0j];rfl
    rw[E]at Y3 ⊢;have T4:=(ab T3').set0 (.slice (some ⟨g,0,none⟩) (leS (m1/8+1) V1).length cap);have a:=Y3.set (o:=0) (.slice (some ⟨g,0,none⟩) (leS (m1/8+1) V1).length cap);rw[ab be]at a;have d:=B.set (b:=b) (o:=0) (by omega) (.slice (some ⟨g,0,none⟩) (leS (m1/8+1) V1).length cap);have t:=M.set (o:=0) (.slice (some ⟨g,0,none⟩) (leS (m1/8+1) V1).length cap);have p:Below b w _:=ah B3 (o:=0) (a0a _) (.slice (some ⟨g,0,none⟩) (leS (m1/8+1) V1).length cap);clear Y3 B3 T3' k0 k1 f0 f1 B M bc0 bc1 J E a4;generalize w'.setCell ⟨b,0,none⟩ (.slice (some ⟨g,0,none⟩) (leS (m1/8+1) V1).length cap)=wA at *
    have l:=ae T4;obtain⟨k0,k1,f0,f1,a4⟩:=T4;obtain⟨bc0,bc1,J⟩:=d.cells;obtain⟨gc,gf,gb⟩:=a.at (j:=m1/8) (by have:=ab s;omega);rw[ab a1]at gc;have I:=ae (a.put (j:=m1/8) (UInt8.ofNat (L+X)));have Y:g≠w.heap.size:=d.ne a g rfl;have R:=ae a;have S:=ae t;clear t;have f:=ab s;rw[f]at k0;generalize hN:m1/8+1=N at k0;have a6:(m1:Int)/8<(N:Int):=by omega
    clear hN f a
    go_region
    all_goals
     go_wp2;go_roundw
     case rel=>
      have r:=wP (ab l) (ab I) (ab an) (ab a0) (ab aa) gb Y a2 d p (ab R) (ab S);refine⟨k+1,by have:=ab HK;omega,by go_num,?_,r.2.1,r.2.2.1,r.2.2.2⟩;rw[ab Q,show m+(k+1)=m1+1 by have:=ab ad;omega];exact r.1
     case measure=>simp[intOf];omega
   .
    have b8:((m1:Int)%8 == 0)=false:=by simp;omega
    have bl:=ab y hr;rw[bl]at a k0 l;obtain⟨g,cap,hform⟩:∃g cap,Value.slice sa (leS (m1/8+1) V1).length scap = .slice (some ⟨g,0,none⟩) (leS (m1/8+1) V1).length cap:=by
     rcases a.2 with⟨_,h0⟩|⟨g,cap,_,e,_⟩
     . have:=ab s;omega
     . exact⟨g,cap,e⟩
    rw[hform]at a k0 l;obtain⟨gc,gf,gb⟩:=a.at (j:=m1/8) (by have:=ab s;omega);rw[ab a1]at gc;have I:=ae (a.put (j:=m1/8) (UInt8.ofNat (L+X)));have Y:g≠w.heap.size:=d.ne a g rfl;have R:=ae a;have S:=ae t;clear t;have f:=ab s;rw[f]at k0;generalize hN:m1/8+1=N at k0;have a6:(m1:Int)/8<(N:Int):=by omega
    clear hN f hform bl hr H y a hm bk;go_wp2_with fail
    go_region
    all_goals
     go_wp2;go_roundw
     case rel=>
      have r:=wP (ab l) (ab I) (ab an) (ab a0) (ab aa) gb Y a2 d p (ab R) (ab S);refine⟨k+1,by have:=ab HK;omega,by go_num,?_,r.2.1,r.2.2.1,r.2.2.2⟩;rw[ab Q,show m+(k+1)=m1+1 by have:=ab ad;omega];exact r.1
     case measure=>simp[intOf];omega
  .
   have a7:k=c:=by omega
   subst a7;rw[ab Z]at G;go_wp2;go_ret;exact⟨rfl,G,p,t⟩
def Ints(w:World)(b:Nat)(v:Value)(xs:List Int):Prop:=w.ownsRow (b+1) 3 1 v xs.length (xs.map (Value.int .i64))
theorem Ints.keep(h:Ints w b v xs)(f:bV b w w'):Ints w' b v xs:=by
 refine⟨h.1,?_⟩;rcases h.2 with e|⟨g,cap,a,e,hb,c,i⟩
 . exact .inl e
 . refine .inr ⟨g,cap,a,e,hb,?_,i⟩;rw[f.2 g (Array.getElem?_eq_some_iff.1 c).1 (by omega) (fun d fr=>by rw[c];simp)];exact c
theorem Bys.other{o:Value}(h:Bys w b v l)(p:Ints w c o xs)(n:w.grownBy w' o.ownBlock):Bys w' b v l:=by
 refine a1N h n ?_;cases f:v.ownBlock with
 | none=>exact .inl rfl
 | some k=>
  refine .inr (fun e=>?_);rcases h.2 with⟨e1,_⟩|⟨g,cap,m,e1,_,d,_⟩
  . subst e1;simp[Value.ownBlock]at f
  .
   rcases p.2 with⟨e2,_⟩|⟨g2,i,j,e2,_,a,_⟩
   . subst e2;simp[Value.ownBlock]at e
   . subst e1 e2;simp only[Value.ownBlock,a0l]at f e;subst f;subst e;rw[d]at a;simp at a
theorem km.alloc(h:km w b V m)(o:Obj):km (w.alloc o) b V m:=by
 obtain⟨c,v,a,d⟩:=h;exact⟨c,v,a.kept ((a0c _ _).alloc (by have:=a.2.2.2.2;omega) _),a0k d _⟩
theorem km.other{o:Value}(h:km w b V m)(c:Ints w b o xs)(a:w.grownBy w' o.ownBlock):km w' b V m:=by
 obtain⟨e,v,d,g⟩:=h;exact⟨e,v,d.kept ((a0c _ _).grown a (by have:=d.2.2.2.2;omega) (fun k f=>(a0y c k f).1)),g.other c a⟩
theorem km.lt(h:km w b V m):b<w.heap.size:=by
 obtain⟨c,v,a,d⟩:=h;exact a.2.2.2.2
theorem GM(a:Addr)(w:World):(method 471 246 (.pointer (some a)) "loop.example/corbel/impl.pass").run prog w = .ok (293,.pointer (some a)) w:=by kernel_rfl
theorem FX(b:Nat)(a:Option Addr)(cap:Nat)(l:List (Int×Int))(w0 w:World)(h:nS w0 a l)(h0:Below b w0 w)(hs:w0.heap.size<=b)(hok:lOk l=true)(hw:km w b 0 0) :
  Calls prog 176 #[.slice a l.length cap,.func (.method "loop.example/corbel/impl.pass") #[.iface 246 (.pointer (some ⟨b,0,none⟩))] #[]] w fun e w'=>
   (∃v,e = .returned v)/\km w' b (cH l).1 (cH l).2/\Below b w w':=by
 simp only[lOk,a0n,a2x]at hok;obtain⟨hall,h4⟩:=hok;have hall':=ae hall;have H4:=ae h4;have h4':(l.length:Int)<=4000:=by omega
 clear hall h4;obtain⟨i0,hi,hz0,hz1,hz2⟩:=a0o Tryz.infoInt;have mp:=GM ⟨b,0,none⟩;go_enter func176,ntmps176;go_wp2_with fail
 go_loopw [5,7,10] (fun o _ i wr=>∃(k:Nat) (xs:List Int),k<=l.length/\i = .int .i64 k/\xs.length=k/\Ints wr b o xs/\km wr b (cH (l.take k)).1 (cH (l.take k)).2/\Below b w wr) (fun _ _ i _=>l.length-(intOf i).toNat)
 case atStart=>exact⟨0,[],a0g _,rfl,rfl,a00 _ _ _ _,hw,a0c _ _⟩
 case round=>
  obtain⟨k,xs,hk,rfl,hxs,hints,hout,hbel⟩:=hrel;have hltb:=hout.lt;by_cases hlt:k<l.length
  .
   obtain⟨g,o,rfl,hg,hc⟩:=(h.below hs (h0.trans hbel)) (by omega);obtain⟨c0,c1⟩:=hc k hlt;have hmb:=Iv (l.take k) (lI (ab hall') k);obtain⟨s0,s1⟩:=Ed (lI (ab hall') k);have s2:((l.take k).length:Int)<=4000:=by simp;omega
   have hml:Hid ((cH (l.take k)).2<=64000):=by show(cH (l.take k)).2<=64000;omega
   have hpk:=ae (FB (ab hall') k hlt);have hstep:=ae (Iw l k hlt);have HK:=ae hk;have HX:=ae hxs;clear hmb s0 s1 s2 hc hk hxs hw;generalize (l.getD k (0,0)).1=x at *
   generalize (l.getD k (0,0)).2=y at *
   generalize cH (l.take k)=S at *
   go_wp2_with fail;refine(KJ b S.1 S.2 x y _ (hout.alloc _) (ab hpk) (by have:=ab hml;omega)).mono ?_;rintro e w1 ⟨rfl,hout1,hbel1,hkp1⟩;have hints1:Ints w1 b u5 xs:=Ints.keep (a0k hints _) hkp1;have hbel2:=(hbel.alloc (a0z hltb) (.cells #[.int .i64 x,.int .i64 y] 185)).trans hbel1;have hlt1:=hout1.lt;clear hout hints hbel hbel1 hkp1;go_wp2_with (at_builtin;refine a0r _ rfl _ _ 137 rfl (b+1) 3 i0 (.int .i64 0) 1 8 a0C hi hz0 hz1 hz2 rfl (by decide) _ _ _ rfl (a0k hints1 _) ⟨w1.heap.size,0,none⟩ 1 1 [.int .i64 x] rfl rfl (by intro j u hj;match j,hj with | 0,hj=>simp at hj;subst hj;simp[Addr.add]) (by intro u hu;simp at hu;subst hu;rfl) (by have:=ab HX;have:=ab H4;unfold maxLen;omega) (by have:=ab HX;have:=ab H4;omega) (by simp;omega) ?_;intro v' w2 hown hgrow hnil;clear hnil);have hout2:km w2 b _ _:=(hout1.alloc (.cells #[.int .i64 x] 3)).other (a0k hints1 _) hgrow;have hints2:Ints w2 b v' (xs++[x]):=by
    show World.ownsRow _ _ _ _ _ (xs++[x]).length _;simpa using hown
   have hbel3:Below b w w2:=(hbel2.alloc (a0z hlt1) _).grown hgrow (by simp;omega) (fun j hj=>a0z (a0y hints1 j hj).1);clear hown hgrow hints1 hout1 hbel2;go_wp2;go_roundw
   case rel=>exact⟨k+1,xs++[x],by have:=ab HK;omega,by go_num,by have:=ab HX;simp;omega,hints2,by rw[ab hstep];exact hout2,hbel3⟩
   case measure=>simp[intOf];omega
  .
   have hlk:Hid (l.take k=l):=a0u (by omega);clear h hw;obtain⟨va,vc,rfl⟩:∃va vc,u5 = .slice va xs.length vc:=by
    rcases hints.2 with⟨e,h0⟩|⟨g,cp,_,e,_⟩
    . exact⟨none,0,by rw[e,h0]⟩
    . exact⟨_,cp,e⟩
   go_wp2;go_ret;rw[ab hlk]at hout;exact⟨⟨_,rfl⟩,hout,hbel⟩
theorem Iy(b:Nat)(a:Option Addr)(cap:Nat)(l:List (Int×Int))(w0 w:World)(h:nS w0 a l)(g:Below b w0 w)(i:w0.heap.size<=b)(f:lOk l=true)(j:km w b 0 0) :
  Calls prog 132 #[.iface 246 (.pointer (some ⟨b,0,none⟩)),.slice a l.length cap] w fun e w'=>
   (∃v,e = .returned v)/\km w' b (cH l).1 (cH l).2/\Below b w w':=by
 go_enter func132,ntmps132;go_wp2_with fail;refine(FX b a cap l w0 _ h g i f j).mono ?_;rintro e w1 ⟨⟨v,rfl⟩,d,c⟩;go_wp2;go_ret;exact⟨⟨_,rfl⟩,d,c⟩
theorem LD(w:World)(t:TypeId):km (w.alloc (.cells #[.slice none 0 0,.int .i64 0] t)) w.heap.size 0 0:=
 ⟨by decide,.slice none 0 0,⟨by simp,by simp,by simp,by simp,by simp⟩,a00 _ _ _ _⟩
theorem fR(a:Option Addr)(cap:Nat)(l:List (Int×Int))(w:World)(h:nS w a l)(m:l.length<=1000000000) :
  Ds 137 #[.slice a l.length cap] w (.string ⟨(qF l).toArray⟩):=by
 cases b:lOk l
 . have i:=ae (MU b);have g:=uh b;go_enter func137,ntmps137;go_wp2_with (go_at_call 131;refine(gZ _ _ _ _ h m).mono ?_;rintro e w1 ⟨rfl,c⟩;rw[g]);go_ret;exact⟨Fh (a:=[]) (ab i).symm,c⟩
 .
  have i:=ae (gx b);have g:=wm b;have d:bw l=true:=by simp only[lOk,a0n]at b;exact b.1
  obtain⟨s0,_⟩:=Ed d;generalize cm l=sb at *
  clear d;go_enter func137,ntmps137;go_wp2_with fail;refine(gZ _ _ _ _ h m).mono ?_;rintro e w1 ⟨rfl,c⟩;rw[g];clear g;have o:=h.later c;go_wp2_with fail;refine(Iy w1.heap.size a cap l w1 _ o ((a0c _ _).alloc (a0a _) _) (a0a _) b (LD w1 _)).mono ?_;rintro e w2 ⟨⟨v0,rfl⟩,⟨_,v,T,Y⟩,j⟩;have k:=kY Y;obtain⟨va,vc,rfl⟩:=Y.form;obtain⟨k0,q,f0,f1,p⟩:=T;clear q Y;generalize f:(leS (((cH l).2+7)/8) (cH l).1)=res at *
  have n:Hid (res=qF l):=by have h:=ab i;rw[h,←f];exact rfl
  clear f;go_wp2;go_ret;exact⟨Fh (ab n),ai c (((a0c _ _).alloc (a0a _) _).trans j)⟩
theorem wj(q k V W:Nat)(a:V<2 ^ (8*q)):leS (q+k) (V+W*2 ^ (8*q))=leS q V++leS k W:=by
 induction k with
 | zero=>simp[leS,sB q V W (8*q) (a0a _)]
 | succ k ih=>
  rw[show q+(k+1)=(q+k)+1 by omega];simp only[leS];rw[ih,a0L]
  congr 3
  have e:2 ^ (8*(q+k))=2 ^ (8*q)*2 ^ (8*k):=by rw[←a0W];congr 1;omega
  rw[e,←a2i,Nat.add_mul_div_right _ _ (a1r _),a2r a,a0G]
theorem D3(V m:Nat)(l:List (Nat×Nat)):iR (V,m) l=(V+(iR (0,0) l).1*2 ^ m,m+(iR (0,0) l).2):=by
 have key:∀(l:List (Nat×Nat)) (W k:Nat),iR (V+W*2 ^ m,m+k) l=(V+(iR (W,k) l).1*2 ^ m,m+(iR (W,k) l).2):=by
  intro l;induction l with
  | nil=>intro W k;rfl
  | cons p l ih=>
   intro W k;simp only[iR];have e:V+W*2 ^ m+p.1*2 ^ (m+k)=V+(W+p.1*2 ^ k)*2 ^ m:=by
    rw[a1t,a0W,a2u,a1s (2 ^ m)];omega
   rw[e,Nat.add_assoc m k p.2];exact ih _ _
 have:=key l 0 0;simpa using this
theorem rQ(l m:List (Int×Int)):cH (l++m)=((cH l).1+(cH m).1*2 ^ (cH l).2,(cH l).2+(cH m).2):=by
 rw[cH,ot,a0I,mz];exact D3 _ _ _
theorem wU(l m:List (Int×Int)):bw (l++m)=(bw l&&bw m):=by simp[bw]
theorem Fu(f b:List (Int×Int))(d:lOk f=true)(hb:lOk b=true)(l:f.length+b.length<=4000)(i:(cH f).2%8=0):qF (f++b)=qF f++qF b:=by
 have a:bw f=true:=by simp only[lOk,a0n]at d;exact d.1
 have c:bw b=true:=by simp only[lOk,a0n]at hb;exact hb.1
 have h:lOk (f++b)=true:=by
  simp only[lOk,a0n,a2x,wU];exact⟨⟨a,c⟩,by simpa using l⟩
 rw[gx h,gx d,gx hb,gF,gF,gF,rQ];have g:=Nj f a;generalize cH f=F at *
 generalize cH b=B at *
 obtain⟨V,m⟩:=F;obtain⟨W,k⟩:=B;have j:m%8=0:=i;have e:m=8*(m/8):=by omega
 show leS ((m+k+7)/8) (V+W*2 ^ m)=leS ((m+7)/8) V++leS ((k+7)/8) W;rw[show(m+k+7)/8=m/8+(k+7)/8 by omega,show(m+7)/8=m/8 by omega];have:=wj (m/8) ((k+7)/8) V W (by rw[←e];exact g);rw[←e]at this;exact this
theorem JY(V:Nat):leS 4 V=leS 2 (V%65536)++leS 2 (V/65536):=by
 have:=wj 2 2 (V%65536) (V/65536) (a0Y _ (by decide));rw[←this]
 congr 1
 show V=V%65536+V/65536*2 ^ 16;omega
def eR(ws:List Nat):List (Int×Int):=ws.map fun(x:Nat)=>(((x:Nat):Int),(16:Int))
theorem B9{ws:List Nat}(h:∀x∈ws,x<65536)(c:ws.length<=100):lOk (eR ws)=true:=by
 unfold lOk;simp only[a0n,a0w];refine⟨?_,by unfold eR;rw[a0K];omega⟩;unfold bw eR;rw[List.all_map,a1a];intro x b;have a:p2 (16:Int).toNat=65536:=by decide
 have:=h x b;show pOk ((x:Nat):Int) 16=true;exact aS.2 ⟨by omega,by omega,by rw[a];omega⟩
theorem IA{ws:List Nat}(h:∀x∈ws,x<65536)(b:ws.length<=100):qF (eR ws)=ws.flatMap (leS 2):=by
 induction ws with
 | nil=>decide
 | cons x ws ih=>
  have d:x<65536:=h x (by simp);have c:lOk (eR [x])=true:=B9 (fun y a=>by rw[a07.1 a];exact d) (by simp);have h2:lOk (eR ws)=true:=B9 (fun y a=>h y (by simp[a])) (by simp at b;omega);have e:eR (x :: ws)=eR [x]++eR ws:=rfl;have e1:cH (eR [x])=(x,16):=by simp[cH,ot,iR,eR]
  rw[e,Fu _ _ c h2 (by unfold eR;simp at b ⊢;omega) (by rw[e1];exact(by decide:(16:Nat)%8=0)),ih (fun y a=>h y (by simp[a])) (by simp at b;omega),gx c,gF,e1,a0V];show leS ((16+7)/8) x++_=_;rw[show(16+7)/8=2 by decide]
theorem aN(V many:Nat)(w:World)(M:V<1099511627776)(P:many<=10) :
  Ds 45 #[.int .i64 (V:Int),.int .i64 (many:Int)] w (.string ⟨(leS many V).toArray⟩):=by
 obtain⟨i0,H,A,B,C⟩:=a0o Tryz.infoU8;have J:(many:Int)<=10:=by omega
 have p:Hid (aQ (w.alloc (.cells #[] 5)) w.heap.size (.slice (some ⟨w.heap.size,0,none⟩) 0 0) (leS 0 V)):=aQ.lit _ _ (a0a _);have j:Hid (Below w.heap.size w (w.alloc (.cells #[] 5))):=(a0c _ _).alloc (a0a _) _;go_enter func45,ntmps45;go_wp2_with fail
 go_loopw [0,5,6] (fun x v i wr=>∃k:Nat,k<=many/\i = .int .i64 k/\x = .int .i64 ((V/2 ^ (8*k):Nat):Int)/\aQ wr w.heap.size v (leS k V)/\Below w.heap.size w wr) (fun _ _ i _=>many-(intOf i).toNat)
 case atStart=>exact⟨0,a0g _,rfl,by simp,ab p,ab j⟩
 case round=>
  obtain⟨k,O,rfl,rfl,hq,a⟩:=hrel;have e:Hid ((leS k V).length=k):=aF k V;obtain⟨va,vc,rfl⟩:=hq.formN (ab e);clear p j;by_cases I:k<many
  .
   have n:(k:Int)<(many:Int):=by omega
   have N:V/2 ^ (8*k)<=V:=a1V _ _;have s:Hid (leS k V++[UInt8.ofNat (V/2 ^ (8*k)%256)]=leS (k+1) V):=rfl;have m:Hid (V/2 ^ (8*k)/256=V/2 ^ (8*(k+1))):=by show _=_;rw[a2i,show 8*(k+1)=8*k+8 by omega,a0W]
   generalize V/2 ^ (8*k)=x at *
   have K:(x:Int)<=1099511627776:=by omega
   obtain⟨y,hy⟩:∃y,x%256=y:=⟨_,rfl⟩;have u:(x:Int)%256=(y:Int):=by omega
   have L:Int.tmod (x:Int) 256=(y:Int):=by rw[a2b (by omega)];exact u
   have Q:IntKind.u8.wrap (y:Int)=(y:Int):=by simp only[IntKind.wrap,IntKind.bits,IntKind.signed];simp;omega
   have z:((UInt8.ofNat y).toNat:Int)=(y:Int):=by rw[UInt8.toNat_ofNat'];omega
   obtain⟨d,hd⟩:∃d,x/256=d:=⟨_,rfl⟩;have G:(x:Int)/256=(d:Int):=by omega
   rw[hy]at s;rw[hd]at m;have D:Hid (k+1<=maxLen/\(k+1)*1<=140737488355328):=by show _/\_;unfold maxLen;omega
   have r:=ae (hq.own (ab e));have l:=a.size;have h:=ae a;clear hq a hy hd;go_wp2_with (at_builtin;refine a0r _ rfl _ _ 103 rfl w.heap.size 5 i0 (.int .u8 0) 1 1 a0Q H A B C rfl (by decide) _ _ _ rfl (a0k (ab r) _) ⟨wr.heap.size,0,none⟩ 1 1 [.int .u8 (y:Int)] rfl rfl (bE _ _ rfl _ _) (one_byte _) (ab D).1 (ab D).2 (ao l _) ?_;intro v' x2 g c o;clear o);have t:=aC (v:=.slice va k vc) c (ab r) (a0a _) l (ab h);have f:World.ownsRow x2 w.heap.size 5 1 v' (k+1) (da (leS k V)++[.int .u8 ((UInt8.ofNat y).toNat:Int)]):=by rw[z];exact g
   have q:=cq (b:=UInt8.ofNat y) (ab e) f;rw[ab s]at q;clear g f c;go_wp2;go_roundw
   case rel=>exact⟨k+1,by omega,by go_num,by rw[←ab m],q,t⟩
   case measure=>simp[intOf];omega
  .
   obtain rfl:k=many:=by omega
   have n:¬ (k:Int)<(k:Int):=by omega
   have F:=hq.text;have E:=ae a;clear hq a;go_wp2;go_ret;exact⟨rfl,ab E⟩
def cP(ws:List Nat):List Int:=ws.map fun(x:Nat)=>((x:Nat):Int)
theorem Iz(ws:List Nat)(k:Nat)(h:k<ws.length):(cP ws).getD k 0=((ws.getD k 0:Nat):Int):=by
 unfold cP;simp[List.getD,h]
theorem Et(ws:List Nat)(k:Nat)(h:k<ws.length):eR (ws.take (k+1))=eR (ws.take k)++[(((ws.getD k 0:Nat):Int),(16:Int))]:=by
 unfold eR;rw[a1b h,a0I];simp[List.getD,h]
theorem LC(x:Int)(w:World):Ds 138 #[.int .i64 x] w (.agg #[.int .i64 x,.int .i64 16]):=by
 go_enter func138,ntmps138;go_wp2;refine a0F (v:=.agg #[.int .i64 x,.int .i64 16]) (by simp[results,results138,go_sem]) rfl ⟨rfl,?_⟩;exact(a0c _ _).alloc (a0a _) _
theorem Db(a:Option Addr)(cap n:Nat)(ws:List Nat)(w:World)(B:ws.length=n)(h:aZ w a (cP ws))(I:n<=100) :
  Calls prog 129 #[.slice a n cap,.func (.func 138) #[] #[]] w fun e w'=>∃v,e = .returned v/\Pcs w' w.heap.size v (eR ws)/\Below w.heap.size w w':=by
 have O:(n:Int)<=100:=by omega
 have x:=ae B;have M:=ae I;have G:Hid ((cP ws).length=n):=by show _=_;unfold cP;rw[a0K];exact B
 clear B I;obtain⟨i0,N,D,E,F⟩:=a0o Tryz.infoPiece;go_enter func129,ntmps129;go_wp2_with fail
 go_loopw [5,7,10] (fun o _ i wr=>∃k:Nat,k<=n/\i = .int .i64 k/\Pcs wr w.heap.size o (eR (ws.take k))/\Below w.heap.size w wr) (fun _ _ i _=>n-(intOf i).toNat)
 case atStart=>exact⟨0,a0g _,rfl,a00 _ _ _ _,a0c _ _⟩
 case round=>
  obtain⟨k,H,rfl,hq,b⟩:=hrel;by_cases p:k<n
  .
   obtain⟨g,o,rfl,P,r⟩:=(h.later b) (by rw[ab G];omega);have c0:=r k (by rw[ab G];exact p);rw[Iz ws k (by rw[ab x];exact p)]at c0;have C:=ae (Et ws k (by rw[ab x];exact p));have A:Hid ((eR (ws.take k)).length=k):=by show _=_;unfold eR;have:=ab x;simp;omega
   have L:=ae H;clear r H h;generalize ((ws.getD k 0:Nat):Int)=y at *
   have HP:=ae (LC y wr);go_wp2_with fail;refine(ab HP).mono ?_;rintro e x1 ⟨rfl,m⟩;have q:=Pcs.later hq m (a0a _);have c:=ai b m;have j:=c.size;have f:Hid ((eR (ws.take k)).length+1<=maxLen/\((eR (ws.take k)).length+1)*16<=140737488355328):=by
    show _/\_;rw[ab A];have:=ab M;unfold maxLen;omega
   clear hq b m HP;go_wp2_with (at_builtin;refine a0r _ rfl _ _ 182 rfl w.heap.size 185 i0 (.agg #[.int .i64 0,.int .i64 0]) 2 16 a1p N D E F rfl (by decide) _ _ _ rfl (a0k q _) ⟨x1.heap.size,0,none⟩ 1 1 [.int .i64 y,.int .i64 16] rfl rfl (sH x1 _ _ _) (sG _ _) (ab f).1 (ab f).2 (ao j _) ?_;intro v' x2 l d t;clear t);have z:=aC (v:=u5) d q (a0a _) j c;have u:=my l;rw[←ab C]at u;clear l d q;go_wp2;go_roundw
   case rel=>exact⟨k+1,by have:=ab L;omega,by go_num,u,z⟩
   case measure=>simp[intOf];omega
  . have s:ws.take k=ws:=a0u (by rw[ab x];omega);rw[s]at hq;have K:=ae hq;have J:=ae b;clear hq b s;go_wp2;go_ret;exact⟨_,rfl,ab K,ab J⟩
theorem dB(a:Option Addr)(cap n:Nat)(ws:List Nat)(w:World)(l:ws.length=n)(h:aZ w a (cP ws))(k:n<=100)(p:∀x∈ws,x<65536) :
  Ds 103 #[.slice a n cap] w (.string ⟨(ws.flatMap (leS 2)).toArray⟩):=by
 have m:=ae (Db a cap n ws w l h k);have r:=ae (IA p (by omega));have o:(eR ws).length=n:=by unfold eR;rw[a0K];exact l
 have d:=ae o;have s:=ae k;clear l h k p o;go_enter func103,ntmps103;go_wp2_with fail;refine(ab m).mono ?_;rintro e w1 ⟨v,rfl,j,b⟩;obtain⟨a1,c1,rfl⟩:=j.formN (ab d);have g:=fR a1 c1 (eR ws) w1 (j.rowN (ab d)) (by have:=ab d;have:=ab s;omega);rw[ab r,ab d]at g;have i:=ae g;have q:=ae b;clear j b g m;go_wp2_with fail;refine(ab i).mono ?_;rintro e w2 ⟨rfl,c⟩;have f:=ae (ai (ab q) c);clear c;go_wp2;go_ret;exact⟨rfl,ab f⟩
theorem dA(V:Nat)(w:World)(k:V<4294967296) :
  Ds 104 #[.int .i64 (V:Int)] w (.string ⟨(leS 4 V).toArray⟩):=by
 have e1:bits .and .i64 (V:Int) 65535=((V%65536:Nat):Int):=by
  have:=zP (V:Int) (by omega) (by omega);rw[this];omega
 have d:Hid ([V%65536,V/65536].flatMap (leS 2)=leS 4 V):=by
  show _=_;rw[JY];simp
 have hq:V/65536<65536:=by omega
 have f:Hid (aZ (w.alloc (.cells #[.int .i64 ((V%65536:Nat):Int),.int .i64 ((V/65536:Nat):Int)] 3)) (some ⟨w.heap.size,0,none⟩) (cP [V%65536,V/65536])):=by
  intro _;refine⟨w.heap.size,0,rfl,by simp,fun i j=>?_⟩
  match i,j with
  | 0,_=>simp[cP]
  | 1,_=>simp[cP]
 have c:=ae (dB (some ⟨w.heap.size,0,none⟩) 2 2 [V%65536,V/65536] _ rfl (ab f) (by omega) (fun x b=>by
  simp only[a0U,List.mem_nil_iff,a1q]at b;rcases b with rfl|rfl
  . exact a0Y _ (by decide)
  . exact hq))
 rw[ab d]at c;have g:Hid (Below w.heap.size w (w.alloc (.cells #[.int .i64 ((V%65536:Nat):Int),.int .i64 ((V/65536:Nat):Int)] 3))):=(a0c _ _).alloc (a0a _) _;generalize b:V%65536=x at *
 generalize l:V/65536=y at *
 have e2:(V:Int)/65536=(y:Int):=by omega
 clear d f b;go_enter func104,ntmps104;go_wp2_with fail;refine(ab c).mono ?_;rintro e w1 ⟨rfl,a⟩;have h:=ae (ai (ab g) a);clear a;go_wp2;go_ret;exact⟨rfl,ab h⟩
def LP(W:World)(g:Nat)(how st crc pk lg:Nat)(nm:ByteArray):Prop:=W.cell? ⟨g,0,none⟩=some (.int .i64 (how:Nat))/\W.cell? ⟨g,1,none⟩=some (.int .i64 (st:Nat))/\W.cell? ⟨g,2,none⟩=some (.int .i64 (crc:Nat))/\W.cell? ⟨g,3,none⟩=some (.int .i64 (pk:Nat))/\W.cell? ⟨g,4,none⟩=some (.int .i64 (lg:Nat))/\W.cell? ⟨g,5,none⟩=some (.string nm)
def uZ(w:World)(how st crc pk lg:Nat)(nm:ByteArray)(W:World):Prop:=Below w.heap.size w W/\w.heap.size<W.heap.size/\LP W w.heap.size how st crc pk lg nm
theorem uZ.later{W':World}(h:uZ w how st crc pk lg nm W)(hb:Below W.heap.size W W'):uZ w how st crc pk lg nm W':=by
 have a:∀j,W'.cell? ⟨w.heap.size,j,none⟩=W.cell? ⟨w.heap.size,j,none⟩:=fun j=>hb.cell (p:=⟨w.heap.size,j,none⟩) h.2.1;exact⟨h.1.trans (hb.mono (a0z h.2.1)),a0m h.2.1 hb.size,(a 0).trans h.2.2.1,(a 1).trans h.2.2.2.1,(a 2).trans h.2.2.2.2.1,(a 3).trans h.2.2.2.2.2.1,(a 4).trans h.2.2.2.2.2.2.1,(a 5).trans h.2.2.2.2.2.2.2⟩
theorem Ii(W:World)(x y z:Nat):aZ (W.alloc (.cells #[.int .i64 ((x:Nat):Int),.int .i64 ((y:Nat):Int),.int .i64 ((z:Nat):Int)] 3)) (some ⟨W.heap.size,0,none⟩) (cP [x,y,z]):=by
 intro _;refine⟨W.heap.size,0,rfl,by simp,fun i a=>?_⟩
 match i,a with
 | 0,_=>simp[cP]
 | 1,_=>simp[cP]
 | 2,_=>simp[cP]
theorem Ng(W:World)(x y:Nat):aZ (W.alloc (.cells #[.int .i64 ((x:Nat):Int),.int .i64 ((y:Nat):Int)] 3)) (some ⟨W.heap.size,0,none⟩) (cP [x,y]):=by
 intro _;refine⟨W.heap.size,0,rfl,by simp,fun i a=>?_⟩
 match i,a with
 | 0,_=>simp[cP]
 | 1,_=>simp[cP]
def uY(w:World)(how st crc pk lg:Nat)(nm:ByteArray)(W:World)(r0 r1:Option Nat):Prop:=uZ w how st crc pk lg nm W/\(∀g,r0=some g->aZ W (some ⟨g,0,none⟩) (cP [20,0,how]))/\∀g,r1=some g->aZ W (some ⟨g,0,none⟩) (cP [nm.size,0])
theorem uY.later{W':World}{a b:Option Nat}(h:uY w how st crc pk lg nm W a b)(hb:Below W.heap.size W W'):uY w how st crc pk lg nm W' a b:=⟨h.1.later hb,fun g e=>(h.2.1 g e).later hb,fun g e=>(h.2.2 g e).later hb⟩
theorem uY.new0{a:Option Nat}(h:uY w how st crc pk lg nm W none a):uY w how st crc pk lg nm (W.alloc (.cells #[.int .i64 20,.int .i64 0,.int .i64 ((how:Nat):Int)] 3)) (some W.heap.size) a:=by
 have h2:=h.later ((a0c W.heap.size W).alloc (a0a _) (.cells #[.int .i64 20,.int .i64 0,.int .i64 ((how:Nat):Int)] 3));exact⟨h2.1,fun g e=>by cases e;exact Ii W 20 0 how,h2.2.2⟩
theorem uY.new1{a:Option Nat}(h:uY w how st crc pk lg nm W a none):uY w how st crc pk lg nm (W.alloc (.cells #[.int .i64 ((nm.size:Nat):Int),.int .i64 0] 3)) a (some W.heap.size):=by
 have h2:=h.later ((a0c W.heap.size W).alloc (a0a _) (.cells #[.int .i64 ((nm.size:Nat):Int),.int .i64 0] 3));exact⟨h2.1,h2.2.1,fun g e=>by cases e;exact Ng W nm.size 0⟩
def aw(l:List UInt8):ByteArray:=⟨l.toArray⟩
def er(how st crc pk lg n:Nat):ByteArray:=aw ([20,0,how].flatMap (leS 2))++aw (leS 4 st)++aw (leS 4 crc)++aw (leS 4 pk)++aw (leS 4 lg)++aw ([n,0].flatMap (leS 2))
theorem BM(how st d k lg:Nat)(nm:ByteArray)(w:World)(C:how<65536)(z:st<4294967296)(h2:d<4294967296)(A:k<4294967296)(B:lg<4294967296)(D:nm.size<65536) :
  Ds 135 #[.agg #[.int .i64 (how:Nat),.int .i64 (st:Nat),.int .i64 (d:Nat),.int .i64 (k:Nat),.int .i64 (lg:Nat),.string nm]] w (.string (er how st d k lg nm.size)):=by
 have r:prog.follows .mixedOrders=true:=by kernel_rfl
 have s:Hid (∀g W,aZ W (some ⟨g,0,none⟩) (cP [20,0,how])->Ds 103 #[.slice (some ⟨g,0,none⟩) 3 3] W (.string (aw ([20,0,how].flatMap (leS 2))))):=fun g W h=>dB _ 3 3 [20,0,how] W rfl h (by omega) (fun x y=>by simp at y;omega);have t:Hid (∀g W,aZ W (some ⟨g,0,none⟩) (cP [nm.size,0])->Ds 103 #[.slice (some ⟨g,0,none⟩) 2 2] W (.string (aw ([nm.size,0].flatMap (leS 2))))):=fun g W h=>dB _ 2 2 [nm.size,0] W rfl h (by omega) (fun x y=>by simp at y;omega);have n:Hid (∀W,Ds 104 #[.int .i64 (st:Int)] W (.string (aw (leS 4 st)))):=fun W=>dA st W z;have o:Hid (∀W,Ds 104 #[.int .i64 (d:Int)] W (.string (aw (leS 4 d)))):=fun W=>dA d W h2;have p:Hid (∀W,Ds 104 #[.int .i64 (k:Int)] W (.string (aw (leS 4 k)))):=fun W=>dA k W A;have q:Hid (∀W,Ds 104 #[.int .i64 (lg:Int)] W (.string (aw (leS 4 lg)))):=fun W=>dA lg W B;have m:∀l:List UInt8,(aw l).size=l.length:=fun l=>by simp[aw,ByteArray.size]
 have z0:((aw ([20,0,how].flatMap (leS 2))).size:Int)<=100:=by rw[m];simp[aF]
 have z5:((aw ([nm.size,0].flatMap (leS 2))).size:Int)<=100:=by rw[m];simp[aF]
 have z1:((aw (leS 4 st)).size:Int)<=100:=by rw[m,aF];omega
 have z2:((aw (leS 4 d)).size:Int)<=100:=by rw[m,aF];omega
 have z3:((aw (leS 4 k)).size:Int)<=100:=by rw[m,aF];omega
 have z4:((aw (leS 4 lg)).size:Int)<=100:=by rw[m,aF];omega
 unfold er;generalize aw ([20,0,how].flatMap (leS 2))=A0 at *
 generalize aw ([nm.size,0].flatMap (leS 2))=A5 at *
 generalize aw (leS 4 st)=A1 at *
 generalize aw (leS 4 d)=A2 at *
 generalize aw (leS 4 k)=A3 at *
 generalize aw (leS 4 lg)=A4 at *
 have E:(nm.size:Int)<65536:=by omega
 have T0':Hid (uZ w how st d k lg nm (w.alloc (.cells #[.int .i64 (how:Nat),.int .i64 (st:Nat),.int .i64 (d:Nat),.int .i64 (k:Nat),.int .i64 (lg:Nat),.string nm] 95))):=⟨(a0c _ _).alloc (a0a _) _,by simp,by simp,by simp,by simp,by simp,by simp,by simp⟩;clear C z h2 A B D m;go_enter func135,ntmps135;go_wp2_with fail;obtain⟨W0,hW0⟩:∃x,w.alloc (.cells #[.int .i64 (how:Nat),.int .i64 (st:Nat),.int .i64 (d:Nat),.int .i64 (k:Nat),.int .i64 (lg:Nat),.string nm] 95)=x:=⟨_,rfl⟩;rw[hW0]at T0';rw[hW0];have T0:=T0';clear T0' hW0;refine wp_region_held_drew (S:=fun W=>LP W w.heap.size how st d k lg nm) r (ab T0).2.2 (fun c=>?_);refine af 0 (.pointer (some ⟨w.heap.size,0,none⟩)) rfl (by kernel_rfl) (fun _ _ _ h=>h) rfl (fun W a=>by obtain⟨s0,s1,s2,s3,s4,s5⟩:=a;go_simp) c ?_;refine af 1 (.int .i64 (how:Nat)) rfl (by kernel_rfl) (fun _ _ _ h=>h) rfl (fun W a=>by obtain⟨s0,s1,s2,s3,s4,s5⟩:=a;go_simp) c ?_;refine af 4 (.pointer (some ⟨w.heap.size,1,none⟩)) rfl (by kernel_rfl) (fun _ _ _ h=>h) rfl (fun W a=>by obtain⟨s0,s1,s2,s3,s4,s5⟩:=a;go_simp) c ?_;refine af 5 (.int .i64 (st:Nat)) rfl (by kernel_rfl) (fun _ _ _ h=>h) rfl (fun W a=>by obtain⟨s0,s1,s2,s3,s4,s5⟩:=a;go_simp) c ?_;refine af 8 (.pointer (some ⟨w.heap.size,2,none⟩)) rfl (by kernel_rfl) (fun _ _ _ h=>h) rfl (fun W a=>by obtain⟨s0,s1,s2,s3,s4,s5⟩:=a;go_simp) c ?_;refine af 9 (.int .i64 (d:Nat)) rfl (by kernel_rfl) (fun _ _ _ h=>h) rfl (fun W a=>by obtain⟨s0,s1,s2,s3,s4,s5⟩:=a;go_simp) c ?_;refine af 12 (.pointer (some ⟨w.heap.size,3,none⟩)) rfl (by kernel_rfl) (fun _ _ _ h=>h) rfl (fun W a=>by obtain⟨s0,s1,s2,s3,s4,s5⟩:=a;go_simp) c ?_;refine af 13 (.int .i64 (k:Nat)) rfl (by kernel_rfl) (fun _ _ _ h=>h) rfl (fun W a=>by obtain⟨s0,s1,s2,s3,s4,s5⟩:=a;go_simp) c ?_;refine af 16 (.pointer (some ⟨w.heap.size,4,none⟩)) rfl (by kernel_rfl) (fun _ _ _ h=>h) rfl (fun W a=>by obtain⟨s0,s1,s2,s3,s4,s5⟩:=a;go_simp) c ?_;refine af 17 (.int .i64 (lg:Nat)) rfl (by kernel_rfl) (fun _ _ _ h=>h) rfl (fun W a=>by obtain⟨s0,s1,s2,s3,s4,s5⟩:=a;go_simp) c ?_;refine af 20 (.pointer (some ⟨w.heap.size,5,none⟩)) rfl (by kernel_rfl) (fun _ _ _ h=>h) rfl (fun W a=>by obtain⟨s0,s1,s2,s3,s4,s5⟩:=a;go_simp) c ?_;refine af 21 (.string nm) rfl (by kernel_rfl) (fun _ _ _ h=>h) rfl (fun W a=>by obtain⟨s0,s1,s2,s3,s4,s5⟩:=a;go_simp) c ?_;refine af 22 (.int .i64 (nm.size:Nat)) rfl (by kernel_rfl) (fun _ _ _ h=>h) rfl (fun W a=>by obtain⟨s0,s1,s2,s3,s4,s5⟩:=a;go_simp) c ?_;have b:uY w how st d k lg nm W0.drew none none:=⟨⟨(ab T0).1.drew,(ab T0).2.1,(ab T0).2.2⟩,nofun,nofun⟩;generalize W0.drew=W at b c ⊢;refine wpAnyH_ready (rs:=[2,23]) (by kernel_rfl) (by simp) ?_;repeat' first
  | exact AllReadyH.nil
  | refine AllReadyH.cons rfl (fun K f=>?_) ?_
  | (refine ja 5 rfl ?_;go_simp;have b:=b.new0;refine Shut.out f _ _ b.1.2.2 (fun c=>?_);clear f K;generalize W.alloc (.cells #[.int .i64 20,.int .i64 0,.int .i64 ((how:Nat):Int)] 3)=V at b c ⊢;generalize W.heap.size=g at b ⊢;revert V;intro W c b;(first|refine wpAnyH_ready (rs:=[3,23]) (by decide +kernel) (by simp) ?_|refine wpAnyH_ready (rs:=[3]) (by decide +kernel) (by simp) ?_))
  | (refine ja 26 rfl ?_;go_simp;have b:=b.new1;refine Shut.out f _ _ b.1.2.2 (fun c=>?_);clear f K;generalize W.alloc (.cells #[.int .i64 ((nm.size:Nat):Int),.int .i64 0] 3)=V at b c ⊢;generalize W.heap.size=g at b ⊢;revert V;intro W c b;(first|refine wpAnyH_ready (rs:=[2]) (by decide +kernel) (by simp) ?_|refine wpAnyH_ready (rs:=[3]) (by decide +kernel) (by simp) ?_|refine wpAnyH_ready (rs:=[6]) (by decide +kernel) (by simp) ?_|refine wpAnyH_ready (rs:=[10]) (by decide +kernel) (by simp) ?_|refine wpAnyH_ready (rs:=[14]) (by decide +kernel) (by simp) ?_|refine wpAnyH_ready (rs:=[18]) (by decide +kernel) (by simp) ?_|refine wpAnyH_ready (rs:=[24]) (by decide +kernel) (by simp) ?_))
  | (refine ja 6 rfl ?_;go_simp;go_at_call 103;refine(ab s _ _ (b.2.1 _ rfl)).mono ?_;rintro e W ⟨rfl,j⟩;have b:=b.later j;refine Shut.out f _ _ b.1.2.2 (fun c=>?_);clear f K;clear j;(first|refine wpAnyH_ready (rs:=[6,23]) (by decide +kernel) (by simp) ?_|refine wpAnyH_ready (rs:=[6]) (by decide +kernel) (by simp) ?_))
  | (refine ja 9 rfl ?_;go_simp;go_at_call 104;refine(ab n _).mono ?_;rintro e W ⟨rfl,j⟩;have b:=b.later j;refine Shut.out f _ _ b.1.2.2 (fun c=>?_);clear f K;clear j;refine wpAnyH_take (i:=7) (v:=.string (A0++A1)) rfl (by kernel_rfl) (by kernel_rfl) (by kernel_rfl) (fun _ _ _ h=>h) (a0A ⟨by rfl,fun W a=>by go_simp<;>omega⟩) c ?_;(first|refine wpAnyH_ready (rs:=[10,23]) (by decide +kernel) (by simp) ?_|refine wpAnyH_ready (rs:=[10]) (by decide +kernel) (by simp) ?_))
  | (refine ja 13 rfl ?_;go_simp;go_at_call 104;refine(ab o _).mono ?_;rintro e W ⟨rfl,j⟩;have b:=b.later j;refine Shut.out f _ _ b.1.2.2 (fun c=>?_);clear f K;clear j;refine wpAnyH_take (i:=11) (v:=.string (A0++A1++A2)) rfl (by kernel_rfl) (by kernel_rfl) (by kernel_rfl) (fun _ _ _ h=>h) (a0A ⟨by rfl,fun W a=>by go_simp<;>omega⟩) c ?_;(first|refine wpAnyH_ready (rs:=[14,23]) (by decide +kernel) (by simp) ?_|refine wpAnyH_ready (rs:=[14]) (by decide +kernel) (by simp) ?_))
  | (refine ja 17 rfl ?_;go_simp;go_at_call 104;refine(ab p _).mono ?_;rintro e W ⟨rfl,j⟩;have b:=b.later j;refine Shut.out f _ _ b.1.2.2 (fun c=>?_);clear f K;clear j;refine wpAnyH_take (i:=15) (v:=.string (A0++A1++A2++A3)) rfl (by kernel_rfl) (by kernel_rfl) (by kernel_rfl) (fun _ _ _ h=>h) (a0A ⟨by rfl,fun W a=>by go_simp<;>omega⟩) c ?_;(first|refine wpAnyH_ready (rs:=[18,23]) (by decide +kernel) (by simp) ?_|refine wpAnyH_ready (rs:=[18]) (by decide +kernel) (by simp) ?_))
  | (refine ja 21 rfl ?_;go_simp;go_at_call 104;refine(ab q _).mono ?_;rintro e W ⟨rfl,j⟩;have b:=b.later j;refine Shut.out f _ _ b.1.2.2 (fun c=>?_);clear f K;clear j;refine wpAnyH_take (i:=19) (v:=.string (A0++A1++A2++A3++A4)) rfl (by kernel_rfl) (by kernel_rfl) (by kernel_rfl) (fun _ _ _ h=>h) (a0A ⟨by rfl,fun W a=>by go_simp<;>omega⟩) c ?_;(first|refine wpAnyH_ready (rs:=[23]) (by decide +kernel) (by simp) ?_|refine wpAnyH_ready (rs:=[24]) (by decide +kernel) (by simp) ?_))
  | (refine ja 27 rfl ?_;go_simp;go_at_call 103;refine(ab t _ _ (b.2.2 _ rfl)).mono ?_;rintro e W ⟨rfl,j⟩;have b:=b.later j;refine Shut.out f _ _ b.1.2.2 (fun c=>?_);clear f K;clear j;refine wpAnyH_take (i:=25) (v:=.string (A0++A1++A2++A3++A4++A5)) rfl (by kernel_rfl) (by kernel_rfl) (by kernel_rfl) (fun _ _ _ h=>h) (a0A ⟨by rfl,fun W a=>by go_simp<;>omega⟩) c ?_;refine wpAnyH_ready (rs:=[26]) (by kernel_rfl) (by simp) ?_)
  | (refine ja 2 rfl ?_;go_simp;refine Shut.out f _ _ b.1.2.2 (fun c=>?_);clear f K;refine wpAnyH_done (by kernel_rfl) ?_ _;generalize u:A0++A1++A2++A3++A4++A5=AA;go_wp2;go_ret;exact⟨by subst u;rfl,b.1.1⟩)
theorem bp(l:List UInt8):(aw l).size=l.length:=by simp[aw,ByteArray.size]
theorem fU(how st a b lg n:Nat):(er how st a b lg n).size=26:=by
 unfold er;rw[a0R,a0R,a0R,a0R,a0R];simp only[bp,a0V,a2o,a0j,aF,a0S]
def eV(how st crc pk lg:Nat)(nm:ByteArray):ByteArray:=(⟨#[80,75,3,4]⟩:ByteArray)++er how st crc pk lg nm.size++nm
theorem zN(how st b c lg:Nat)(nm i:ByteArray)(w:World)(m:how<65536)(n:st<4294967296)(h2:b<4294967296)(o:c<4294967296)(p:lg<4294967296)(q:nm.size<65536) :
  Ds 99 #[.agg #[.int .i64 (how:Nat),.int .i64 (st:Nat),.int .i64 (b:Nat),.int .i64 (c:Nat),.int .i64 (lg:Nat),.string nm,.string i]] w (.string (eV how st b c lg nm)):=by
 have l:=ae (fun W=>BM how st b c lg nm W m n h2 o p q);have g:prog.follows .mixedOrders=true:=by kernel_rfl
 obtain⟨A,hA⟩:∃A,er how st b c lg nm.size=A:=⟨_,rfl⟩;have s:(A.size:Int)<=1000:=by
  rw[←hA,fU];omega
 have t:(nm.size:Int)<65536:=by omega
 have r:eV how st b c lg nm=(⟨#[80,75,3,4]⟩:ByteArray)++A++nm:=by unfold eV;rw[hA]
 rw[hA]at l;rw[r];have T0':Hid (uZ w how st b c lg nm (w.alloc (.cells #[.int .i64 (how:Nat),.int .i64 (st:Nat),.int .i64 (b:Nat),.int .i64 (c:Nat),.int .i64 (lg:Nat),.string nm,.string i] 97))):=⟨(a0c _ _).alloc (a0a _) _,by simp,by simp,by simp,by simp,by simp,by simp,by simp⟩;clear m n h2 o p q hA r;go_enter func99,ntmps99;go_wp2_with fail;obtain⟨W0,hW0⟩:∃x,w.alloc (.cells #[.int .i64 (how:Nat),.int .i64 (st:Nat),.int .i64 (b:Nat),.int .i64 (c:Nat),.int .i64 (lg:Nat),.string nm,.string i] 97)=x:=⟨_,rfl⟩;rw[hW0]at T0';rw[hW0];have T0:=T0';clear T0' hW0;refine wp_region_held_drew (S:=fun W=>LP W w.heap.size how st b c lg nm) g (ab T0).2.2 (fun d=>?_);refine af 0 (.pointer (some ⟨w.heap.size,0,none⟩)) rfl (by kernel_rfl) (fun _ _ _ h=>h) rfl (fun W a=>by obtain⟨s0,s1,s2,s3,s4,s5⟩:=a;go_simp) d ?_;refine af 1 (.agg #[.int .i64 (how:Nat),.int .i64 (st:Nat),.int .i64 (b:Nat),.int .i64 (c:Nat),.int .i64 (lg:Nat),.string nm]) rfl (by kernel_rfl) (fun _ _ _ h=>h) rfl (fun W a=>by obtain⟨s0,s1,s2,s3,s4,s5⟩:=a;go_simp) d ?_;refine af 4 (.pointer (some ⟨w.heap.size,0,none⟩)) rfl (by kernel_rfl) (fun _ _ _ h=>h) rfl (fun W a=>by obtain⟨s0,s1,s2,s3,s4,s5⟩:=a;go_simp) d ?_;refine af 5 (.pointer (some ⟨w.heap.size,5,none⟩)) rfl (by kernel_rfl) (fun _ _ _ h=>h) rfl (fun W a=>by obtain⟨s0,s1,s2,s3,s4,s5⟩:=a;go_simp) d ?_;refine af 6 (.string nm) rfl (by kernel_rfl) (fun _ _ _ h=>h) rfl (fun W a=>by obtain⟨s0,s1,s2,s3,s4,s5⟩:=a;go_simp) d ?_;have T1:Hid (uZ w how st b c lg nm W0.drew):=⟨(ab T0).1.drew,(ab T0).2.1,(ab T0).2.2⟩;generalize W0.drew=W1 at *
 refine ag 2 (by kernel_rfl) rfl fun K f=>?_;go_simp;go_at_call 135;refine(ab l W1).mono ?_;rintro e W2 ⟨rfl,k⟩;have T2:=ae ((ab T1).later k);refine Shut.out f _ _ (ab T2).2.2 (fun d=>?_);clear f K k;refine af 3 (.string ((⟨#[80,75,3,4]⟩:ByteArray)++A)) rfl (by kernel_rfl) (fun _ _ _ h=>h) rfl (fun W a=>by obtain⟨s0,s1,s2,s3,s4,s5⟩:=a;go_simp<;>omega) d ?_;refine af 7 (.string ((⟨#[80,75,3,4]⟩:ByteArray)++A++nm)) rfl (by kernel_rfl) (fun _ _ _ h=>h) rfl (fun W a=>by obtain⟨s0,s1,s2,s3,s4,s5⟩:=a;go_simp<;>omega) d ?_;refine ag 8 (by kernel_rfl) rfl fun K f=>?_;go_simp;refine Shut.out f _ _ (ab T2).2.2 (fun d=>?_);clear f K;refine wpAnyH_done (by kernel_rfl) ?_ _;generalize j:(⟨#[80,75,3,4]⟩:ByteArray)++A++nm=AA;go_wp2;go_ret;exact⟨by subst j;rfl,(ab T2).1⟩
theorem tk(how st a b lg:Nat)(nm:ByteArray):(eV how st a b lg nm).size=30+nm.size:=by
 unfold eV;rw[a0R,a0R,fU];have:(⟨#[80,75,3,4]⟩:ByteArray).size=4:=rfl;omega
theorem rk(how st a d lg:Nat)(nm b:ByteArray)(w:World)(l:how<65536)(m:st<4294967296)(h2:a<4294967296)(n:d<4294967296)(o:lg<4294967296)(q:nm.size<65536)(s:b.size<=100000) :
  Ds 76 #[.agg #[.int .i64 (how:Nat),.int .i64 (st:Nat),.int .i64 (a:Nat),.int .i64 (d:Nat),.int .i64 (lg:Nat),.string nm,.string b]] w (.string (eV how st a d lg nm++b)):=by
 have i:prog.follows .mixedOrders=true:=by kernel_rfl
 have r:=ae (fun W=>zN how st a d lg nm b W l m h2 n o q);have t:((eV how st a d lg nm).size:Int)<=70000:=by rw[tk];omega
 have u:(b.size:Int)<=100000:=by omega
 generalize eV how st a d lg nm=A at *
 have T0':Hid (uZ w how st a d lg nm (w.alloc (.cells #[.int .i64 (how:Nat),.int .i64 (st:Nat),.int .i64 (a:Nat),.int .i64 (d:Nat),.int .i64 (lg:Nat),.string nm,.string b] 97))/\(w.alloc (.cells #[.int .i64 (how:Nat),.int .i64 (st:Nat),.int .i64 (a:Nat),.int .i64 (d:Nat),.int .i64 (lg:Nat),.string nm,.string b] 97)).cell? ⟨w.heap.size,6,none⟩=some (.string b)):=⟨⟨(a0c _ _).alloc (a0a _) _,by simp,by simp,by simp,by simp,by simp,by simp,by simp⟩,by simp⟩;clear l m h2 n o q s;go_enter func76,ntmps76;go_wp2_with fail;obtain⟨W0,hW0⟩:∃x,w.alloc (.cells #[.int .i64 (how:Nat),.int .i64 (st:Nat),.int .i64 (a:Nat),.int .i64 (d:Nat),.int .i64 (lg:Nat),.string nm,.string b] 97)=x:=⟨_,rfl⟩;rw[hW0]at T0';rw[hW0];have T0:=T0';clear T0' hW0;refine wp_region_held_drew (S:=fun W=>LP W w.heap.size how st a d lg nm/\W.cell? ⟨w.heap.size,6,none⟩=some (.string b)) i ⟨(ab T0).1.2.2,(ab T0).2⟩ (fun f=>?_);refine af 0 (.agg #[.int .i64 (how:Nat),.int .i64 (st:Nat),.int .i64 (a:Nat),.int .i64 (d:Nat),.int .i64 (lg:Nat),.string nm,.string b]) rfl (by kernel_rfl) (fun _ _ _ h=>h) rfl (fun W c=>by obtain⟨⟨s0,s1,s2,s3,s4,s5⟩,s6⟩:=c;go_simp) f ?_;refine af 2 (.pointer (some ⟨w.heap.size,6,none⟩)) rfl (by kernel_rfl) (fun _ _ _ h=>h) rfl (fun W c=>by obtain⟨⟨s0,s1,s2,s3,s4,s5⟩,s6⟩:=c;go_simp) f ?_;refine af 3 (.string b) rfl (by kernel_rfl) (fun _ _ _ h=>h) rfl (fun W c=>by obtain⟨⟨s0,s1,s2,s3,s4,s5⟩,s6⟩:=c;go_simp) f ?_;have T1:Hid (uZ w how st a d lg nm W0.drew/\W0.drew.cell? ⟨w.heap.size,6,none⟩=some (.string b)):=⟨⟨(ab T0).1.1.drew,(ab T0).1.2.1,(ab T0).1.2.2⟩,(ab T0).2⟩;generalize W0.drew=W1 at *
 refine ag 1 (by kernel_rfl) rfl fun K g=>?_;go_simp;go_at_call 99;refine(ab r W1).mono ?_;rintro e W2 ⟨rfl,j⟩;have T2:Hid (uZ w how st a d lg nm W2/\W2.cell? ⟨w.heap.size,6,none⟩=some (.string b)):=⟨(ab T1).1.later j,by rw[j.cell (p:=⟨w.heap.size,6,none⟩) (ab T1).1.2.1];exact(ab T1).2⟩;refine Shut.out g _ _ ⟨(ab T2).1.2.2,(ab T2).2⟩ (fun f=>?_);clear g K j;refine af 4 (.string (A++b)) rfl (by kernel_rfl) (fun _ _ _ h=>h) rfl (fun W c=>by obtain⟨⟨s0,s1,s2,s3,s4,s5⟩,s6⟩:=c;go_simp<;>omega) f ?_;refine ag 5 (by kernel_rfl) rfl fun K g=>?_;go_simp;refine Shut.out g _ _ ⟨(ab T2).1.2.2,(ab T2).2⟩ (fun f=>?_);clear g K;refine wpAnyH_done (by kernel_rfl) ?_ _;generalize k:A++b=AA;go_wp2;go_ret;exact⟨by subst k;rfl,(ab T2).1.1⟩
theorem Ae(l:List UInt8):leS l.length (cG l)=l:=by
 apply a2D
 . rw[aF]
 . intro j a h2;have h:=ET l.length (cG l) j h2;rw[BV]at h;rw[List.getD_eq_getElem?_getD,List.getElem?_eq_getElem a,List.getD_eq_getElem?_getD,List.getElem?_eq_getElem h2]at h;simpa using h
theorem BW(k V:Nat):cG (leS k V)=V%2 ^ (8*k):=by
 induction k with
 | zero=>simp[leS,cG,a1j]
 | succ k ih=>
  simp only[leS];rw[iL,ih,aF];have e:2 ^ (8*(k+1))=2 ^ (8*k)*256:=by rw[a2t,a0W]
  rw[e,Nat.mod_mul]
  congr 2
  simp[cG]
theorem pt(V p k:Nat):V/2 ^ p%2 ^ (k+1)=V/2 ^ p%2 ^ k+V/2 ^ (p+k)%2*2 ^ k:=by
 rw[Au,a2i,←a0W]
def gE(l:List Int):Nat:=(l.map Int.toNat).sum
theorem Bu(a b:List Int):gE (a++b)=gE a+gE b:=by simp[gE]
theorem qP(x:Int)(b:List Int):gE (x :: b)=x.toNat+gE b:=by simp[gE]
def ge(V:Nat):Nat->List Int->List Int
 | _,[]=>[]
 | p,b :: bs=>((V/2 ^ p%2 ^ b.toNat:Nat):Int) :: ge V (p+b.toNat) bs
theorem ww(V p:Nat)(l:List Int):(ge V p l).length=l.length:=by
 induction l generalizing p with
 | nil=>rfl
 | cons b l ih=>simp[ge,ih]
theorem yw(V p:Nat)(a b:List Int):ge V p (a++b)=ge V p a++ge V (p+gE a) b:=by
 induction a generalizing p with
 | nil=>simp[ge,gE]
 | cons x a ih=>simp[ge,ih,qP,Nat.add_assoc]
def eH(l:List Int):Bool:=l.all (fun b=>decide (0<=b)&&decide (b<=16))
def jO(s:List UInt8)(l:List Int):Bool:=eH l&&decide (l.length<=4000)&&decide (s.length=(gE l+7)/8)&&decide (cG s<2 ^ gE l)
def zH(s:List UInt8)(l:List Int):List Int:=if jO s l=true then ge (cG s) 0 l else []
theorem Cq{l:List Int}(h:eH l=true)(k:Nat)(a:k<l.length):0<=l.getD k 0/\l.getD k 0<=16:=by
 have:=a1a.1 h (l.getD k 0) (by simp[List.getD,a]);simpa using this
theorem Nb{l:List Int}(h:eH l=true):gE l<=16*l.length:=by
 induction l with
 | nil=>simp[gE]
 | cons b l ih=>
  have a:(0<=b/\b<=16)/\eH l=true:=by simpa[eH]using h
  have:=ih a.2;rw[qP,a0D];omega
theorem D5(s:List UInt8)(m:Nat)(h:s.length=(m+7)/8):(cG s/2 ^ m%2 ^ ((8-m%8)%8)=0)<->cG s<2 ^ m:=by
 have a:=pN s;have e:8*s.length=m+(8-m%8)%8:=by omega
 rw[e,a0W]at a;have h2:cG s/2 ^ m<2 ^ ((8-m%8)%8):=Nat.div_lt_of_lt_mul a;rw[a1m h2];constructor
 .
  intro b;rcases Nat.div_eq_zero_iff.1 b with h|h
  . have:=a1r m;omega
  . exact h
 . exact a2r
def dD(m:List UInt8):List (Int×Int):=m.map fun b=>((b.toNat:Int),8)
theorem nU(m:List UInt8):(dD m).length=m.length:=by simp[dD]
theorem FN(m:List UInt8):bw (dD m)=true:=by
 simp only[bw,dD,List.all_map,a1a];intro b _;have:=a2I b;have a:p2 (8:Int).toNat=256:=by decide
 have c:pOk (b.toNat:Int) 8=true:=aS.2 ⟨by omega,by omega,by rw[a];omega⟩;exact c
theorem Cw(m:List UInt8):cH (dD m)=(cG m,8*m.length):=by
 induction m with
 | nil=>rfl
 | cons b m ih=>
  have e0:dD (b :: m)=[((b.toNat:Int),(8:Int))]++dD m:=rfl;have e:cH [((b.toNat:Int),(8:Int))]=(b.toNat,8):=by simp[cH,ot,iR]
  have e2:cG (b :: m)=cG [b]+2 ^ (8*1)*cG m:=iL [b] m;have e3:cG [b]=b.toNat:=by simp[cG]
  rw[e0,rQ,ih,e,e2,e3];refine Prod.ext ?_ ?_
  . show b.toNat+cG m*2 ^ 8=b.toNat+2 ^ (8*1)*cG m;rw[a1s]
  . show 8+8*m.length=8*(b :: m).length;rw[a0D];omega
theorem sV(m:List UInt8)(h:m.length<=4000):lOk (dD m)=true:=by
 simp only[lOk,a0n,a2x];exact⟨FN m,by rw[nU];exact h⟩
theorem Cv(m:List UInt8)(h:m.length<=4000):qF (dD m)=m:=by
 rw[gx (sV m h),gF,Cw];show leS ((8*m.length+7)/8) (cG m)=m;rw[show(8*m.length+7)/8=m.length by omega];exact Ae m
def gq(n:Nat):List (Int×Int):=[(1,1),(0,2),(0,5),((n:Int),16),(((65535-n:Nat):Int),16)]
def gN(n:Nat):Nat:=1+n*256+(65535-n)*16777216
theorem zL(n:Nat)(h:n<=65535):lOk (gq n)=true:=by
 have a:p2 (16:Int).toNat=65536:=by decide
 have a1:pOk 1 1=true:=by decide
 have a2:pOk 0 2=true:=by decide
 have a3:pOk 0 5=true:=by decide
 have a4:pOk (n:Int) 16=true:=aS.2 ⟨by omega,by omega,by rw[a];omega⟩;have a5:pOk ((65535-n:Nat):Int) 16=true:=aS.2 ⟨by omega,by omega,by rw[a];omega⟩;simp only[lOk,bw,gq,a1Z,a2M,a1,a2,a3,a4,a5];simp
theorem vX(n:Nat):cH (gq n)=(gN n,40):=by
 simp[cH,ot,gq,iR,gN]
theorem Gg(n:Nat)(h:n<=65535):qF (gq n)=leS 5 (gN n):=by
 rw[gx (zL n h),gF,vX];simp only[Nat.reduceAdd,Nat.reduceDiv]
theorem zM(n:Nat):(cH (gq n)).2%8=0:=by rw[vX];simp only[Nat.reduceMod]
theorem Ib(L:List UInt8)(h:L.length<=300):qF (gq L.length++dD L)=leS 5 (gN L.length)++L:=by
 rw[Fu (gq L.length) (dD L) (zL _ (by omega)) (sV L (by omega)) (by rw[nU];simp[gq];omega) (zM _),Gg _ (by omega),Cv L (by omega)]
def jB(L:List UInt8):List UInt8:=if L.length<=300 then leS 5 (gN L.length)++L else []
theorem LF(n:Nat)(h:n<=300):n ^^^ 65535=65535-n:=by
 apply Nat.eq_of_testBit_eq;intro i;have e1:(65535:Nat)=2 ^ 16-1:=rfl;have e2:65535-n=2 ^ 16-(n+1):=by omega
 rw[e2,Nat.testBit_two_pow_sub_succ (by omega),Nat.testBit_xor,e1,Nat.testBit_two_pow_sub_one];by_cases a:i<16
 . simp[a]
 . have:n.testBit i=false:=Nat.testBit_lt_two_pow (a0m (show n<2 ^ 16 by omega) (a0N (by omega) (by omega)));simp[a,this]
def KB(b:Nat)(w w':World):Prop:=Below b w w'/\bV b w w'
theorem KB.refl(b:Nat)(w:World):KB b w w:=⟨a0c _ _,bV.refl _ _⟩
theorem KB.trans{w1 w2:World}(h:KB b w w1)(k:KB b w1 w2):KB b w w2:=⟨h.1.trans k.1,h.2.trans k.2⟩
theorem KB.drew(h:KB b w w'):KB b w w'.drew:=⟨h.1.drew,h.2.drew⟩
theorem KB.set(h:KB b w w')(o:Nat)(u:Value):KB b w (w'.setCell ⟨b,o,none⟩ u):=⟨ah h.1 (a0a _) u,h.2.set u⟩
theorem KB.below{w'':World}(h:KB b w w')(hb:Below w'.heap.size w' w'')(c:b<=w'.heap.size):KB b w w'':=
 ⟨h.1.trans (hb.mono c),h.2.trans ⟨hb.size,fun k a _ _=>hb.block k a⟩⟩
theorem Bf{v2:Value}{x:UInt8}(T2:Three W2 b v v1 v2)(Y2:Bys W2 b v l)(h:KB b w W2)
  (e:Below (b+1) W2 WA) (d:bV b W2 WA) (f:Bys WA b v l) (c:w'.ownsRow (b+1) 5 1 v' (l.length+1) (da l++[.int .u8 (x.toNat:Int)])) (a:WA.grownBy w' v.ownBlock) :
  (∃g cap,v' = .slice (some ⟨g,0,none⟩) (l.length+1) cap)/\Three w' b v v1 v2/\Bys w' b v' (l++[x])/\KB b w w':=by
 obtain⟨i,h2,j,k⟩:=uD T2 Y2 h.1 e c a;exact⟨i,h2,j,k,h.2.trans (d.grown f a)⟩
theorem KS(b V m:Nat)(num bits:Int)(w:World)(h:Out w b V m)(n0:0<=num)(n1:num<65536)(b0:0<=bits)(b1:bits<=16)(hm:m<=100000) :
  Calls prog 119 #[.pointer (some ⟨b,0,none⟩),.int .i64 num,.int .i64 bits] w fun e w'=>e = .returned (.tuple #[]) /\
   Out w' b (V+num.toNat%p2 bits.toNat*p2 m) (m+bits.toNat)/\KB b w w':=by
 obtain⟨n,rfl⟩:=a0t n0;obtain⟨c,rfl⟩:=a0t b0;rw[a0p,a0p];obtain⟨i0,hi,ba,bb,bc⟩:=a0o Tryz.infoU8;go_enter func119,ntmps119;go_wp2
 go_loopw [1,6] (fun x i wr=>∃k:Nat,k<=c/\i = .int .i64 k/\x = .int .i64 (n/p2 k:Nat)/\Out wr b (V+n%p2 k*p2 m) (m+k)/\KB b w wr) (fun _ i _=>c-(intOf i).toNat)
 case atStart=>exact⟨0,a0g _,rfl,by simp[p2],by simpa[p2,a1j]using h,KB.refl _ _⟩
 case round=>
  obtain⟨k,hk,rfl,rfl,z,a⟩:=hrel;by_cases b5:k<c
  .
   have B:=ae (yr V n k m);have g:=ae (zK n k);have a7:n/p2 k<=n:=a1V _ _;obtain⟨hV,v,s,G⟩:=z;obtain⟨sa,scap,rfl⟩:=G.form;have a6:=sy (V+n%p2 k*p2 m) (m+k) hV;generalize V+n%p2 k*p2 m=V1 at *
   generalize W:m+k=m1 at *
   have hx:n/p2 k%2<=1:=by omega
   have al:((n/p2 k:Nat):Int)%2=((n/p2 k%2:Nat):Int):=by omega
   have be:((n/p2 k:Nat):Int)<65536:=by omega
   have a8:p2 (m1%8)<=128:=pw (m1%8) 7 (by omega);have O:n/p2 k%2*p2 (m1%8)<=1*p2 (m1%8):=a17 _ hx;have y:((n/p2 k%2:Nat):Int)*((p2 (m1%8):Nat):Int)=((n/p2 k%2*p2 (m1%8):Nat):Int):=by simp
   have q:=AR V1 m1 (n/p2 k%2) hV hx;have d:=AQ V1 m1 (n/p2 k%2) hV hx;have ac:m1%8<8:=a0Y _ (by omega);have l:m1<=100016:=by omega
   have Q:(leS (m1/8) V1).length=m1/8:=aF _ _;generalize n/p2 k=nk at *
   generalize a9:nk%2=x at *
   generalize a2:V1/p2 (8*(m1/8))=L at *
   generalize ad:m1%8=r at *
   generalize N:p2 r=P at *
   generalize a3:x*P=X at *
   have a0:=ae N;have K:=ae W;have a1:=ae ad;have E:=ae q;have C:=ae d;clear W a2 ad N a3 hV q d a9 hx a7;obtain⟨k0,H,I,f0,f1,f2,F⟩:=s;have s:Hid (Three wr b _ _ _):=⟨k0,H,I,f0,f1,f2,F⟩;have b6:(r:Int)<8:=by omega
   have bn:(L:Int)<128:=by omega
   have bs:(X:Int)<=128:=by omega
   have S:(k:Int)<(c:Int):=by omega
   have bl:=ae ac;have D:=ae l;have Hk:=ae hk;have an:Hid (IntKind.i64.wrap ((L:Int)+IntKind.i64.wrap ((nk:Int).tmod 2*(P:Int)))=(L:Int)+(X:Int)):=by
    show IntKind.i64.wrap ((L:Int)+IntKind.i64.wrap ((nk:Int).tmod 2*(P:Int)))=(L:Int)+(X:Int);rw[a2b (by omega),al,y,bK (X:Int) (by omega) (by omega),bK ((L:Int)+(X:Int)) (by omega) (by omega)]
   clear ac l a8 O a6 hk hm;go_wp2_with fail;go_cut[]from 7 to 62 (fun wc=>wc=(wr.setCell ⟨b,1,none⟩ (.int .i64 ((L:Int)+(X:Int)))).drew)
   case first=>
    go_region_with (go_at_call 163;refine(fu _ _ (by omega)).mono ?_;rintro e w' ⟨rfl,rfl⟩;rw[a0p,ab a0])
    all_goals
     go_wp2_with fail
     go_meet
     exact by rw[ab an]
   case rest=>
    have T1:=((ab s).set1 (.int .i64 ((L:Int)+(X:Int)))).drew;have Y1:=(G.set (o:=1) (.int .i64 ((L:Int)+(X:Int)))).drew;have B1:KB b w _:=(a.set 1 (.int .i64 ((L:Int)+(X:Int)))).drew;rw[←hcut]at T1 Y1 B1;clear hcut G a s k0 H I f0 f1 f2 F y al;have T1':=ae T1;obtain⟨k0,H,I,f0,f1,f2,F⟩:=T1;by_cases aa:(r:Int)=7
    .
     have A:r=7:=by omega
     obtain⟨o1,o2,o3,o4⟩:=ab C A;have O1:=ae o1;have O2:=ae o2;have O3:=ae o3;have O4:=ae o4;have M:L+X<256:=by omega
     have a5:=ae (oO (L+X) M);have b4:IntKind.u8.wrap ((L:Int)+(X:Int))=(L:Int)+(X:Int):=by
      rw[IntKind.wrap_u8'];omega
     subst A;clear o1 o2 o3 o4 aa M;have T2:=(ab T1').set2 (.int .i64 8);have Y2:=Y1.set (o:=2) (.int .i64 8);have B2:KB b w _:=B1.set 2 (.int .i64 8);have U:=ae Q;clear Q;go_wp2_with fail;generalize wc.setCell ⟨b,2,none⟩ (.int .i64 8)=W2 at *
     clear k0 H I f0 f1 f2 T1' Y1 B1;have T2':=ae T2;obtain⟨k0,H,I,f0,f1,f2,a4⟩:=T2;have R:Hid (((UInt8.ofNat (L+X)).toNat:Int)=(L:Int)+(X:Int)):=by
      show((UInt8.ofNat (L+X)).toNat:Int)=(L:Int)+(X:Int);rw[ab a5];omega
     have T:(leS (m1/8) V1).length<=20000:=by have:=ab U;have:=ab D;omega
     have J:=ae T;clear T;go_cut[]from 7 to 62 (fun wc2=>∃v',Three wc2 b v' (.int .i64 ((L:Int)+(X:Int))) (.int .i64 8)/\Bys wc2 b v' (leS (m1/8) V1++[UInt8.ofNat (L+X)])/\KB b w wc2)
     case first=>
      go_region_law (refine aL rfl (.tmp 47) (.tmp 53) 103 rfl (b+1) 5 i0 (.int .u8 0) 1 1 a0Q hi ba bb bc rfl (by decide) _ _ _ (by simp[Act.eval]) (Y2.alloc _) ⟨W2.heap.size,0,none⟩ 1 1 [.int .u8 ((L:Int)+(X:Int))] (by simp[Act.eval]) rfl (by intro j u hj;match j,hj with | 0,hj=>simp at hj;subst hj;simp[Addr.add]) (by intro u hu;simp at hu;subst hu;rfl) (by have:=ab J;unfold maxLen;omega) (by have:=ab J;omega) (by simp;omega) ?_;intro v' w' p f Z;clear Z;rw[←ab R]at p;obtain⟨⟨g',bd,rfl⟩,T3,Y3,B3⟩:=Bf (ab T2') Y2 B2 (by first|exact(a0c _ _).alloc (by omega) _|exact((a0c _ _).alloc (by omega) _).drew) (by first|exact(bV.refl _ _).alloc _|exact((bV.refl _ _).alloc _).drew) (by first|exact Y2.alloc _|exact(Y2.alloc _).drew) p f;clear p f;have T3':=ae T3;obtain⟨q0,q1,q2,e0,e1,e2,b2⟩:=T3)
      all_goals
       go_wp2_with fail
       go_meet
       exact⟨_,(ab T3').set0 _,Y3.set _,B3.set _ _⟩
     case rest=>
      obtain⟨v',T4,Y4,B4⟩:=hcut;clear k0 H I f0 f1 f2 T2' Y2 B2 a4;obtain⟨va,vc,rfl⟩:=Y4.form;have T4':=ae T4;obtain⟨k0,H,I,f0,f1,f2,b3⟩:=T4;go_wp2;go_roundw
      case rel=>
       refine⟨k+1,by have:=ab Hk;omega,by go_num,by rw[←ab g];go_num,?_,(B4.set _ _).set _ _⟩;rw[ab B,show m+(k+1)=m1+1 by have:=ab K;omega];refine⟨ab O1,.slice va (leS (m1/8) V1++[UInt8.ofNat (L+X)]).length vc,?_,?_⟩
       . rw[ab O2,ab O3];exact((ab T4').set1 _).set2 _
       . rw[ab O4];exact(Y4.set _).set _
      case measure=>simp[intOf];omega
    .
     have bk:((r:Int)+1 == 8)=false:=by simp;omega
     have t:r<7:=by omega
     obtain⟨o1,o2,o3⟩:=ab E t;have O1:=ae o1;have O2:=ae o2;have O3:=ae o3;have Y:Hid ((m1+1)%8=r+1):=by show(m1+1)%8=r+1;have:=ab a1;omega
     clear o1 o2 o3 t aa;go_wp2;go_roundw
     case rel=>
      refine⟨k+1,by have:=ab Hk;omega,by go_num,by rw[←ab g];go_num,?_,B1.set _ _⟩;rw[ab B,show m+(k+1)=m1+1 by have:=ab K;omega];refine⟨ab O1,.slice sa (leS (m1/8) V1).length scap,?_,?_⟩
      . rw[ab O2,ab Y];exact(ab T1').set2 _
      . rw[ab O3];exact Y1.set _
     case measure=>simp[intOf];omega
  .
   have S:k=c:=by omega
   subst S;go_wp2
   go_end0
   exact⟨rfl,z,a⟩
theorem lG(b V m:Nat)(w:World)(h:Out w b V m)(d:m<=90000) :
  Calls prog 120 #[.pointer (some ⟨b,0,none⟩)] w fun e w'=>e = .returned (.tuple #[])/\Out w' b V (8*((m+7)/8))/\Below b w w':=by
 have j:=ae h;obtain⟨k,v,u,n⟩:=h;obtain⟨k0,o,x,f0,f1,f2,q⟩:=u;by_cases l:m%8=0
 .
  have g:((m%8:Nat):Int)=0:=by omega
  have s:Hid (8*((m+7)/8)=m):=by show _=_;omega
  clear l k n k0 o d;go_enter func120,ntmps120;go_wp2
  go_end0
  exact⟨rfl,by rw[ab s];exact ab j,a0c _ _⟩
 .
  have g:(0:Int)<((m%8:Nat):Int):=by omega
  have t:((m%8:Nat):Int)<8:=by omega
  have a:Hid (m+(8-m%8)=8*((m+7)/8)):=by show _=_;omega
  have i:Hid ((8-((m%8:Nat):Int)).toNat=8-m%8):=by show(8-((m%8:Nat):Int)).toNat=8-m%8;omega
  have f:=ae d;clear l k n k0 o d;generalize ((m%8:Nat):Int)=r at *
  go_enter func120,ntmps120;go_wp2_with fail;refine(py b V m 0 (8-r) _ (ab j) (by omega) (by omega) (by omega) (by omega) (by have:=ab f;omega)).mono ?_;rintro e w1 ⟨rfl,c,hb⟩;rw[ab i]at c;simp only[Int.toNat_zero,Nat.zero_mod,Nat.zero_mul,a1J]at c;rw[ab a]at c;have p:=ae c;clear c;go_wp2
  go_end0
  exact⟨rfl,ab p,hb⟩
theorem kP(s:ByteArray):s.data.toList.length=s.size:=by simp
theorem L9(l:List UInt8)(s:ByteArray):(⟨l.toArray⟩:ByteArray)++s=⟨(l++s.data.toList).toArray⟩:=by
 apply ByteArray.ext;rw[a2f];apply Array.ext';simp
theorem zY(s:ByteArray)(w:World)(A:s.size<=300) :
  Ds 92 #[.string s] w (.string ⟨(leS 5 (gN s.size)++s.data.toList).toArray⟩):=by
 have E:(s.size:Int)<=300:=by omega
 have B:=ae (ym w 173);have m:Hid (Below w.heap.size w (w.alloc (.cells #[.slice none 0 0,.int .i64 0,.int .i64 0] 173))):=(a0c _ _).alloc (a0a _) _;have q:=ae A;clear A;go_enter func92,ntmps92;go_wp2_with fail;refine(py _ 0 0 1 1 _ (ab B) (by omega) (by omega) (by omega) (by omega) (by omega)).mono ?_;rintro e x1 ⟨rfl,r,d⟩;go_wp2_with fail;refine(py _ _ _ 0 2 _ r (by omega) (by omega) (by omega) (by omega) (by omega)).mono ?_;rintro e x2 ⟨rfl,h2,f⟩;have a:Out x2 w.heap.size 1 3:=h2;clear r h2;go_wp2_with fail;refine(lG _ _ _ _ a (by omega)).mono ?_;rintro e x3 ⟨rfl,t,g⟩;have b:Out x3 w.heap.size 1 8:=t;have n:=ae (((ab m).trans d).trans (f.trans g));clear a t d f g;go_wp2_with fail;refine(py _ _ _ (s.size:Int) 16 _ b (by omega) (by omega) (by omega) (by omega) (by omega)).mono ?_;rintro e x4 ⟨rfl,u,h⟩;clear b;go_wp2_with fail;refine(py _ _ _ (65535-(s.size:Int)) 16 _ u (by omega) (by omega) (by omega) (by omega) (by omega)).mono ?_;rintro e x5 ⟨rfl,x,i⟩;have z:1+((s.size:Int).toNat%p2 (16:Int).toNat*p2 8)+((65535-(s.size:Int)).toNat%p2 (16:Int).toNat*p2 (8+(16:Int).toNat))=gN s.size:=by
  have e16:p2 (16:Int).toNat=65536:=by decide
  have e8:p2 8=256:=by decide
  have e24:p2 (8+(16:Int).toNat)=16777216:=by decide
  rw[e16,e8,e24];unfold gN;have:=ab q;rw[a0p,show(65535-(s.size:Int)).toNat=65535-s.size by omega,a1m (by omega),a1m (by omega)]
 have l:Out x5 w.heap.size (gN s.size) 40:=by rw[←z];exact x
 obtain⟨_,v,T,Y⟩:=l;have j:=kY Y;have o:=ae ((ab n).trans (h.trans i));obtain⟨k0,F,G,f0,f1,f2,D⟩:=T;have k:leS (40/8) (gN s.size)=leS 5 (gN s.size):=rfl;rw[k]at j;have p:=ae (L9 (leS 5 (gN s.size)) s);clear u x z h i Y F G k;have c:=aF 5 (gN s.size);generalize y:leS 5 (gN s.size)=P at j p c;have HP:=ae y;have C:¬ 9223372036854775807<P.length+s.size:=by have:=ab q;omega
 clear y c;go_wp2;go_ret;exact⟨by rw[ab HP,←ab p];rfl,ab o⟩
theorem j7(k:Int)(w:World) :
  Calls prog 139 #[.int .i64 k] w fun e w'=>e = .returned (.slice (some ⟨w.heap.size,0,none⟩) 2 2)/\w'=w.alloc (.cells #[.int .i64 1,.int .i64 1,.int .i64 k,.int .i64 2] 185):=by
 go_enter func139,ntmps139;go_wp2;go_ret;exact⟨rfl,rfl⟩
theorem M5(w:World)(a b c d e f:Value)(t:TypeId)(g:Nat)(i:w.heap.size=g):∀(j:Nat) (u:Value),[a,b,c,d,e,f][j]?=some u->(w.alloc (.cells #[a,b,c,d,e,f] t)).cell? ((⟨g,0,none⟩:Addr).add j)=some u:=by
 subst i;intro j u h
 match j,h with
 | 0,h=>simp at h;subst h;simp[Addr.add]
 | 1,h=>simp at h;subst h;simp[Addr.add]
 | 2,h=>simp at h;subst h;simp[Addr.add]
 | 3,h=>simp at h;subst h;simp[Addr.add]
 | 4,h=>simp at h;subst h;simp[Addr.add]
 | 5,h=>simp at h;subst h;simp[Addr.add]
theorem M4(a b c d e f:Int):∀u∈[Value.int .i64 a,.int .i64 b,.int .i64 c,.int .i64 d,.int .i64 e,.int .i64 f],u.oneCell'=true:=by
 intro u g;simp at g;rcases g with rfl|rfl|rfl|rfl|rfl|rfl<;>rfl
theorem Lk(s:ByteArray)(i:Nat)(h:i<s.size):s.data.toList.take (i+1)=s.data.toList.take i++[s[i]]:=by
 have a:=kP s;rw[List.take_add_one,List.getElem?_eq_getElem (by omega)];simp;rfl
theorem yZ(m:List UInt8)(b:UInt8):dD m++[((b.toNat:Int),(8:Int))]=dD (m++[b]):=by simp[dD]
theorem FP(s:ByteArray)(w:World):∃(c:Nat) (x:World) (cs:Array Value) (f:Nat×Nat),(convert 9 103 (.string s)).run prog w = .ok (.slice (some ⟨w.heap.size,0,none⟩) s.size c) x/\Below w.heap.size w x/\x.heap[w.heap.size]?=some (.cells cs 5 f)/\∀i (h:i<s.size),cs[i]?=some (.int .u8 (s[i].toNat:Int)):=by
 refine⟨_,_,bytesRow s (grownCap w s.size 0 5),((bytesRow s (grownCap w s.size 0 5)).size,(bytesRow s (grownCap w s.size 0 5)).size+1),run_bytes_of_string w _ _ _ s a2F a0Q a2E,?_,?_,?_⟩
 . exact((a0c _ w).drew).alloc (by simp) _
 . exact Array.getElem?_push_size
 . intro i h;exact bytesRow_at s (grownCap w s.size 0 5) i h
theorem KZ{a:Array Value}{t:TypeId}{f:Nat×Nat}(h:w.heap[b]?=some (.cells a t f))(c:a[i]?=some v):w.cell? ⟨b,i,none⟩=some v:=by
 unfold World.cell?;rw[h];exact c
theorem vj(s:ByteArray)(w:World)(U:s.size<=300) :
  Ds 108 #[.string s] w (.string ⟨(leS 5 (gN s.size)++s.data.toList).toArray⟩):=by
 obtain⟨i0,C,H,I,J⟩:=a0o Tryz.infoPiece;have ac:(s.size:Int)<=300:=by omega
 have hI:¬ (300:Int)<(s.size:Int):=by omega
 obtain⟨N,hN⟩:∃N:Nat,65535-s.size=N:=⟨_,rfl⟩;have hx:bits .xor .i64 (s.size:Int) 65535=(N:Int):=by
  have:=rl s.size 65535 (by omega) (by omega);rw[LF s.size U,hN]at this;exact this
 have HH:Hid (gq s.size=[(1,1),(0,2)]++[(0,5),((s.size:Int),16),((N:Int),16)]):=by show _=_;unfold gq;rw[hN];rfl
 have P:Hid ((w.alloc (.cells #[.int .i64 1,.int .i64 1,.int .i64 0,.int .i64 2] 185)).ownsRow w.heap.size 185 2 (.slice (some ⟨w.heap.size,0,none⟩) 2 2) 2 [.int .i64 1,.int .i64 1,.int .i64 0,.int .i64 2]):=a05 w #[.int .i64 1,.int .i64 1,.int .i64 0,.int .i64 2] 2 (a0a _) (by unfold maxLen;omega) rfl;have K:Hid (Below w.heap.size w (w.alloc (.cells #[.int .i64 1,.int .i64 1,.int .i64 0,.int .i64 2] 185))):=(a0c _ _).alloc (a0a _) _;have E:=ae (Ib s.data.toList (by rw[kP];exact U));have O:=ae (kP s);have bd:Hid (2+3<=maxLen/\(2+3)*16<=140737488355328):=by show _/\_;unfold maxLen;omega
 clear U hN;go_enter func108,ntmps108;go_wp2_with fail;refine(j7 0 w).mono ?_;rintro e x1 ⟨rfl,r⟩;have x:=ae (show x1.ownsRow w.heap.size 185 2 (.slice (some ⟨w.heap.size,0,none⟩) 2 2) 2 [.int .i64 1,.int .i64 1,.int .i64 0,.int .i64 2] by rw[r];exact ab P);have u:=ae (show Below w.heap.size w x1 by rw[r];exact ab K);have n:=(ab u).size;clear r;go_wp2_with (at_builtin;refine a0r _ rfl _ _ 182 rfl w.heap.size 185 i0 (.agg #[.int .i64 0,.int .i64 0]) 2 16 a1p C H I J rfl (by decide) (.slice (some ⟨w.heap.size,0,none⟩) 2 2) _ _ rfl (a0k (ab x) _) ⟨x1.heap.size,0,none⟩ 3 3 [.int .i64 0,.int .i64 5,.int .i64 (s.size:Nat),.int .i64 16,.int .i64 (N:Nat),.int .i64 16] rfl rfl (M5 _ _ _ _ _ _ _ _ _ rfl) (M4 _ _ _ _ _ _) (ab bd).1 (ab bd).2 (ao n _) ?_;intro v' x2 c a f;clear f;obtain⟨c3,x3,cs,fz,R,o,B,A⟩:=FP s x2);have j:Below w.heap.size w x2:=aC (v:=.slice (some ⟨w.heap.size,0,none⟩) 2 2) a (ab x) (a0a _) n (ab u);have g:Pcs x2 w.heap.size v' (gq s.size):=by rw[ab HH];exact c
 have F:=ae (g.later o (a0a _));have L:=ae (ai j o);have M:Hid (∀W,bm 5 x3 W->∀i (C:i<s.size),W.cell? ⟨x2.heap.size,i,none⟩=some (.int .u8 (s[i].toNat:Int))):=fun W h i C=>KZ (h _ _ _ B) (A i C);generalize x2.heap.size=G at *
 obtain⟨va,vc,rfl⟩:=(ab F).form;have S:Hid ((gq s.size).length=5):=rfl;clear c a j g R o A B
 go_loopw [4,6,23] (fun v _ i wr=>∃k:Nat,k<=s.size/\i = .int .i64 k/\Pcs wr w.heap.size v (gq s.size++dD (s.data.toList.take k))/\bm 5 x3 wr/\Below w.heap.size w wr) (fun _ _ i _=>s.size-(intOf i).toNat)
 case atStart=>exact⟨0,a0g _,rfl,by simpa[dD]using ab F,bm.refl _ _,ab L⟩
 case round=>
  obtain⟨k,hk,rfl,hq,l,d⟩:=hrel;have b:Hid ((gq s.size++dD (s.data.toList.take k)).length=5+k):=by
   show _=_;rw[a0j,ab S,nU,a0s,ab O];omega
  obtain⟨Y,Z,rfl⟩:=hq.formN (ab b);by_cases p:k<s.size
  .
   have aa:(k:Int)<(s.size:Int):=by omega
   have Q:=ab M wr l k p;have X:(s[k].toNat:Int)<256:=by have:=a2I s[k];omega
   have V:Hid (gq s.size++dD (s.data.toList.take k)++[((s[k].toNat:Int),(8:Int))]=gq s.size++dD (s.data.toList.take (k+1))):=by show _=_;rw[a0L,yZ,Lk s k p]
   have t:Hid (5+k+1<=maxLen/\(5+k+1)*16<=140737488355328):=by show _/\_;unfold maxLen;omega
   have q:=ae (hq.own (ab b));have z:=d.size;have m:=ae (a0b d l);clear hq d l;go_wp2_with (at_builtin;refine a0r _ rfl _ _ 182 rfl w.heap.size 185 i0 (.agg #[.int .i64 0,.int .i64 0]) 2 16 a1p C H I J rfl (by decide) (.slice Y (5+k) Z) _ _ rfl (a0k (ab q) _) ⟨wr.heap.size,0,none⟩ 1 1 [.int .i64 (s[k].toNat:Int),.int .i64 8] rfl rfl (sH _ _ _ _) (sG _ _) (ab t).1 (ab t).2 (ao z _) ?_;intro v' y2 c a f;clear f);have j:=aC (v:=.slice Y (5+k) Z) a (ab q) (a0a _) z (ab m).1;have g:=Hh (ab b) c;rw[ab V]at g;have D:=((ab m).2.alloc (.cells #[.int .i64 (s[k].toNat:Int),.int .i64 8] 185)).grown (a0k (ab q) _) (by decide) a;clear c a;go_wp2;go_roundw
   case rel=>exact⟨k+1,by omega,by go_num,g,D,j⟩
   case measure=>simp[intOf];omega
  .
   obtain rfl:k=s.size:=by omega
   have y:Hid (s.data.toList.take s.size=s.data.toList):=a0u (by rw[ab O];exact a0a _);rw[ab y]at hq b;have T:Hid (qF (gq s.size++dD s.data.toList)=leS 5 (gN s.size)++s.data.toList):=by have:=ab E;rw[ab O]at this;exact this
   have HP:=ae (fR Y Z (gq s.size++dD s.data.toList) wr (hq.rowN (ab b)) (by rw[ab b];omega));rw[ab b,ab T]at HP;clear hq hk p l;go_wp2_with fail;refine(ab HP).mono ?_;rintro e y1 ⟨rfl,hy⟩;go_wp2;go_ret;exact⟨rfl,ai d hy⟩
theorem qt(s:ByteArray)(w:World)(b:s.size<=1048576) :
  Ds 108 #[.string s] w (.string ⟨(jB s.data.toList).toArray⟩):=by
 by_cases a:s.size<=300
 .
  have e:jB s.data.toList=leS 5 (gN s.size)++s.data.toList:=by unfold jB;rw[kP,a0e a]
  rw[e];exact vj s w a
 .
  have c:(300:Int)<(s.size:Int):=by omega
  have e:jB s.data.toList=[]:=by unfold jB;rw[kP,a0d a]
  rw[e];clear b a e;go_enter func108,ntmps108;go_wp2;go_ret;exact⟨rfl,a0c _ _⟩
def wd(l:List UInt8)(i k:Nat):Nat:=cG ((l.drop i).take k)
theorem Fx(l:List UInt8)(i k:Nat):wd l i k<2 ^ (8*k):=by
 unfold wd;refine a0m (pN _) (a0N (by decide) ?_);rw[a0s];omega
theorem iS(l:List UInt8)(i:Nat):wd l i 2<65536:=Fx l i 2
theorem eQ(l:List UInt8)(i:Nat):wd l i 4<4294967296:=Fx l i 4
theorem ff(h:i+k<=l.length):((l.drop i).take k).length=k:=by
 rw[a0s,a04];omega
theorem im(h:i+k<=l.length):leS k (wd l i k)=(l.drop i).take k:=by
 have:=Ae ((l.drop i).take k);rw[ff h]at this;exact this
theorem On(k:Nat)(h:i+j<=l.length):wd l i (j+k)=wd l i j+2 ^ (8*j)*wd l (i+j) k:=by
 unfold wd;rw[a3d,iL,ff h,a1R]
theorem OT(h:i+2<=l.length):wd l i 4=wd l i 2+65536*wd l (i+2) 2:=On (j:=2) 2 h
theorem rR{v:Nat}(h:i+k<=l.length)(a:v<2 ^ (8*k)):wd l i k=v<->(l.drop i).take k=leS k v:=by
 constructor
 . intro e;rw[←e,im h]
 . intro e;unfold wd;rw[e,BW,a1m a]
theorem Iu(h:i+k<=l.length):cG l/2 ^ (8*i)%2 ^ (8*k)=wd l i k:=by
 have e1:cG l=cG (l.take i)+2 ^ (8*i)*cG (l.drop i):=by
  have a:=iL (l.take i) (l.drop i);rw[a1n,a0s,a1h (by omega)]at a;exact a
 have l1:cG (l.take i)<2 ^ (8*i):=by
  have:=pN (l.take i);rw[a0s,a1h (by omega)]at this;exact this
 have e2:cG (l.drop i)=wd l i k+2 ^ (8*k)*cG ((l.drop i).drop k):=by
  have a:=iL ((l.drop i).take k) ((l.drop i).drop k);rw[a1n,ff h]at a;exact a
 rw[e1,Nat.add_mul_div_left _ _ (a1r _),a2r l1,a0G,e2,Nat.add_mul_mod_self_left,a1m (Fx l i k)]
theorem uG(V b:Nat):∀(n p j:Nat),j<n->(ge V p (List.replicate n ((b:Nat):Int))).getD j 0=((V/2 ^ (p+b*j)%2 ^ b:Nat):Int)
 | 0,_,_,h=>by omega
 | n+1,p,0,_=>by simp[List.replicate_succ,ge]
 | n+1,p,j+1,h=>by
  rw[List.replicate_succ];simp only[ge,a2v];rw[uG V b n _ j (by omega),a0p,show p+b+b*j=p+b*(j+1) by rw[a2t];omega]
theorem xM(h:30<=l.length):jO (l.take 30) (List.replicate 15 16)=true:=by
 have e1:gE (List.replicate 15 16)=240:=by decide
 have e2:(l.take 30).length=30:=by rw[a0s];omega
 have e3:eH (List.replicate 15 16)=true:=by decide
 have e4:=pN (l.take 30);rw[e2]at e4;unfold jO;rw[e1,e2,e3];simpa using e4
theorem Dj(h:30<=l.length)(j:Nat)(b:j<15):(zH (l.take 30) (List.replicate 15 16)).getD j 0=((wd l (2*j) 2:Nat):Int):=by
 unfold zH;rw[a0e (xM h)];have a:=uG (cG (l.take 30)) 16 15 0 j b;rw[show((16:Nat):Int)=16 from rfl]at a;rw[a];have e2:(l.take 30).length=30:=by rw[a0s];omega
 have h2:=Iu (l:=l.take 30) (i:=2*j) (k:=2) (by omega);rw[show 0+16*j=8*(2*j) by omega,show(16:Nat)=8*2 from rfl,h2]
 congr 1
 unfold wd;rw[a3P,a3e,a1h (by omega)]
theorem JF(h:30<=l.length):(zH (l.take 30) (List.replicate 15 16)).length=15:=by
 unfold zH;rw[a0e (xM h),ww,a0x]
def oa(l:List UInt8):Bool:=decide (wd l 0 4=67324752)&&(decide (wd l 4 2=20)&&(decide (wd l 6 2=0)&&decide (wd l 28 2=0)))
theorem DX(l:List UInt8)(n:Nat):l.take (30+n)=(l.drop 0).take 4++((l.drop 4).take 2++((l.drop 6).take 2++((l.drop 8).take 2++((l.drop 10).take 4++((l.drop 14).take 4++((l.drop 18).take 4++((l.drop 22).take 4++((l.drop 26).take 2++((l.drop 28).take 2++(l.drop 30).take n))))))))):=by
 have st:∀i k m,(l.drop i).take (k+m)=(l.drop i).take k++(l.drop (i+k)).take m:=fun i k m=>by rw[a3d,a1R]
 rw[←st 28 2 n,←st 26 2 _,←st 22 4 _,←st 18 4 _,←st 14 4 _,←st 10 4 _,←st 8 2 _,←st 6 2 _,←st 4 2 _,←st 0 4 _,a2k]
 congr 1
 omega
theorem tp(how st a b lg:Nat)(nm:ByteArray):(eV how st a b lg nm).data.toList=leS 4 67324752++(leS 2 20++(leS 2 0++(leS 2 how++(leS 4 st++(leS 4 a++(leS 4 b++(leS 4 lg++(leS 2 nm.size++(leS 2 0++nm.data.toList))))))))):=by
 have e:leS 4 67324752=[80,75,3,4]:=by decide +kernel
 rw[e];unfold eV er aw;simp
theorem JG(h:30+wd l 26 2<=l.length)(b:nm.data.toList=(l.drop 30).take (wd l 26 2)) :
  (eV (wd l 8 2) (wd l 10 4) (wd l 14 4) (wd l 18 4) (wd l 22 4) nm).data.toList.isPrefixOf l=oa l:=by
 have c:nm.size=wd l 26 2:=by
  have:=congrArg List.length b;rw[ff h]at this;simpa using this
 have a:(eV (wd l 8 2) (wd l 10 4) (wd l 14 4) (wd l 18 4) (wd l 22 4) nm).data.toList.length=30+wd l 26 2:=by
  rw[tp,b];simp only[a0j,aF,ff h];omega
 rw[a2a,List.isPrefixOf_iff_prefix,List.prefix_iff_eq_take,a,DX,tp,c,b,
  im (i:=8) (k:=2) (by omega),im (i:=10) (k:=4) (by omega),im (i:=14) (k:=4) (by omega),im (i:=18) (k:=4) (by omega),im (i:=22) (k:=4) (by omega),im (i:=26) (k:=2) (by omega)]
 simp only[oa,a0n,a0w];rw[rR (i:=0) (k:=4) (by omega) (by decide),rR (i:=4) (k:=2) (by omega) (by decide),rR (i:=6) (k:=2) (by omega) (by decide),rR (i:=28) (k:=2) (by omega) (by decide)];constructor
 . intro e;obtain⟨e1,e⟩:=a14 e (by rw[aF,ff (by omega)]);obtain⟨e2,e⟩:=a14 e (by rw[aF,ff (by omega)]);obtain⟨e3,e⟩:=a14 e (by rw[aF,ff (by omega)]);have e:=a2g (a2g (a2g (a2g (a2g (a2g e)))));obtain⟨e4,_⟩:=a14 e (by rw[aF,ff (by omega)]);exact⟨e1.symm,e2.symm,e3.symm,e4.symm⟩
 . rintro⟨e1,e2,e3,e4⟩;rw[e1,e2,e3,e4]
theorem Nk(k:Nat)(h:i<l.length):wd l i (k+1)=(l.getD i 0).toNat+256*wd l (i+1) k:=by
 have e:(l.drop i).take (k+1)=l[i] :: (l.drop (i+1)).take k:=by rw[a3m h,List.take_succ_cons]
 unfold wd;rw[e,List.getD_eq_getElem?_getD,List.getElem?_eq_getElem h];simp only[cG,a1x]
theorem Oo{a b:List UInt8}(k:Nat)(h:a.length=m):wd (a++b) (m+i) k=wd b i k:=by
 unfold wd;rw[←h,List.drop_append,List.drop_eq_nil_of_le (by omega),a1G,a10]
theorem Nm(b:List UInt8)(h:V<2 ^ (8*k)):wd (leS k V++b) 0 k=V:=by
 unfold wd;rw[a2k,a13 (by rw[aF];exact a0a _),a0u (by rw[aF];exact a0a _),BW,a1m h]
attribute [local go_sem ↓] Go.wp_at_zero Go.wp_at_succ
theorem Kr(V p k:Nat)(h:k<=16):V/2 ^ p%2 ^ k<65536:=by
 have a:V/2 ^ p%2 ^ k<2 ^ k:=a0Y _ (a1r k);have h2:2 ^ k<=2 ^ 16:=a0N (by omega) h;omega
theorem sE(k:Nat)(h:k<=16):p2 k<=65536:=by
 have h2:2 ^ k<=2 ^ 16:=a0N (by omega) h;have a:p2 k=2 ^ k:=rfl;omega
theorem ig(b p c:Nat)(s:ByteArray)(w:World)(h:Rdr w b s p)(A:s.size<=2000000)(u:c<=16) :
  Calls prog 159 #[.pointer (some ⟨b,0,none⟩),.int .i64 (c:Int)] w fun e w'=>e = .returned (.int .i64 (aj s/2 ^ p%2 ^ c:Nat))/\Rdr w' b s (p+c)/\av b w w':=by
 have D:=ae A;have F:(c:Int)<=16:=by omega
 have B:=ae u;clear A u;go_enter func159,ntmps159;go_wp2_with fail
 go_loopw [5,6] (fun n i wr=>∃k:Nat,k<=c/\i = .int .i64 k/\n = .int .i64 (aj s/2 ^ p%2 ^ k:Nat)/\Rdr wr b s (p+k)/\av b w wr) (fun _ i _=>c-(intOf i).toNat)
 case atStart=>exact⟨0,a0g _,rfl,by simp[a1j],h,av.refl _ _⟩
 case round=>
  obtain⟨k,v,rfl,rfl,q,d⟩:=hrel;clear h;have C:=ae v;by_cases H:k<c
  .
   have G:(k:Int)<(c:Int):=by omega
   have a:k<=16:=by have:=ab B;omega
   have t:Hid (aj s/2 ^ p%2 ^ (k+1)=aj s/2 ^ p%2 ^ k+aj s/2 ^ (p+k)%2*p2 k):=pt (aj s) p k;have m:=Kr (aj s) p k a;have I:aj s/2 ^ (p+k)%2<=1:=by omega
   have o:=sE k a;have f:=ae (lz b (p+k) s wr q (ab D));have j:=ae (fun W=>MQ k (p2 k) W (by omega) rfl);generalize aj s/2 ^ p%2 ^ k=n at *
   generalize aj s/2 ^ (p+k)%2=x at *
   generalize p2 k=PW at *
   have g:x*PW<=65536:=by rcases (show x=0∨x=1 by omega)with e|e<;>subst e<;>omega
   have e1:IntKind.i64.wrap ((x:Int)*(PW:Int))=((x*PW:Nat):Int):=by rw[←a1v];exact bK _ (by omega) (by omega)
   have e1':((x:Int)*(PW:Int))=((x*PW:Nat):Int):=by rw[←a1v]
   have z:(n:Int)<65536:=by omega
   have y:((x*PW:Nat):Int)<=65536:=by omega
   generalize E:x*PW=M at *
   clear E a I o m g v q;go_wp2_with fail;refine(ab f).mono ?_;rintro e x1 ⟨rfl,r,l⟩;go_wp2_with fail;refine(ab j _).mono ?_;rintro e x2 ⟨rfl,rfl⟩;go_wp2;go_roundw
   case rel=>exact⟨k+1,by omega,by go_num,by rw[ab t];go_num,r,d.trans l⟩
   case measure=>simp[intOf];omega
  .
   obtain rfl:k=c:=by have:=ab C;omega
   go_wp2;go_ret;exact⟨rfl,q,d⟩
theorem rest_step(V p j:Nat):(V/2 ^ p%2 ^ (j+1)=0)<->(V/2 ^ p%2 ^ j=0/\V/2 ^ (p+j)%2=0):=by
 rw[pt];have:=a1r j;constructor
 .
  intro h;have a:=Nat.eq_zero_of_add_eq_zero_right h;have h2:=Nat.eq_zero_of_add_eq_zero_left h;rcases Nat.mul_eq_zero.1 h2 with b|b
  . exact⟨a,b⟩
  . omega
 . rintro⟨a,h2⟩;rw[a,h2];simp
theorem yx(b p:Nat)(s:ByteArray)(w:World)(h:Rdr w b s p)(J:s.size<=2000000)(T:p<=8*s.size) :
  Calls prog 118 #[.pointer (some ⟨b,0,none⟩)] w fun e w'=>e = .returned (.bool (decide (aj s/2 ^ p%2 ^ ((8-p%8)%8)=0)))/\Rdr w' b s (p+(8-p%8)%8)/\av b w w':=by
 have N:=ae J;have E:(8-p%8)%8<=7:=by omega
 have F:(p+(8-p%8)%8)%8=0:=by omega
 have y:p+(8-p%8)%8<=8*s.size:=by omega
 have f:∀j,j<(8-p%8)%8->(p+j)%8≠0:=by omega
 have V:(s.size:Int)<=2000000:=by omega
 generalize (8-p%8)%8=c at *
 have B:=ae y;clear J T y;go_enter func118,ntmps118;go_wp2_with fail
 go_loopw [3] (fun n wr=>∃k m:Nat,k<=c/\n = .int .i64 (m:Nat)/\m<=k/\(m=0<->aj s/2 ^ p%2 ^ k=0)/\Rdr wr b s (p+k)/\av b w wr) (fun _ wr=>c+p-(match wr.cell? ⟨b,1,none⟩with|some (.int _ i)=>i.toNat|_=>0))
 case atStart=>exact⟨0,0,a0g _,rfl,a0a _,by simp[a1j],h,av.refl _ _⟩
 case round=>
  obtain⟨k,m,I,rfl,v,u,z,d⟩:=hrel;clear h;have P:=z.at (by have:=ab B;omega);obtain⟨c0,c1,c2,f0,f1,f2,Q⟩:=P;have M:=ae I;have r:=ae u;have U:((p+k:Nat):Int)<=16000000:=by have:=ab B;omega
  clear u;by_cases g:k<c
  .
   have S:¬ ((p+k:Nat):Int)%8=0:=by have:=f k g;omega
   have G:=ae (rest_step (aj s) p k);have K:aj s/2 ^ (p+k)%2<=1:=by omega
   have t:=ae (lz b (p+k) s wr z (ab N));generalize aj s/2 ^ (p+k)%2=x at *
   have W:(x:Int)<=1:=by omega
   have R:(m:Int)<=7:=by omega
   have L:=ae K;have A:=ae v;have q:=ae g;have C:=ae (show p+k<8*s.size by have:=ab B;omega);clear f K I v g z F E;generalize a:p+k=pk at *
   have o:=ae a;clear a;go_wp2_with fail;refine(ab t).mono ?_;rintro e x1 ⟨rfl,l,D⟩;go_wp2;go_roundw
   case rel=>exact⟨k+1,m+x,ab q,by go_num,by have:=ab A;have:=ab L;omega,by rw[ab G,←ab r];omega,by rw[←ab o]at l;exact l,d.trans D⟩
   case measure=>
    have O:=(l.at (by have:=ab C;omega)).2.1;rw[O,c1];have:=ab o;have:=ab q;simp;omega
  .
   obtain rfl:k=c:=by have:=ab M;omega
   have X:((p+k:Nat):Int)%8=0:=by omega
   generalize a:p+k=pk at *
   go_wp2;go_ret;refine⟨ak ?_,by rw[a];exact z,d⟩;rw[show decide (aj s/2 ^ p%2 ^ k=0)=decide (m=0)from decide_eq_decide.2 (ab r).symm];rcases a2m m with H|H
   . subst H;rfl
   . rw[a0h (by omega)];first|(exact a0h (by omega))|(exact beq_false_of_ne (by omega))|(exact(by omega:False).elim)
end Go.Proofs.YtchidddpplangaaGreatDoor
namespace Go.Proofs.YtchidddpplangaaGreatDoor
open Go.Proofs.Tryz
open Go.RowKit Corb
variable {b p:Nat}{s:ByteArray}{w:World}
theorem Box.keep1{w':World}{P:Nat}{x y:Int}(h:Box w P x y)(a:av b w w')(hb:P≠b):Box w' P x y:=by
 unfold Box at *
 rw[a.2 P (Array.getElem?_eq_some_iff.1 h).1 hb];exact h
theorem MJ(n x k M:Nat)(d:n<p2 k)(g:x<=1)(c:k<=16)(a:x*p2 k=M):bits .or .i64 (n:Int) (M:Int)=((n+M:Nat):Int):=by
 have f:=sE k c;have b:M<=65536:=by
  rcases (show x=0∨x=1 by omega)with e|e<;>subst e<;>omega
 rw[lk n M (by omega) (by omega)]
 congr 1
 rw[Nat.or_comm];rw[nat_join k M n (by rw[←a];exact Nat.mul_mod_left _ _) d];omega
theorem uF(b p c:Nat)(num:Int)(s:ByteArray)(w:World)(h:Rdr w b s p)(B:s.size<=2000000)(z:c<=16) :
  Calls prog 243 #[.pointer (some ⟨b,0,none⟩),.agg #[.int .i64 num,.int .i64 (c:Int)]] w fun e w'=>e = .returned (.int .i64 (aj s/2 ^ p%2 ^ c:Nat))/\Rdr w' b s (p+c)/\av b w w':=by
 have F:=ae B;have G:(c:Int)<=16:=by omega
 have D:=ae z;have q:=h.lt;have y:=h.alloc (.cells #[.int .i64 num,.int .i64 (c:Int)] 185);have j:av b w (w.alloc (.cells #[.int .i64 num,.int .i64 (c:Int)] 185)):=(av.refl _ _).alloc (by omega) _;clear B z h;go_enter func243,ntmps243;go_wp2_with fail
 go_loopw [5,6,9] (fun n _ i wr=>∃k:Nat,k<=c/\i = .int .i64 k/\n = .int .i64 (aj s/2 ^ p%2 ^ k:Nat)/\Rdr wr b s (p+k)/\av b w wr) (fun _ _ i _=>c-(intOf i).toNat)
 case atStart=>exact⟨0,a0g _,rfl,by simp[a1j],y,j⟩
 case round=>
  obtain⟨k,A,rfl,rfl,t,d⟩:=hrel;clear y j;have E:=ae A;by_cases q:k<c
  .
   have H:(k:Int)<(c:Int):=by omega
   have a:k<=16:=by have:=ab D;omega
   have v:Hid (aj s/2 ^ p%2 ^ (k+1)=aj s/2 ^ p%2 ^ k+aj s/2 ^ (p+k)%2*p2 k):=pt (aj s) p k;have m:aj s/2 ^ p%2 ^ k<p2 k:=a0Y _ (a1r k);have C:aj s/2 ^ (p+k)%2<=1:=by omega
   have r:=sE k a;have g:=ae (qG b (p+k) s wr t (ab F));have f:=j9 k;generalize aj s/2 ^ p%2 ^ k=n at *
   generalize aj s/2 ^ (p+k)%2=x at *
   have I:=MJ n x k (x*p2 k) m C a rfl;have l:x*p2 k<=65536:=by rcases (show x=0∨x=1 by omega)with e|e<;>rw[e]<;>omega
   have e1':(x:Int)*2 ^ k=((x*p2 k:Nat):Int):=by rw[a1v,f]
   have e1:IntKind.i64.wrap ((x:Int)*2 ^ k)=((x*p2 k:Nat):Int):=by rw[e1'];exact bK _ (by omega) (by omega)
   generalize x*p2 k=M at *
   have e2:IntKind.i64.wrap (M:Int)=(M:Int):=bK _ (by omega) (by omega);have J:(k:Int)<=16:=by omega
   clear a C r l A t m f;go_wp2_with fail;refine(ab g).mono ?_;rintro e x1 ⟨rfl,u,o⟩;go_wp2;go_roundw
   case rel=>exact⟨k+1,by omega,by go_num,by rw[ab v];go_num,u,d.trans o⟩
   case measure=>simp[intOf];omega
  .
   obtain rfl:k=c:=by have:=ab E;omega
   go_wp2;go_ret;exact⟨rfl,t,d⟩
theorem MI(m x:Nat)(a:m<=1)(b:x<=1):∃y:Nat,bits .or .i64 (m:Int) (x:Int)=(y:Int)/\y<=1/\(y=0<->m=0/\x=0):=by
 refine⟨m ||| x,lk m x (by omega) (by omega),?_,?_⟩
 . rcases (show m=0∨m=1 by omega)with e|e<;>rcases (show x=0∨x=1 by omega)with f|f<;>subst e<;>subst f<;>decide
 . rcases (show m=0∨m=1 by omega)with e|e<;>rcases (show x=0∨x=1 by omega)with f|f<;>subst e<;>subst f<;>decide
theorem rF(b p:Nat)(s:ByteArray)(w:World)(h:Rdr w b s p)(M:s.size<=2000000)(W:p<=8*s.size) :
  Calls prog 133 #[.pointer (some ⟨b,0,none⟩)] w fun e w'=>e = .returned (.bool (decide (aj s/2 ^ p%2 ^ ((8-p%8)%8)=0)))/\Rdr w' b s (p+(8-p%8)%8)/\av b w w':=by
 have Q:=ae M;have H:(8-p%8)%8<=7:=by omega
 have I:(p+(8-p%8)%8)%8=0:=by omega
 have z:p+(8-p%8)%8<=8*s.size:=by omega
 have f:∀j,j<(8-p%8)%8->(p+j)%8≠0:=by omega
 have Y:(s.size:Int)<=2000000:=by omega
 generalize (8-p%8)%8=c at *
 have E:=ae z;clear M W z;go_enter func133,ntmps133;go_wp2_with fail
 go_loopw [3] (fun n wr=>∃k m:Nat,k<=c/\n = .int .i64 (m:Nat)/\m<=1/\(m=0<->aj s/2 ^ p%2 ^ k=0)/\Rdr wr b s (p+k)/\av b w wr) (fun _ wr=>c+p-(match wr.cell? ⟨b,1,none⟩with|some (.int _ i)=>i.toNat|_=>0))
 case atStart=>exact⟨0,0,a0g _,rfl,by omega,by simp[a1j],h,av.refl _ _⟩
 case round=>
  obtain⟨k,m,L,rfl,v,u,C,d⟩:=hrel;clear h;have S:=C.at (by have:=ab E;omega);obtain⟨c0,c1,c2,f0,f1,f2,T⟩:=S;have P:=ae L;have r:=ae u;have X:((p+k:Nat):Int)<=16000000:=by have:=ab E;omega
  clear u;by_cases g:k<c
  .
   have U:¬ ((p+k:Nat):Int)%8=0:=by have:=f k g;omega
   have J:=ae (rest_step (aj s) p k);have N:aj s/2 ^ (p+k)%2<=1:=by omega
   have t:=ae (qG b (p+k) s wr C (ab Q));generalize aj s/2 ^ (p+k)%2=x at *
   obtain⟨y,V,B,A⟩:=MI m x v N;have O:=ae A;have D:=ae B;have q:=ae g;have F:=ae (show p+k<8*s.size by have:=ab E;omega);clear f N L v g C I H A B;generalize a:p+k=pk at *
   have o:=ae a;clear a;go_wp2_with fail;refine(ab t).mono ?_;rintro e x1 ⟨rfl,l,G⟩;go_wp2;go_roundw
   case rel=>exact⟨k+1,y,ab q,rfl,ab D,by rw[ab J,←ab r];exact ab O,by rw[←ab o]at l;exact l,d.trans G⟩
   case measure=>
    have R:=(l.at (by have:=ab F;omega)).2.1;rw[R,c1];have:=ab o;have:=ab q;simp;omega
  .
   obtain rfl:k=c:=by have:=ab P;omega
   have Z:((p+k:Nat):Int)%8=0:=by omega
   generalize a:p+k=pk at *
   go_wp2;go_ret;refine⟨ak ?_,by rw[a];exact C,d⟩;rw[show decide (aj s/2 ^ p%2 ^ k=0)=decide (m=0)from decide_eq_decide.2 (ab r).symm];rcases a2m m with K|K
   . subst K;rfl
   . rw[a0h (by omega)];first|(exact a0h (by omega))|(exact beq_false_of_ne (by omega))|(exact(by omega:False).elim)
def dJ(s:ByteArray)(p k:Nat):Int:=if p+k<=s.size then((wd s.data.toList p k:Nat):Int)else -1
theorem gw{k:Nat}(h:p+k<=s.size):dJ s p k=((wd s.data.toList p k:Nat):Int):=a0e h
theorem yi{k:Nat}(h:¬ p+k<=s.size):dJ s p k = -1:=a0d h
theorem I6(s:ByteArray)(i:Nat)(h:i<s.size):s.data.toList.getD i 0=s[i]:=by
 have a:i<s.data.toList.length:=by simpa using h
 rw[List.getD_eq_getElem?_getD,List.getElem?_eq_getElem a];rfl
theorem Nn(s:ByteArray){i:Nat}(k:Nat)(h:i<s.size):wd s.data.toList i (k+1)=256*wd s.data.toList (i+1) k+s[i].toNat:=by
 rw[Nk k (by simpa using h),I6 s i h,a2s]
theorem IB{X:Nat}{b:UInt8}(a:(X:Int)<16777216):wrap64 (256*(X:Int)+wrap64 (b.toNat:Int))=((256*X+b.toNat:Nat):Int):=by
 have:=b.toNat_lt;simp only[wrap64];omega
theorem dx(s:ByteArray)(p k:Nat)(w:World)(y:p<=4000000)(v:k<=4)(C:(s.size:Int)<=4611686018427387904) :
  Ds 23 #[.string s,.int .i64 (p:Int),.int .i64 (k:Int)] w (.int .i64 (dJ s p k)):=by
 have h:(k:Int)<=4:=by omega
 have z:(0:Int)<=(p:Int):=by omega
 have g:(0:Int)<=(k:Int):=by omega
 by_cases c:p+k<=s.size
 .
  rw[gw c];have d:(p:Int)+(k:Int)<=(s.size:Int):=by omega
  have r:=ae c;clear c;go_enter func23,ntmps23;go_wp2_with fail
  go_loopw [7,8] (fun x i wr=>∃q j:Nat,q+j=k/\i = .int .i64 ((q:Int)-1)/\x = .int .i64 ((wd s.data.toList (p+q) j:Nat):Int)/\Below w.heap.size w wr) (fun _ i _=>(intOf i+1).toNat)
  case atStart=>exact⟨k,0,rfl,rfl,by simp[wd,cG],a0c _ _⟩
  case round=>
   obtain⟨q,j,e,rfl,rfl,b⟩:=hrel;have a:=ae b;clear b;rcases q with _|q
   .
    obtain rfl:j=k:=by omega
    go_wp2;go_ret;exact⟨rfl,ab a⟩
   .
    have l:p+q<s.size:=by have:=ab r;omega
    have o:=ae (Nn s j l);have u:wd s.data.toList (p+q+1) j<16777216:=a0m (Fx _ _ _) (by
     have:8*j<=24:=by omega
     exact a0E (a0N (by decide) this) (by decide))
    have e1:((q+1:Nat):Int)-1=(q:Int):=by omega
    have e2:p+(q+1)=p+q+1:=rfl;rw[e1,e2];generalize wd s.data.toList (p+q+1) j=X at *
    have f:(X:Int)<16777216:=by omega
    have t:=ae e;have A:(p:Int)+(q:Int)<(s.size:Int):=by omega
    have m:0<=(p:Int)+(q:Int):=by omega
    have n:(p:Int)+(q:Int)<=4611686018427387904:=by omega
    have B:(q:Int)<=4:=by omega
    clear u e1 e2 e d h g v y;go_wp2;go_roundw
    case rel=>exact⟨q,j+1,by have:=ab t;omega,by go_num,by rw[ab o,IB f],ab a⟩
    case measure=>simp[intOf]
 .
  rw[yi c];have d:(s.size:Int)<(p:Int)+(k:Int):=by omega
  clear c;go_enter func23,ntmps23;go_wp2;go_ret;exact⟨rfl,a0c _ _⟩
theorem Gs(s:ByteArray)(p:Int)(w:World)(a:p<0) :
  Ds 23 #[.string s,.int .i64 p,.int .i64 2] w (.int .i64 (-1)):=by
 go_enter func23,ntmps23;go_wp2;go_ret;exact⟨rfl,a0c _ _⟩
def fm(w:World)(b:Nat)(s:ByteArray)(p:Nat):Prop:=Three w b (.string s) (.int .i64 (min p (8*s.size):Nat)) (.bool true)
theorem fm.before(h:fm w b s p)(a:p<8*s.size):Three w b (.string s) (.int .i64 (p:Int)) (.bool true):=by
 unfold fm at h;rwa[a1h (by omega)]at h
theorem fm.next(h:Three w b (.string s) (.int .i64 ((p:Int)+1)) (.bool true))(a:p<8*s.size):fm w b s (p+1):=by
 unfold fm;rwa[a1h (by omega)]
theorem fm.past(h:fm w b s p)(a:8*s.size<=p):Three w b (.string s) (.int .i64 (8*s.size:Nat)) (.bool true):=by
 unfold fm at h;rwa[a20 (by omega)]at h
theorem fm.bad(h:Three w b (.string s) (.int .i64 (8*s.size:Nat)) (.bool true))(a:8*s.size<=p):fm w b s (p+1):=by
 unfold fm;rwa[a20 (by omega)]
theorem fm.at(h:fm w b s p)(a:p<=8*s.size):Three w b (.string s) (.int .i64 (p:Int)) (.bool true):=by
 unfold fm at h;rwa[a1h (by omega)]at h
theorem fm.kept{w':World}(h:fm w b s p)(hb:Below (b+1) w w'):fm w' b s p:=Three.kept h hb
theorem fm.lt(h:fm w b s p):b<w.heap.size:=h.2.2.2.2.2.2
theorem fm.cut(h:fm w b s p):∃q,q<=8*s.size/\fm w b s q:=⟨min p (8*s.size),a3b _ _,by unfold fm at h ⊢;rw[a1h (a3b p (8*s.size))];exact h⟩
attribute [local go_sem ↓] Go.wp_at_zero Go.wp_at_succ
theorem sQ(b p:Nat)(s:ByteArray)(w:World)(h:fm w b s p)(r:s.size<=2000000) :
  Calls prog 158 #[.pointer (some ⟨b,0,none⟩)] w fun e w'=>e = .returned (.int .i64 (aj s/2 ^ p%2:Nat))/\fm w' b s (p+1)/\av b w w':=by
 have u:(s.size:Int)<=2000000:=by omega
 by_cases g:p<8*s.size
 .
  have d:=h.before g;have hq:p/8<s.size:=by omega
  have hb:=ut s p hq;generalize m:aj s/2 ^ p%2=N at *
  have l:=ae g;have t:(p:Int)<8*(s.size:Int):=by omega
  have j:p2 (p%8)<=128:=pw (p%8) 7 (by omega);have i:=mw (p%8);have a:=ae d;obtain⟨c0,c1,c2,f0,f1,f2,n⟩:=d;have c:(s[p/8]).toNat/p2 (p%8)%2=N:=hb;clear h m hb;obtain⟨Q,hQ⟩:∃Q,p/8=Q:=⟨_,rfl⟩;obtain⟨R,hR⟩:∃R,p%8=R:=⟨_,rfl⟩;simp only[hQ,hR]at c j i hq;have o:=(s[Q]).toNat_lt;generalize f:p2 R=PW at *
  have k:=ae (fun W=>MQ R PW W (by omega) f);have e1:IntKind.i64.wrap (Q:Int)=(Q:Int):=bK _ (by omega) (by omega);have e2:(p:Int)/8=(Q:Int):=by omega
  have e3:(p:Int)%8=(R:Int):=by omega
  have e4:Int.tmod (p:Int) 8=(R:Int):=by rw[a2b (by omega)];exact e3
  have e5:(Q:Int)<(s.size:Int):=by omega
  have e6:(0:Int)<=(Q:Int):=by omega
  have q:(s[Q]).toNat/PW<=(s[Q]).toNat:=a1V _ _;have e7:((s[Q]).toNat:Int)/(PW:Int)=(((s[Q]).toNat/PW:Nat):Int):=by simp
  have e0:(0:Int)<=((s[Q]).toNat:Int)/(PW:Int)/\((s[Q]).toNat:Int)/(PW:Int)<=255:=by rw[e7];exact⟨a3x _,by omega⟩
  have e8:IntKind.i64.wrap (((s[Q]).toNat:Int)/(PW:Int))=((s[Q]).toNat:Int)/(PW:Int):=bK _ (by omega) (by omega);have e10:((s[Q]).toNat:Int)/(PW:Int)%2=(N:Int):=by rw[e7];exact_mod_cast c
  have e9:Int.tmod (((s[Q]).toNat:Int)/(PW:Int)) 2=(N:Int):=by rw[a2b e0.1];exact e10
  have e14:IntKind.i64.wrap ((s[Q]).toNat:Int)=((s[Q]).toNat:Int):=bK _ (by omega) (by omega);have e12:¬ PW=0:=by omega
  clear r g hQ hR f c q o j i e7 e0;go_enter a3y,a3z;go_wp2
  go_quiet (fail)
  go_wp2
  go_region_held3 (fun W=>W.cell? ⟨b,0,none⟩=some (.string s)/\W.cell? ⟨b,1,none⟩=some (.int .i64 (p:Int))) (first|exact⟨c0,c1⟩|assumption) (first|(go_at_call 163;refine(ab k _).mono ?_;rintro e w' ⟨rfl,rfl⟩))
  all_goals
   go_wp2;go_ret;exact⟨rfl,fm.next (by exact(ab a).set1 _) (ab l),jh _ _ _ _ _⟩
 .
  have d:=h.past (by omega);have a:=ae d;have l:=ae g;have m:=ae (nj s p (by omega));obtain⟨c0,c1,c2,f0,f1,f2,n⟩:=d;rw[a1v]at c1;clear h g r;go_enter a3y,a3z;go_wp2
  go_quiet (fail)
  go_wp2;go_ret;exact⟨aH (by rw[ab m];rfl),fm.bad ((ab a).set2 _) (by have:=ab l;omega),jh _ _ _ _ _⟩
theorem Cn(b p c:Nat)(s:ByteArray)(w:World)(h:fm w b s p)(A:s.size<=2000000)(u:c<=16) :
  Calls prog 159 #[.pointer (some ⟨b,0,none⟩),.int .i64 (c:Int)] w fun e w'=>e = .returned (.int .i64 (aj s/2 ^ p%2 ^ c:Nat))/\fm w' b s (p+c)/\av b w w':=by
 have D:=ae A;have F:(c:Int)<=16:=by omega
 have B:=ae u;clear A u;go_enter func159,ntmps159;go_wp2_with fail
 go_loopw [5,6] (fun n i wr=>∃k:Nat,k<=c/\i = .int .i64 k/\n = .int .i64 (aj s/2 ^ p%2 ^ k:Nat)/\fm wr b s (p+k)/\av b w wr) (fun _ i _=>c-(intOf i).toNat)
 case atStart=>exact⟨0,a0g _,rfl,by simp[a1j],h,av.refl _ _⟩
 case round=>
  obtain⟨k,v,rfl,rfl,q,d⟩:=hrel;clear h;have C:=ae v;by_cases H:k<c
  .
   have G:(k:Int)<(c:Int):=by omega
   have a:k<=16:=by have:=ab B;omega
   have t:Hid (aj s/2 ^ p%2 ^ (k+1)=aj s/2 ^ p%2 ^ k+aj s/2 ^ (p+k)%2*p2 k):=pt (aj s) p k;have m:=Kr (aj s) p k a;have I:aj s/2 ^ (p+k)%2<=1:=by omega
   have o:=sE k a;have f:=ae (sQ b (p+k) s wr q (ab D));have j:=ae (fun W=>MQ k (p2 k) W (by omega) rfl);generalize aj s/2 ^ p%2 ^ k=n at *
   generalize aj s/2 ^ (p+k)%2=x at *
   generalize p2 k=PW at *
   have g:x*PW<=65536:=by rcases (show x=0∨x=1 by omega)with e|e<;>subst e<;>omega
   have e1:IntKind.i64.wrap ((x:Int)*(PW:Int))=((x*PW:Nat):Int):=by rw[←a1v];exact bK _ (by omega) (by omega)
   have e1':((x:Int)*(PW:Int))=((x*PW:Nat):Int):=by rw[←a1v]
   have z:(n:Int)<65536:=by omega
   have y:((x*PW:Nat):Int)<=65536:=by omega
   generalize E:x*PW=M at *
   clear E a I o m g v q;go_wp2_with fail;refine(ab f).mono ?_;rintro e x1 ⟨rfl,r,l⟩;go_wp2_with fail;refine(ab j _).mono ?_;rintro e x2 ⟨rfl,rfl⟩;go_wp2;go_roundw
   case rel=>exact⟨k+1,by omega,by go_num,by rw[ab t];go_num,r,d.trans l⟩
   case measure=>simp[intOf];omega
  .
   obtain rfl:k=c:=by have:=ab C;omega
   go_wp2;go_ret;exact⟨rfl,q,d⟩
theorem xe(b p:Nat)(s:ByteArray)(w:World)(h:fm w b s p)(J:s.size<=2000000)(T:p<=8*s.size) :
  Calls prog 118 #[.pointer (some ⟨b,0,none⟩)] w fun e w'=>e = .returned (.bool (decide (aj s/2 ^ p%2 ^ ((8-p%8)%8)=0)))/\fm w' b s (p+(8-p%8)%8)/\av b w w':=by
 have N:=ae J;have E:(8-p%8)%8<=7:=by omega
 have F:(p+(8-p%8)%8)%8=0:=by omega
 have y:p+(8-p%8)%8<=8*s.size:=by omega
 have f:∀j,j<(8-p%8)%8->(p+j)%8≠0:=by omega
 have V:(s.size:Int)<=2000000:=by omega
 generalize (8-p%8)%8=c at *
 have B:=ae y;clear J T y;go_enter func118,ntmps118;go_wp2_with fail
 go_loopw [3] (fun n wr=>∃k m:Nat,k<=c/\n = .int .i64 (m:Nat)/\m<=k/\(m=0<->aj s/2 ^ p%2 ^ k=0)/\fm wr b s (p+k)/\av b w wr) (fun _ wr=>c+p-(match wr.cell? ⟨b,1,none⟩with|some (.int _ i)=>i.toNat|_=>0))
 case atStart=>exact⟨0,0,a0g _,rfl,a0a _,by simp[a1j],h,av.refl _ _⟩
 case round=>
  obtain⟨k,m,I,rfl,v,u,z,d⟩:=hrel;clear h;have P:=z.at (by have:=ab B;omega);obtain⟨c0,c1,c2,f0,f1,f2,Q⟩:=P;have M:=ae I;have r:=ae u;have U:((p+k:Nat):Int)<=16000000:=by have:=ab B;omega
  clear u;by_cases g:k<c
  .
   have S:¬ ((p+k:Nat):Int)%8=0:=by have:=f k g;omega
   have G:=ae (rest_step (aj s) p k);have K:aj s/2 ^ (p+k)%2<=1:=by omega
   have t:=ae (sQ b (p+k) s wr z (ab N));generalize aj s/2 ^ (p+k)%2=x at *
   have W:(x:Int)<=1:=by omega
   have R:(m:Int)<=7:=by omega
   have L:=ae K;have A:=ae v;have q:=ae g;have C:=ae (show p+k<8*s.size by have:=ab B;omega);clear f K I v g z F E;generalize a:p+k=pk at *
   have o:=ae a;clear a;go_wp2_with fail;refine(ab t).mono ?_;rintro e x1 ⟨rfl,l,D⟩;go_wp2;go_roundw
   case rel=>exact⟨k+1,m+x,ab q,by go_num,by have:=ab A;have:=ab L;omega,by rw[ab G,←ab r];omega,by rw[←ab o]at l;exact l,d.trans D⟩
   case measure=>
    have O:=(l.at (by have:=ab C;omega)).2.1;rw[O,c1];have:=ab o;have:=ab q;simp;omega
  .
   obtain rfl:k=c:=by have:=ab M;omega
   have X:((p+k:Nat):Int)%8=0:=by omega
   generalize a:p+k=pk at *
   go_wp2;go_ret;refine⟨ak ?_,by rw[a];exact z,d⟩;rw[show decide (aj s/2 ^ p%2 ^ k=0)=decide (m=0)from decide_eq_decide.2 (ab r).symm];rcases a2m m with H|H
   . subst H;rfl
   . rw[a0h (by omega)];first|(exact a0h (by omega))|(exact beq_false_of_ne (by omega))|(exact(by omega:False).elim)
end Go.Proofs.YtchidddpplangaaGreatDoor
namespace Go.Proofs.YtchidddpplangaaGreatDoor
open Go.Proofs.Tryz
open Go.RowKit Corb
variable {l:List Int}{s:List UInt8}
theorem ts(a:Option Addr)(cap n:Nat)(l:List (Int×Int))(w:World)(c:l.length=n)(h:nS w a l)(b:n<=1000000000) :
  Ds 131 #[.slice a n cap] w (.int .i64 (pp l)):=by
 subst c;exact gZ a cap l w h b
theorem Rdr.over{w:World}{b p:Nat}{s:ByteArray}(h:Rdr w b s p)(a:8*s.size<p):Three w b (.string s) (.int .i64 (8*(s.size:Int))) (.bool true):=by
 unfold Rdr at h;rw[a20 (by omega),a0v (by omega)]at h;exact h
theorem zI(h:eH l=false∨4000<l.length):jO s l=false/\zH s l=[]:=by
 have a:jO s l=false:=by
  unfold jO;rcases h with h|h
  . simp[h]
  . simp;omega
 exact⟨a,a0d (by simp[a])⟩
theorem JB(h:eH l=true)(a:l.length<=4000):jO s l=(decide (s.length=(gE l+7)/8)&&decide (cG s<2 ^ gE l)):=by
 simp[jO,h,a]
theorem Mm(h:jO s l=false):zH s l=[]:=a0d (by simp[h])
theorem Jz(h:jO s l=true):zH s l=ge (cG s) 0 l:=a0e h
theorem pz{v:Value}{a b:Bool}(h:a=b):Ending.returned (.tuple #[v,.bool a]) = .returned (.tuple #[v,.bool b]):=by rw[h]
def blank(l:List Int):List (Int×Int):=l.map fun b=>(0,b)
theorem mT(l:List Int):(blank l).length=l.length:=by simp[blank]
theorem GZ(b:Int):pOk 0 b=inB b 0 16:=by
 rw[a2a,aS,aB];have:=mw b.toNat
 constructor
 . exact fun h=>h.1
 . exact fun h=>⟨h,by omega,by omega⟩
theorem I4(l:List Int):bw (blank l)=eH l:=by
 simp only[bw,eH,blank,List.all_map]
 congr 1
 funext b
 exact GZ b
theorem FH(l:List Int)(h:eH l=true):cm (blank l)=(gE l:Int):=by
 induction l with
 | nil=>rfl
 | cons b l ih=>
  have a:(0<=b/\b<=16)/\eH l=true:=by simpa[eH]using h
  have:=ih a.2;simp only[cm,blank,a0H,a0M]at this ⊢;rw[qP,this];omega
theorem Cr(l:List Int)(a:l.length<=4000):pp (blank l)=if eH l=true then(gE l:Int)else -1:=by
 unfold pp lOk;rw[I4,mT];rcases hb:eH l with _|_
 . simp
 . simp[a,FH l hb]
theorem Cs(l:List Int)(b:Int):blank (l++[b])=blank l++[(0,b)]:=by simp[blank]
theorem FG(l:List Int)(k:Nat)(h:k<l.length):(blank l).getD k (0,0)=(0,l.getD k 0):=by
 simp[blank,List.getD,h]
theorem yT(b:Int)(w:World) :
  Ds 130 #[.int .i64 b] w (.agg #[.int .i64 0,.int .i64 b]):=by
 go_enter func130,ntmps130;go_wp2;exact a0F (v:=.agg #[.int .i64 0,.int .i64 b]) (by simp[results,results130,go_sem]) rfl ⟨rfl,(a0c _ _).alloc (a0a _) _⟩
theorem FT(a:Option Addr)(cap:Nat)(l:List Int)(w:World)(h:aZ w a l)(G:l.length<=4000) :
  Calls prog 129 #[.slice a l.length cap,.func (.func 130) #[] #[]] w fun e w'=>∃v,e = .returned v/\Pcs w' w.heap.size v (blank l)/\Below w.heap.size w w':=by
 have F:=ae G;have L:(l.length:Int)<=4000:=by omega
 clear G;obtain⟨i0,M,C,D,E⟩:=a0o Tryz.infoPiece;go_enter func129,ntmps129;go_wp2_with fail
 go_loopw [5,7,10] (fun o _ i wr=>∃k:Nat,k<=l.length/\i = .int .i64 k/\Pcs wr w.heap.size o (blank (l.take k))/\Below w.heap.size w wr) (fun _ _ i _=>l.length-(intOf i).toNat)
 case atStart=>exact⟨0,a0g _,rfl,a00 _ _ _ _,a0c _ _⟩
 case round=>
  obtain⟨k,I,rfl,hq,b⟩:=hrel;by_cases t:k<l.length
  .
   obtain⟨g,o,rfl,N,H⟩:=(h.later b) (by omega);have c0:=H k t;have B:=ae (ci l k t);have s:Hid ((blank (l.take k)).length=k):=by show(blank (l.take k)).length=k;rw[mT];simp;omega
   have K:=ae I;clear H I h;generalize l.getD k 0=y at *
   go_wp2_with fail;refine(yT y _).mono ?_;rintro e x1 ⟨rfl,n⟩;have q:=Pcs.later hq n (a0a _);have c:=ai b n;have r:=c.size;clear hq b n;go_wp2_with (at_builtin;refine a0r _ rfl _ _ 182 rfl w.heap.size 185 i0 (.agg #[.int .i64 0,.int .i64 0]) 2 16 a1p M C D E rfl (by decide) _ _ _ rfl (a0k q _) ⟨x1.heap.size,0,none⟩ 1 1 [.int .i64 0,.int .i64 y] rfl rfl (by intro j u p;match j,p with | 0,p=>simp at p;subst p;simp[Addr.add] | 1,p=>simp at p;subst p;simp[Addr.add]) (by intro u J;simp at J;rcases J with rfl|rfl<;>rfl) (by have:=ab s;have:=ab F;unfold maxLen;omega) (by have:=ab s;have:=ab F;omega) (by simp;omega) ?_;intro v' x2 m d x;clear x);have A:=aC (v:=u5) d q (a0a _) r c;have z:=my m;rw[←Cs,←ab B]at z;clear m d q;go_wp2;go_roundw
   case rel=>exact⟨k+1,by have:=ab K;omega,by go_num,z,A⟩
   case measure=>simp[intOf];omega
  . have f:l.take k=l:=a0u (by omega);rw[f]at hq;obtain⟨va,vc,rfl⟩:=hq.form;clear f h;go_wp2;go_ret;exact⟨_,rfl,hq,b⟩
theorem GL(a:Addr)(w:World):(method 471 188 (.pointer (some a)) "loop.example/corbel/impl.pass").run prog w = .ok (243,.pointer (some a)) w:=by kernel_rfl
theorem FW(b:Nat)(s:ByteArray)(a:Option Addr)(cap:Nat)(l:List Int)(w:World)(h:nS w a (blank l))(hbo:eH l=true)(h4:l.length<=4000)(hs:s.size<=2000000)(hr:Rdr w b s 0)(hb:∀g o,a=some ⟨g,o,none⟩->0<l.length->g<b) :
  Calls prog 176 #[.slice a l.length cap,.func (.method "loop.example/corbel/impl.pass") #[.iface 188 (.pointer (some ⟨b,0,none⟩))] #[]] w fun e w'=>
   ∃v,e = .returned v/\am w' (b+1) v (ge (aj s) 0 l)/\Rdr w' b s (gE l)/\Below b w w':=by
 have Hbo:=ae hbo;have H4:=ae h4;have Hs:=ae hs;have h4':(l.length:Int)<=4000:=by omega
 have hbl:=mT l;clear hbo h4 hs;obtain⟨i0,hi,hz0,hz1,hz2⟩:=a0o Tryz.infoInt;have mp:=GL ⟨b,0,none⟩;have Hb:=ae hb;clear hb;go_enter func176,ntmps176;go_wp2_with fail
 go_loopw [5,7,10] (fun o _ i wr=>∃k:Nat,k<=l.length/\i = .int .i64 k/\am wr (b+1) o (ge (aj s) 0 (l.take k))/\Rdr wr b s (gE (l.take k))/\Below b w wr) (fun _ _ i _=>l.length-(intOf i).toNat)
 case atStart=>exact⟨0,a0g _,rfl,am.nil _ _,hr,a0c _ _⟩
 case round=>
  obtain⟨k,hk,rfl,hown,hrr,hbel⟩:=hrel;have hrl:=hrr.lt;by_cases hlt:k<l.length
  .
   obtain⟨g,o,rfl,hg,hc⟩:=h (by omega);have hgb:=ab Hb g o rfl (by omega);have hck:=hc k (by omega);rw[FG l k hlt]at hck;have c0:=(hbel.cell (p:=⟨g,o+k*2,none⟩) hgb).trans hck.1;have c1:=(hbel.cell (p:=⟨g,o+k*2+1,none⟩) hgb).trans hck.2;have htk:=ae (ci l k hlt);have hrd:=ae (yw (aj s) 0 (l.take k) [l.getD k 0]);have hsu:=ae (Bu (l.take k) [l.getD k 0]);have hlk:Hid ((ge (aj s) 0 (l.take k)).length=k):=by show(ge (aj s) 0 (l.take k)).length=k;rw[ww];simp;omega
   obtain⟨y0,y1⟩:=Cq (ab Hbo) k hlt;have HK:=ae hk;clear hc hk h hr hck hbl;generalize l.getD k 0=y at *
   obtain⟨c,rfl⟩:=a0t y0;go_wp2_with fail;refine(uF b (gE (l.take k)) c 0 s _ (hrr.alloc _) (ab Hs) (by omega)).mono ?_;rintro e x1 ⟨rfl,hr1,hk1⟩;have hown1:am x1 (b+1) u5 (ge (aj s) 0 (l.take k)):=hk1.own (a0k hown _) (a0i _);have hbel1:=(hbel.alloc (a0z hrl) (.cells #[.int .i64 0,.int .i64 (c:Int)] 185)).trans hk1.1;have hr1l:=hr1.lt;generalize hX:aj s/2 ^ gE (l.take k)%2 ^ c=X at *
   have HX:=ae hX;clear hX hown hrr hbel hk1;go_wp2_with (at_builtin;refine a0r _ rfl _ _ 137 rfl (b+1) 3 i0 (.int .i64 0) 1 8 a0C hi hz0 hz1 hz2 rfl (by decide) _ _ _ rfl (a0k hown1 _) ⟨x1.heap.size,0,none⟩ 1 1 [.int .i64 (X:Int)] rfl rfl (by intro j u hj;match j,hj with | 0,hj=>simp at hj;subst hj;simp[Addr.add]) (by intro u hu;simp at hu;subst hu;rfl) (by have:=ab hlk;have:=ab H4;unfold maxLen;omega) (by have:=ab hlk;have:=ab H4;omega) (by simp;omega) ?_;intro v' x3 hown hgrow hnil;clear hnil);have hr3:Rdr x3 b s (gE (l.take k)+c):=hr1.kept (aC (v:=u5) hgrow hown1 (a0a _) (by omega) (a0c _ _));have hbel3:Below b w x3:=aC (v:=u5) hgrow hown1 (a06 _) (by omega) hbel1;have hown3:=nc hown;clear hown hgrow hown1 hr1 hbel1;go_wp2;go_roundw
   case rel=>
    refine⟨k+1,by have:=ab HK;omega,by go_num,?_,?_,hbel3⟩
    . rw[ab htk,ab hrd];simp only[ge,a0G,a0p];rw[ab HX];exact hown3
    . rw[ab htk,ab hsu];simp only[gE,a0H,a1X,a0M,a28,a0p,a1J];exact hr3
   case measure=>simp[intOf];omega
  . have hlk2:l.take k=l:=a0u (by omega);rw[hlk2]at hown hrr;obtain⟨va,vc,rfl⟩:=hown.form;clear hlk2 h hr;go_wp2;go_ret;exact⟨_,rfl,hown,hrr,hbel⟩
theorem Ix(b:Nat)(s:ByteArray)(a:Option Addr)(cap:Nat)(l:List Int)(w:World)(h:nS w a (blank l))(f:eH l=true)(j:l.length<=4000)(m:s.size<=2000000)(k:Rdr w b s 0)(hb:∀g o,a=some ⟨g,o,none⟩->0<l.length->g<b) :
  Calls prog 132 #[.iface 188 (.pointer (some ⟨b,0,none⟩)),.slice a l.length cap] w fun e w'=>
   ∃v,e = .returned v/\am w' (b+1) v (ge (aj s) 0 l)/\Rdr w' b s (gE l)/\Below b w w':=by
 go_enter func132,ntmps132;go_wp2_with fail;refine(FW b s a cap l _ h f j m k hb).mono ?_;rintro e w1 ⟨v,rfl,c,i,d⟩;obtain⟨va,vc,rfl⟩:=c.form;go_wp2;go_ret;exact⟨_,rfl,c,i,d⟩
theorem rW(s:ByteArray)(a:Option Addr)(cap:Nat)(l:List Int)(w:World)(h:aZ w a l)(hs:s.size<=2000000)(hl:l.length<=2000000) :
  Calls prog 96 #[.string s,.slice a l.length cap] w fun e w'=>∃v,e = .returned (.tuple #[v,.bool (jO s.data.toList l)])/\am w' w.heap.size v (zH s.data.toList l)/\Below w.heap.size w w':=by
 have ad:(l.length:Int)<=2000000:=by omega
 have Y:=ae hs;clear hs hl;by_cases S:l.length<=4000
 .
  have V:(l.length:Int)<=4000:=by omega
  have G:=ae S;have C:=ae (Cr l S);have j:=ae (mT l);go_enter func96,ntmps96;go_wp2_with fail;refine(FT a cap l _ h (ab G)).mono ?_;rintro e x1 ⟨v,rfl,hq,J⟩;obtain⟨va,vc,rfl⟩:=hq.formN (ab j);have u:=hq.rowN (ab j);clear h S;go_wp2_with fail;refine(ts va vc l.length (blank l) _ (ab j) u (by have:=ab G;omega)).mono ?_;rintro e x2 ⟨rfl,A⟩;rw[ab C];have O:=hq.later A (a0a _);have d:=O.rowN (ab j);have c:=ai J A;have Q:=ae c.size;clear u J A hq;rcases k:eH l with _|_
  .
   have b:=ae (zI (s:=s.data.toList) (a0A k));rw[a0d (by simp)];go_wp2
   go_ret2
   refine⟨_,pz (ab b).1.symm,?_,c⟩;rw[(ab b).2];exact am.nil _ _
  .
   have U:=ae k;have n:=ae (JB (s:=s.data.toList) k (ab G));have P:s.data.toList.length=s.size:=by simp
   have X:=Nb k;have hS:(gE l:Int)<=64000:=by have:=ab G;omega
   have aa:(0:Int)<=(gE l:Int):=by omega
   have r:=ae (D5 s.data.toList (gE l));rw[P]at n r;rw[a0e rfl];have x:=ae (Jz (s:=s.data.toList) (l:=l));have t:=ae (Mm (s:=s.data.toList) (l:=l));have Z:cG s.data.toList=aj s:=rfl;rw[Z]at n r x;clear k X P Z;generalize hm:gE l=m at *
   have Hm:=ae hm;clear hm;by_cases he:(s.size:Int)=((m:Int)+7)/8
   .
    have L:s.size=(m+7)/8:=by omega
    have I:=MV x2 s 190;have z:Below x2.heap.size x2 (x2.alloc (.cells #[.string s,.int .i64 0,.bool false] 190)):=(a0c _ _).alloc (a0a _) _;have q:=d.later z;have M:∀g o,va=some ⟨g,o,none⟩->0<l.length->g<x2.heap.size:=by
     intro g o e h0;obtain⟨g',o',e',ac,_⟩:=d (by rw[ab j];exact h0);rw[e]at e';simp only[a0l,a0B,a0P]at e';omega
    have R:=ae L;have HG:=ae M;clear L M d;go_wp2_with fail;refine(Ix x2.heap.size s va vc l _ q (ab U) (ab G) (ab Y) I (ab HG)).mono ?_;rintro e x3 ⟨v,rfl,p,E,K⟩;have f:=ai c (z.trans K);rw[ab Hm]at E;clear I z q K c O;obtain⟨va',vc',rfl⟩:=p.form;go_wp2_with fail;refine(rF x2.heap.size m s _ E (ab Y) (by have:=ab R;omega)).mono ?_;rintro e x4 ⟨rfl,W,B⟩;have D:=B.own p (a0i _);have i:=f.trans (B.1.mono (ab Q));clear p E W B f;by_cases F:aj s/2 ^ m%2 ^ ((8-m%8)%8)=0
    .
     rw[a0v F];have N:jO s.data.toList l=true:=by
      rw[ab n,a0v (ab R),a0v ((ab r (ab R)).1 F)];rfl
     have H:=ae N;clear N F;go_wp2
     go_ret2
     refine⟨_,pz (ab H).symm,?_,i⟩;rw[ab x (ab H)];exact am.mono D (Nat.le_succ_of_le (ab Q))
    .
     rw[a0h F];have b:jO s.data.toList l=false:=by
      rw[ab n,a0h (fun h=>F ((ab r (ab R)).2 h))];simp
     have y:=ae b;have T:=ae (ab t b);clear b F;go_wp2
     go_ret2
     refine⟨_,pz (ab y).symm,?_,i⟩;rw[ab T];exact am.nil _ _
   .
    have b:jO s.data.toList l=false:=by
     rw[ab n,a0h (by omega)];rfl
    have al:((s.size:Int) != ((m:Int)+7)/8)=true:=by simpa using he
    have y:=ae b;have T:=ae (ab t b);clear b;go_wp2
    go_ret2
    refine⟨_,pz (ab y).symm,?_,c⟩;rw[ab T];exact am.nil _ _
 .
  have b:=ae (zI (s:=s.data.toList) (l:=l) (Or.inr (by omega)));have V:4000<(l.length:Int):=by omega
  clear S;go_enter func96,ntmps96;go_wp2
  go_ret2
  refine⟨_,pz (ab b).1.symm,?_,a0c _ _⟩;rw[(ab b).2];exact am.nil _ _
end Go.Proofs.YtchidddpplangaaGreatDoor
