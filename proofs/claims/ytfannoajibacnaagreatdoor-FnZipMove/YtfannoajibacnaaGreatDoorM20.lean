/- Texts. -/
import Derived.Test.YtfannoajibacnaaGreatDoorM9
import Derived.Test.YtfannoajibacnaaGreatDoorM5
set_option linter.all false
set_option maxRecDepth 100000
set_option maxHeartbeats 6400000
namespace Go.Proofs.YtfannoajibacnaaGreatDoor
open Go.Proofs.Tryz
open Go.RowKit Corb
variable {P V b c crc g how i j k lg m o pk st:Nat}{W w w':World}{l:List UInt8}{nm:ByteArray}{v v1:Value}{x y:Int}{xs:List Int}
def Bys(w:World)(b:Nat)(v:Value)(l:List UInt8):Prop:=w.ownsRow (b+1) 5 1 v l.length (dD l)
def Bys.form(h:Bys w b v l):∃a cap,v = .slice a l.length cap:=by
 rcases h.2 with⟨e,c⟩|⟨g,cap,_,e,_⟩
 . exact⟨none,0,by rw[e,c]⟩
 . exact⟨_,cap,e⟩
def Bys.set(h:Bys w b v l)(u:Value):Bys (w.setCell ⟨b,o,none⟩ u) b v l:=
 a3V h (a:=⟨b,o,none⟩) (a0j b) u
def Bys.drew(h:Bys w b v l):Bys w.drew b v l:=h
def Out(w:World)(b V m:Nat):Prop:=
 V<p2 m/\∃v,Three w b v (.int .i64 (V/p2 (8*(m/8)):Nat)) (.int .i64 (m%8:Nat))/\Bys w b v (leS (m/8) V)
def EM(V m x:Nat)(a:V<p2 m)(b:x<=1)(c:m%8<7) :
  V+x*p2 m<p2 (m+1)/\(V+x*p2 m)/p2 (8*((m+1)/8))=V/p2 (8*(m/8))+x*p2 (m%8)/\leS ((m+1)/8) (V+x*p2 m)=leS (m/8) V:=by
 refine⟨add_lt V x m a b,?_,?_⟩
 . rw[show(m+1)/8=m/8 by omega];have:=AC V x m (m/8) (by omega);rw[show m-8*(m/8)=m%8 by omega]at this;exact this
 . rw[show(m+1)/8=m/8 by omega];exact vm (m/8) V x m (by omega)
def EL(V m x:Nat)(e:V<p2 m)(f:x<=1)(g:m%8=7) :
  V+x*p2 m<p2 (m+1)/\(V+x*p2 m)/p2 (8*((m+1)/8))=0/\(m+1)%8=0 /\
   leS ((m+1)/8) (V+x*p2 m)=leS (m/8) V++[UInt8.ofNat (V/p2 (8*(m/8))+x*p2 (m%8))]:=by
 have b:=add_lt V x m e f;refine⟨b,?_,by omega,?_⟩
 .
  apply a1Z;have:p2 (8*((m+1)/8))=2 ^ (m+1):=by unfold p2;rw[show 8*((m+1)/8)=m+1 by omega]
  rw[this];exact b
 . rw[show(m+1)/8=m/8+1 by omega];have a:=vm (m/8) V x m (by omega);have d:=AC V x m (m/8) (by omega);rw[show m-8*(m/8)=m%8 by omega]at d;have c:=Bf (V+x*2 ^ m) (m+1) (m/8) b (by omega);rw[show m+1-8*(m/8)=8 by omega]at c;show leS (m/8) (V+x*2 ^ m)++[UInt8.ofNat ((V+x*2 ^ m)/2 ^ (8*(m/8))%256)]=_;rw[a1g c,a,d];rfl
def vj(V m:Nat)(a:V<p2 m):V/p2 (8*(m/8))<p2 (m%8):=by
 have:=Bf V m (m/8) a (by omega);rw[show m-8*(m/8)=m%8 by omega]at this;exact this
def qS(k:Nat)(h:k<256):(UInt8.ofNat k).toNat=k:=by
 have:k%256=k:=a1g h;simp[this]
def xI{W2 WA:World}{v' v2:Value}{x:UInt8}(T2:Three W2 b v v1 v2)(Y2:Bys W2 b v l)(j:Below b w W2)
  (d:Below (b+1) W2 WA) (a:w'.ownsRow (b+1) 5 1 v' (l.length+1) (dD l++[.int .u8 (x.toNat:Int)])) (c:WA.grownBy w' v.ownBlock) :
  (∃g cap,v' = .slice (some ⟨g,0,none⟩) (l.length+1) cap)/\Three w' b v v1 v2/\Bys w' b v' (l++[x])/\Below b w w':=by
 have h:=T2.2.2.2.2.2.2;have i:=a0h h d.size;have f:∀k,v.ownBlock=some k->b+1<=k:=fun k m=>(Y2.lt k m).1;have hb:Below (b+1) W2 w':=d.grown c (by omega) f;refine⟨?_,T2.kept hb,?_,j.trans (hb.mono (by omega))⟩
 .
  rcases a.2 with⟨_,n⟩|⟨g,cap,_,e,_⟩
  . omega
  . exact⟨g,cap,e⟩
 . show w'.ownsRow (b+1) 5 1 v' (l++[x]).length (dD (l++[x]));simpa[dD]using a
def PV(n k:Nat):n%p2 (k+1)=n%p2 k+n/p2 k%2*p2 k:=Es n k
def BM(V n k m:Nat):V+n%p2 (k+1)*p2 m=V+n%p2 k*p2 m+n/p2 k%2*p2 (m+k):=by
 rw[PV,a1y,a1R,show p2 k*p2 m=p2 (m+k) by unfold p2;rw[←a0T,a2F]];omega
def DO(n k:Nat):n/p2 k/2=n/p2 (k+1):=mG n k
def rK(b V m:Nat)(num bits:Int)(w:World)(h:Out w b V m)(n0:0<=num)(n1:num<65536)(b0:0<=bits)(b1:bits<=16)(hm:m<=100000) :
  Calls prog 197 #[.pointer b,num,bits] w fun e w'=>e = .returned (.tuple #[]) /\
   Out w' b (V+num.toNat%p2 bits.toNat*p2 m) (m+bits.toNat)/\Below b w w':=by
 obtain⟨n,rfl⟩:=a0r n0;obtain⟨c,rfl⟩:=a0r b0;rw[a0n,a0n];obtain⟨i0,hi,a9,ba,bb⟩:=a0p Tryz.infoU8;go_enter func197,ntmps197;go_wp2
 go_loopw [1,6] (fun x i wr=>∃k:Nat,k<=c/\i = .int .i64 k/\x = .int .i64 (n/p2 k:Nat)/\Out wr b (V+n%p2 k*p2 m) (m+k)/\Below b w wr) (fun _ i _=>c-(intOf i).toNat)
 case atStart=>exact⟨0,a0g _,rfl,by simp[p2],by simpa[p2,a1s]using h,a0c _ _⟩
 case round=>
  obtain⟨k,hk,rfl,rfl,z,a⟩:=hrel;by_cases b4:k<c
  .
   have B:=af (BM V n k m);have g:=af (DO n k);have a6:n/p2 k<=n:=a12 _ _;obtain⟨hV,v,s,G⟩:=z;obtain⟨sa,scap,rfl⟩:=G.form;have a5:=vj (V+n%p2 k*p2 m) (m+k) hV;generalize V+n%p2 k*p2 m=V1,W:m+k=m1 at *;have hx:n/p2 k%2<=1:=(by omega);have ad:((n/p2 k:Nat):Int)%2=((n/p2 k%2:Nat):Int):=(by omega);have bd:((n/p2 k:Nat):Int)<65536:=(by omega);have a7:p2 (m1%8)<=128:=rI (m1%8) 7 (by omega);have O:n/p2 k%2*p2 (m1%8)<=1*p2 (m1%8):=a2f _ hx;have y:((n/p2 k%2:Nat):Int)*((p2 (m1%8):Nat):Int)=((n/p2 k%2*p2 (m1%8):Nat):Int):=(by simp);have q:=EM V1 m1 (n/p2 k%2) hV hx;have d:=EL V1 m1 (n/p2 k%2) hV hx;have ab:m1%8<8:=a0Z _ (by omega);have l:m1<=100016:=(by omega);have Q:(leS (m1/8) V1).length=m1/8:=aB _ _;generalize n/p2 k=nk at *;generalize a8:nk%2=x,a1:V1/p2 (8*(m1/8))=L,ac:m1%8=r at *;generalize N:p2 r=P at *;generalize a2:x*P=X at *;have ao:=af N;have K:=af W;have a0:=af ac;have E:=af q;have C:=af d;clear W a1 ac N a2 hV q d a8 hx a6;obtain⟨k0,H,I,f0,f1,f2,F⟩:=s;have s:Hid (Three wr b _ _ _):=⟨k0,H,I,f0,f1,f2,F⟩;have b5:(r:Int)<8:=(by omega);have bl:(L:Int)<128:=(by omega);have bn:(X:Int)<=128:=(by omega);have S:(k:Int)<(c:Int):=(by omega);have bk:=af ab;have D:=af l;have Hk:=af hk;have al:Hid (IntKind.i64.wrap ((L:Int)+IntKind.i64.wrap ((nk:Int).tmod 2*(P:Int)))=(L:Int)+(X:Int)):=by
    show IntKind.i64.wrap ((L:Int)+IntKind.i64.wrap ((nk:Int).tmod 2*(P:Int)))=(L:Int)+(X:Int);rw[a14 (by omega),ad,y,bW (X:Int) (by omega) (by omega),bW ((L:Int)+(X:Int)) (by omega) (by omega)]
   clear ab l a7 O a5 hk hm;go_wp2_with fail;go_cut[]from 7 to 62 (fun wc=>wc=(wr.setCell ⟨b,1,none⟩ (.int .i64 ((L:Int)+(X:Int)))).drew)
   case first=>
    go_region_with (go_at_call 231;apply(gi _ _ (by omega)).mono;rintro e w'⟨rfl,rfl⟩;rw[a0n,ae ao])
    all_goals
     go_wp2_with fail
     go_meet
     exact by rw[ae al]
   case rest=>
    have T1:=(s.set1 (.int .i64 ((L:Int)+(X:Int)))).drew;have Y1:=(G.set (o:=1) (.int .i64 ((L:Int)+(X:Int)))).drew;have B1:Below b w _:=(ai a (o:=1) (a0a _) (.int .i64 ((L:Int)+(X:Int)))).drew;rw[←hcut]at T1 Y1 B1;clear hcut G a s k0 H I f0 f1 f2 F y ad;have T1':=af T1;obtain⟨k0,H,I,f0,f1,f2,F⟩:=T1;by_cases aa:(r:Int)=7
    .
     have A:r=7:=(by omega);obtain⟨o1,o2,o3,o4⟩:=ae C A;have O1:=af o1;have O2:=af o2;have O3:=af o3;have O4:=af o4;have M:L+X<256:=(by omega);have a4:=af (qS (L+X) M);have b3:IntKind.u8.wrap ((L:Int)+(X:Int))=(L:Int)+(X:Int):=by
      rw[IntKind.wrap_u8'];omega
     subst A;clear o1 o2 o3 o4 aa M;have T2:=T1'.set2 (.int .i64 8);have Y2:=Y1.set (o:=2) (.int .i64 8);have B2:Below b w _:=ai B1 (o:=2) (a0a _) (.int .i64 8);have U:=af Q;clear Q;go_wp2_with fail;generalize wc.setCell ⟨b,2,none⟩ (.int .i64 8)=W2 at *;clear k0 H I f0 f1 f2 T1' Y1 B1;have T2':=af T2;obtain⟨k0,H,I,f0,f1,f2,a3⟩:=T2;have R:Hid (((UInt8.ofNat (L+X)).toNat:Int)=(L:Int)+(X:Int)):=by
      show((UInt8.ofNat (L+X)).toNat:Int)=(L:Int)+(X:Int);rw[ae a4];omega
     have T:(leS (m1/8) V1).length<=20000:=by have:=ae U;have:=ae D;omega
     have J:=af T;clear T;go_cut[]from 7 to 62 (fun wc2=>∃v',Three wc2 b v' (.int .i64 ((L:Int)+(X:Int))) (.int .i64 8)/\Bys wc2 b v' (leS (m1/8) V1++[UInt8.ofNat (L+X)])/\Below b w wc2)
     case first=>
      go_region_law (refine aL rfl (.tmp 47) (.tmp 53) 22 rfl (b+1) 5 i0 (.int .u8 0) 1 1 a01 hi a9 ba bb rfl (by decide) _ _ _ (by simp[Act.eval]) (Y2.alloc _) ⟨W2.heap.size,0,none⟩ 1 1 [.int .u8 ((L:Int)+(X:Int))] (by simp[Act.eval]) rfl (by intro j u hj;match j,hj with | 0,hj=>simp at hj;subst hj;simp[Addr.add]) (by intro u hu;simp at hu;subst hu;rfl) (by have:=ae J;unfold maxLen;omega) (by have:=ae J;omega) (by simp;omega) ?_;intro v' w' p f Z;clear Z;rw[←ae R]at p;obtain⟨⟨g',bc,rfl⟩,T3,Y3,B3⟩:=xI T2' Y2 B2 (by first|exact(a0c _ _).alloc (by omega) _|exact((a0c _ _).alloc (by omega) _).drew) p f;clear p f;have T3':=af T3;obtain⟨q0,q1,q2,e0,e1,e2,bs⟩:=T3)
      all_goals
       go_wp2_with fail
       go_meet
       exact⟨_,T3'.set0 _,Y3.set _,ai B3 (a0a _) _⟩
     case rest=>
      obtain⟨v',T4,Y4,B4⟩:=hcut;clear k0 H I f0 f1 f2 T2' Y2 B2 a3;obtain⟨va,vc,rfl⟩:=Y4.form;have T4':=af T4;obtain⟨k0,H,I,f0,f1,f2,b2⟩:=T4;go_wp2;go_roundw
      case rel=>
       refine⟨k+1,by have:=ae Hk;omega,by go_num,by rw[←ae g];go_num,?_,ai (ai B4 (a0a _) _) (a0a _) _⟩;rw[ae B,show m+(k+1)=m1+1 by have:=ae K;omega];refine⟨O1,.slice va (leS (m1/8) V1++[UInt8.ofNat (L+X)]).length vc,?_,?_⟩
       . rw[ae O2,ae O3];exact(T4'.set1 _).set2 _
       . rw[ae O4];exact(Y4.set _).set _
      case measure=>simp[intOf];omega
    .
     have be:((r:Int)+1 == 8)=false:=by simp;omega
     have t:r<7:=(by omega);obtain⟨o1,o2,o3⟩:=ae E t;have O1:=af o1;have O2:=af o2;have O3:=af o3;have Y:Hid ((m1+1)%8=r+1):=by show(m1+1)%8=r+1;have:=ae a0;omega
     clear o1 o2 o3 t aa;go_wp2;go_roundw
     case rel=>
      refine⟨k+1,by have:=ae Hk;omega,by go_num,by rw[←ae g];go_num,?_,ai B1 (a0a _) _⟩;rw[ae B,show m+(k+1)=m1+1 by have:=ae K;omega];refine⟨O1,.slice sa (leS (m1/8) V1).length scap,?_,?_⟩
      . rw[ae O2,ae Y];exact T1'.set2 _
      . rw[ae O3];exact Y1.set _
     case measure=>simp[intOf];omega
  .
   have S:k=c:=(by omega);subst S;go_wp2
   go_end0
   exact⟨rfl,z,a⟩
def oh(l:List (Int×Int)):List (Nat×Nat):=l.map (fun p=>(p.1.toNat,p.2.toNat))
def aV(l:List (Int×Int)):Nat×Nat:=jh (0,0) (oh l)
def cS(l:List (Int×Int)):List UInt8:=leS (((aV l).2+7)/8) (aV l).1
def pC(l:List (Int×Int)):List UInt8:=if lOk l=true then cS l else []
def ee{l:List (Int×Int)}(h:lOk l=true):pC l=cS l:=a0d h
def SG{l:List (Int×Int)}(h:lOk l=false):pC l=[]:=a0e (by simp[h])
def Mz(l:List (Int×Int))(k:Nat)(h:k<l.length):aV (l.take (k+1)) =
  ((aV (l.take k)).1+(l.getD k (0,0)).1.toNat*p2 (aV (l.take k)).2,(aV (l.take k)).2+(l.getD k (0,0)).2.toNat):=by
 rw[a1e h,aV,oh,a0K,ou];simp only[a0D,a1I,jh];have e:l.getD k (0,0)=l[k]:=by simp[List.getD,h]
 rw[e];rfl
def tP(l:List (Int×Int))(h:aZ l=true):((aV l).2:Int)=cq l:=by
 have key:∀(m:List (Int×Int)) (s:Nat×Nat),aZ m=true->((jh s (oh m)).2:Int)=(s.2:Int)+cq m:=by
  intro m;induction m with
  | nil=>intro s _;simp[oh,jh,cq]
  | cons p m ih=>
   intro s a;simp only[aZ,a19,a0k]at a;have b:=aT.1 a.1;have:=ih (s.1+p.1.toNat*2 ^ s.2,s.2+p.2.toNat) a.2;simp only[oh,a0D,jh]at this ⊢;rw[this];simp only[cq,a0D,a0N];omega
 have:=key l (0,0) h;simpa[aV]using this
def Cf(l:List (Int×Int))(h:aZ l=true):(aV l).1<p2 (aV l).2:=by
 have key:∀(m:List (Int×Int)) (s:Nat×Nat),s.1<p2 s.2->aZ m=true->(jh s (oh m)).1<p2 (jh s (oh m)).2:=by
  intro m;induction m with
  | nil=>intro s b _;exact b
  | cons p m ih=>
   intro s b a;simp only[aZ,a19,a0k]at a;have d:=aT.1 a.1;have c:p.1.toNat<p2 p.2.toNat:=(by omega);exact ih _ (PP s.1 s.2 p.1.toNat p.2.toNat b c) a.2
 exact key l (0,0) (by decide) h
def BI(w:World)(t:TypeId):Out (w.alloc (.cells #[.slice none 0 0,.int .i64 0,.int .i64 0] t)) w.heap.size 0 0:=by
 refine⟨by decide,.slice none 0 0,⟨by simp,by simp,by simp,by simp,by simp,by simp,by simp⟩,?_⟩;exact a1b _ _ _ _
def Jy{a b:List UInt8}(h:a=b):Ending.returned (.string ⟨a.toArray⟩) = .returned (.string ⟨b.toArray⟩):=by rw[h]
def mD(h:Bys w b v l) :
  (convert 22 9 v).run prog w = .ok (.string ⟨l.toArray⟩) w:=by
 rcases h.2 with⟨e,a⟩|⟨g,cap,_,e,_⟩
 . subst e;have d:l=[]:=a2s a;subst d;rw[run_convert_bytes_string w _ _ _ none 0 0 a01 a16 a17];rfl
 .
  subst e;exact a3e w _ _ _ ⟨g,0,none⟩ cap l a01 a16 a17 (fun j c=>by
   have:=h.cells (g:=g) rfl j (.int .u8 (l[j].toNat:Int)) (by simp[dD,c]);exact this)
def pR.below{a:Option Addr}{l:List (Int×Int)}{B:Nat}(h:pR w a l)(b:w.heap.size<=B)(hb:Below B w w'):pR w' a l:=h.later (hb.mono b)
def Two.kept{v0:Value}(h:Two w b v0 v1)(hb:Below (b+1) w w'):Two w' b v0 v1:=by
 obtain⟨c0,c1,f0,f1,c⟩:=h;have a:=a0j b;exact⟨(hb.cell (p:=⟨b,0,none⟩) a).trans c0,(hb.cell (p:=⟨b,1,none⟩) a).trans c1,(hb.frozen (p:=⟨b,0,none⟩) a).trans f0,(hb.frozen (p:=⟨b,1,none⟩) a).trans f1,a0h c hb.size⟩
def lV(w:World)(b V m:Nat):Prop:=
 V<p2 m/\∃v,Two w b v (.int .i64 (m:Int))/\Bys w b v (leS ((m+7)/8) V)
def PQ{W2 WA:World}{v':Value}{x:UInt8}(T2:Two W2 b v v1)(Y2:Bys W2 b v l)(j:Below b w W2)
  (d:Below (b+1) W2 WA) (a:w'.ownsRow (b+1) 5 1 v' (l.length+1) (dD l++[.int .u8 (x.toNat:Int)])) (c:WA.grownBy w' v.ownBlock) :
  (∃g cap,v' = .slice (some ⟨g,0,none⟩) (l.length+1) cap)/\Two w' b v v1/\Bys w' b v' (l++[x])/\Below b w w':=by
 have h:=T2.2.2.2.2;have i:=a0h h d.size;have f:∀k,v.ownBlock=some k->b+1<=k:=fun k m=>(Y2.lt k m).1;have hb:Below (b+1) W2 w':=d.grown c (by omega) f;refine⟨?_,T2.kept hb,?_,j.trans (hb.mono (by omega))⟩
 .
  rcases a.2 with⟨_,n⟩|⟨g,cap,_,e,_⟩
  . omega
  . exact⟨g,cap,e⟩
 . show w'.ownsRow (b+1) 5 1 v' (l++[x]).length (dD (l++[x]));simpa[dD]using a
def Bys.at{cap:Nat}(h:Bys w b (.slice g l.length cap) l)(a:j<l.length) :
  w.cell? ⟨g,j,none⟩=some (.int .u8 ((l.getD j 0).toNat:Int))/\w.frozen? ⟨g,j,none⟩=false/\b<g:=by
 refine⟨?_,a2O h j,(a0z h g rfl).1⟩;rw[a1f h j (by omega)];simp[dD,a,List.getD]
def Bys.put{cap:Nat}(h:Bys w b (.slice g l.length cap) l)(x:UInt8) :
  Bys (w.setCell ⟨g,j,none⟩ (.int .u8 (x.toNat:Int))) b (.slice g l.length cap) (l.set j x):=by
 have:=a2u h j (.int .u8 (x.toNat:Int));show World.ownsRow _ _ _ _ _ (l.set j x).length (dD (l.set j x));rw[a00];have e:dD (l.set j x)=(dD l).set j (.int .u8 (x.toNat:Int)):=by simp[dD,List.map_set]
 rw[e];exact this.1
def U5(V m x:Nat)(a:V<p2 m)(b:x<=1) :
  V+x*p2 m<p2 (m+1)/\leS ((m+1+7)/8) (V+x*p2 m)=(leS (m/8+1) V).set (m/8) (UInt8.ofNat (V/p2 (8*(m/8))+x*p2 (m%8))):=by
 refine⟨add_lt V x m a b,?_⟩;rw[show(m+1+7)/8=m/8+1 by omega];exact Si (m/8) V x m rfl b a
def U4(V m:Nat)(a:V<p2 m)(b:m%8=0):leS ((m+7)/8) V++[0]=leS (m/8+1) V:=by
 rw[show(m+7)/8=m/8 by omega];exact(Sg (m/8) V (by rw[show 8*(m/8)=m by omega];exact a)).symm
def U0(V m:Nat)(a:m%8≠0):leS ((m+7)/8) V=leS (m/8+1) V:=by
 rw[show(m+7)/8=m/8+1 by omega]
def UY(V m:Nat)(a:V<p2 m):((leS (m/8+1) V).getD (m/8) 0).toNat=V/p2 (8*(m/8)):=by
 rw[Ji _ _ _ (by omega)];have b:=vj V m a;have h2:=rI (m%8) 7 (by omega);have c:p2 7=128:=rfl;have e:V/2 ^ (8*(m/8))%256=V/p2 (8*(m/8)):=a1g (by show V/p2 (8*(m/8))<256;omega);rw[e,qS _ (by omega)]
def Box(w:World)(P:Nat)(x y:Int):Prop:=w.heap[P]?=some (.cells #[x,y] 167)
def Rh(w:World)(x y:Int):Box (w.alloc (.cells #[x,y] 167)) w.heap.size x y:=by
 show(w.heap.push _)[w.heap.size]?=_;simp
def Box.cells(h:Box w P x y):w.cell? ⟨P,0,none⟩=some (.int .i64 x)/\w.cell? ⟨P,1,none⟩=some (.int .i64 y)/\P<w.heap.size:=by
 refine⟨by simp[World.cell?,show w.heap[P]?=_ from h],by simp[World.cell?,show w.heap[P]?=_ from h],?_⟩;have a:w.heap[P]?=some _:=h;exact(Array.getElem?_eq_some_iff.1 a).1
def Box.ne(h:Box w P x y)(i:Bys w b v l)(k:Nat)(a:v.ownBlock=some k):k≠P:=by
 rintro rfl;rcases i.2 with⟨e,_⟩|⟨g,cap,d,e,_,c,_⟩
 . subst e;simp[Value.ownBlock]at a
 . subst e;simp only[Value.ownBlock,a0l]at a;subst a;have f:w.heap[g]?=some (.cells #[x,y] 167):=h;rw[f]at c;simp at c
def Box.set(h:Box w P x y)(hb:b≠P)(u:Value):Box (w.setCell ⟨b,o,none⟩ u) P x y:=by
 show(w.setCell ⟨b,o,none⟩ u).heap[P]?=_;rw[a0M w ⟨b,o,none⟩ u P (fun e=>hb e.symm)];exact h
def Box.drew(h:Box w P x y):Box w.drew P x y:=h
def Box.alloc(h:Box w P x y)(o:Obj):Box (w.alloc o) P x y:=by
 show(w.alloc o).heap[P]?=_;rw[a1k w o P h.cells.2.2];exact h
def Box.grown(h:Box w P x y)(c:Bys w b v l)(a:w.grownBy w' v.ownBlock):Box w' P x y:=by
 show w'.heap[P]?=_;rw[a.block P h.cells.2.2 (fun e=>h.ne c P e.symm rfl)];exact h
def cx(b:Nat)(w w':World):Prop:=w.heap.size<=w'.heap.size/\∀k,k<w.heap.size->k≠b->(∀cur fr,w.heap[k]?≠some (.cells cur 5 fr))->w'.heap[k]?=w.heap[k]?
def cx.refl(b:Nat)(w:World):cx b w w:=⟨a0a _,fun _ _ _ _=>rfl⟩
def cx.trans{w1 w2:World}(h:cx b w w1)(k:cx b w1 w2):cx b w w2:=
 ⟨a0E h.1 k.1,fun j c hb d=>by
  have e:=h.2 j c hb d;rw[k.2 j (a0h c h.1) hb (fun a fr=>by rw[e];exact d a fr),e]⟩
def cx.drew(h:cx b w w'):cx b w w'.drew:=h
def cx.alloc(h:cx b w w')(o:Obj):cx b w (w'.alloc o):=
 h.trans ⟨by simp,fun j a _ _=>a1k w' o j a⟩
def cx.set(h:cx b w w')(u:Value):cx b w (w'.setCell ⟨b,o,none⟩ u):=
 h.trans ⟨by simp,fun j _ hb _=>a0M w' ⟨b,o,none⟩ u j hb⟩
def cx.setRow{cap:Nat}(h:cx b w w')(m:Bys w' c (.slice g l.length cap) l)(u:Value):cx b w (w'.setCell ⟨g,j,none⟩ u):=by
 refine h.trans ⟨by simp,fun k _ _ i=>?_⟩;by_cases e:k=g
 .
  subst e;rcases m.2 with⟨e,_⟩|⟨g',d,a,e,_,f,_⟩
  . simp at e
  . simp only[a0L,a0l,a0A,a0Q,a1U]at e;obtain⟨rfl,_⟩:=e;exact absurd f (i a (0,0))
 . exact a0M w' ⟨g,j,none⟩ u k e
def cx.grown{w'':World}(h:cx b w w')(m:Bys w' c v l)(g:w'.grownBy w'' v.ownBlock):cx b w w'':=by
 refine h.trans ⟨g.size,fun k i _ j=>?_⟩;refine g.block k i (fun e=>?_);rcases m.2 with⟨e',_⟩|⟨g',f,a,e',_,d,_⟩
 . subst e';simp[Value.ownBlock]at e
 . subst e';simp only[Value.ownBlock,a0l]at e;subst e;exact j a (0,0) d
def IU(B X r:Nat)(a:B<p2 r)(e:r<8)(b:X=0∨X=p2 r):bits .or .u8 (B:Int) (X:Int)=((B+X:Nat):Int):=by
 have d:=rI r 7 (by omega);have c:p2 7=128:=rfl;rw[u8_or_nat B X (by omega) (by omega)]
 congr 1
 rw[Nat.or_comm];rcases b with rfl|rfl
 . simp
 . rw[nat_join r (p2 r) B (by unfold p2;simp) a];omega
def Two.other{v0:Value}(h:Two w b v0 v1)(a:g≠b)(u:Value):Two (w.setCell ⟨g,o,none⟩ u) b v0 v1:=by
 obtain⟨c0,c1,f0,f1,hb⟩:=h;refine⟨?_,?_,by simpa using f0,by simpa using f1,by simpa using hb⟩
 . rw[World.cell?_setCell_other _ _ _ _ (by simp only[ne_eq,a0A];omega)];exact c0
 . rw[World.cell?_setCell_other _ _ _ _ (by simp only[ne_eq,a0A];omega)];exact c1
def Ae{wr:World}{cap V1 m1 x L X:Nat}{p q:Int}(j:Two wr b (.slice g (leS (m1/8+1) V1).length cap) (.int .i64 (m1:Int)))
  (a:Bys (wr.setCell ⟨g,m1/8,none⟩ (.int .u8 ((UInt8.ofNat (L+X)).toNat:Int))) b (.slice g (leS (m1/8+1) V1).length cap) ((leS (m1/8+1) V1).set (m1/8) (UInt8.ofNat (L+X))))
  (k:V1+x*p2 m1<p2 (m1+1)) (l:leS ((m1+1+7)/8) (V1+x*p2 m1)=(leS (m1/8+1) V1).set (m1/8) (UInt8.ofNat (L+X)))
  (h:(UInt8.ofNat (L+X)).toNat=L+X) (o:b<g) (n:g≠P) (m:P≠b) (d:Box wr P p q) (c:Below b w wr) (f:Bys wr b (.slice g (leS (m1/8+1) V1).length cap) (leS (m1/8+1) V1)) (i:cx b w wr) :
  lV ((wr.setCell ⟨g,m1/8,none⟩ (.int .u8 ((L:Int)+(X:Int)))).setCell ⟨b,1,none⟩ (.int .i64 ((m1:Int)+1))).drew b (V1+x*p2 m1) (m1+1) /\
  Box ((wr.setCell ⟨g,m1/8,none⟩ (.int .u8 ((L:Int)+(X:Int)))).setCell ⟨b,1,none⟩ (.int .i64 ((m1:Int)+1))).drew P p q /\
  Below b w ((wr.setCell ⟨g,m1/8,none⟩ (.int .u8 ((L:Int)+(X:Int)))).setCell ⟨b,1,none⟩ (.int .i64 ((m1:Int)+1))).drew /\
  cx b w ((wr.setCell ⟨g,m1/8,none⟩ (.int .u8 ((L:Int)+(X:Int)))).setCell ⟨b,1,none⟩ (.int .i64 ((m1:Int)+1))).drew:=by
 have e:((UInt8.ofNat (L+X)).toNat:Int)=(L:Int)+(X:Int):=by rw[h];omega
 rw[e]at a;refine⟨⟨k,.slice g (leS (m1/8+1) V1).length cap,?_,?_⟩,?_,?_,?_⟩
 . exact((j.other (by omega) _).set1 _).drew
 . rw[l];exact(a.set _).drew
 . exact((d.set (by omega) _).set (by omega) _).drew
 . exact(ai (ai c (by omega) _) (a0a _) _).drew
 . exact((i.setRow f _).set _).drew
def PI(b V m:Nat)(num bits:Int)(w:World)(h:lV w b V m)(hp:pOk num bits=true)(hm:m<=100000) :
  Calls prog 324 #[.pointer b,.agg #[num,bits]] w fun e w'=>e = .returned (.int .i64 num) /\
   lV w' b (V+num.toNat*p2 m) (m+bits.toNat)/\Below b w w'/\cx b w w':=by
 obtain⟨⟨b0,b1⟩,n0,n1⟩:=aT.1 hp;have hq:=(Ip bits b1).2;obtain⟨n,rfl⟩:=a0r n0;obtain⟨c,rfl⟩:=a0r b0;rw[a0n,a0n];rw[a0n]at n1 hq;have Z:Hid (n%p2 c=n):=a1g (by omega);have cu:(n:Int)<65536:=by omega
 obtain⟨i0,hi,b8,b9,ca⟩:=a0p Tryz.infoU8;have cs:b<w.heap.size:=by obtain⟨_,v,ht,_⟩:=h;exact ht.2.2.2.2
 have C:=Rh w (n:Int) (c:Int);have h0:lV (w.alloc (.cells #[.int .i64 (n:Int),.int .i64 (c:Int)] 167)) b V m:=by
  obtain⟨W,v,ht,hy⟩:=h;exact⟨W,v,ht.kept ((a0c _ _).alloc (by omega) _),a0o hy _⟩
 have A:Below b w (w.alloc (.cells #[.int .i64 (n:Int),.int .i64 (c:Int)] 167)):=(a0c _ _).alloc (by omega) _;clear n1 hq h hp;go_enter func324,ntmps324;go_wp2_with fail
 go_loopw [5,8] (fun _ i wr=>∃k:Nat,k<=c/\i = .int .i64 k/\lV wr b (V+n%p2 k*p2 m) (m+k)/\Box wr w.heap.size n c/\Below b w wr/\cx b w wr) (fun _ i _=>c-(intOf i).toNat)
 case atStart=>exact⟨0,a0g _,rfl,by simpa[p2,a1s]using h0,C,A,(cx.refl _ _).alloc _⟩
 case round=>
  obtain⟨k,hk,rfl,G,d,p,t⟩:=hrel;clear h0 C A;obtain⟨bc0,bc1,J⟩:=d.cells;by_cases b4:k<c
  .
   have Q:=af (BM V n k m);have b5:n/p2 k<=n:=a12 _ _;have ad:Hid ((n:Int)/2 ^ k=((n/p2 k:Nat):Int)):=(Int.natCast_ediv n (2 ^ k)).symm;obtain⟨W,v,bl,a⟩:=G;obtain⟨sa,scap,rfl⟩:=a.form;have a8:=vj (V+n%p2 k*p2 m) (m+k) W;generalize V+n%p2 k*p2 m=V1,a9:m+k=m1 at *;have hx:n/p2 k%2<=1:=(by omega);have bb:((n/p2 k:Nat):Int)<65536:=(by omega);have bc:=nT ((n/p2 k:Nat):Int) (a3J _) (Int.lt_trans bb (by omega));have b3:((n/p2 k:Nat):Int)%2=((n/p2 k%2:Nat):Int):=(by omega);rw[b3]at bc;have b6:p2 (m1%8)<=128:=rI (m1%8) 7 (by omega);have a2:n/p2 k%2*p2 (m1%8)<=1*p2 (m1%8):=a2f _ hx;have co:((n/p2 k%2:Nat):Int)*(2:Int) ^ (m1%8)=((n/p2 k%2*p2 (m1%8):Nat):Int):=(by rw[a1G,lP]);have K:n/p2 k%2*p2 (m1%8)=0∨n/p2 k%2*p2 (m1%8)=p2 (m1%8):=by
    rcases (show n/p2 k%2=0∨n/p2 k%2=1 by omega)with e|e<;>rw[e]<;>simp
   obtain⟨bn,bs⟩:=U5 V1 m1 (n/p2 k%2) W hx;have b2:=UY V1 m1 W;have cv:=IU (V1/p2 (8*(m1/8))) (n/p2 k%2*p2 (m1%8)) (m1%8) a8 (by omega) K;have H:=af (U4 V1 m1 W);have y:=af (U0 V1 m1);have O:(leS (m1/8+1) V1).length=m1/8+1:=aB _ _;have D:(leS ((m1+7)/8) V1).length=(m1+7)/8:=aB _ _;have F:m1<=100016:=(by omega);have z:V1/p2 (8*(m1/8))+n/p2 k%2*p2 (m1%8)<256:=(by omega);have a4:=qS _ z;have a6:(k:Int)<(c:Int):=(by omega);have cg:(k:Int)<=16:=(by omega);have be:(m1:Int)%8<8:=(by omega);have ch:(m1:Int)<=100016:=(by omega);have cr:((n/p2 k%2*p2 (m1%8):Nat):Int)<=128:=(by omega);have cp:((n/p2 k%2:Nat):Int)<=1:=(by omega);have ac:=af a9;have HK:=af hk;have s:=af O;have T:=af D;have U:=af F;have al:=af bn;have ao:=af bs;have a0:=af b2;have aa:=af a4;have cy:=ae ad;clear ad b3 K a8 b6 a2 bn bs b2 O D F z a4 b5 hx a9 hk W b4;generalize n/p2 k=nk at *;generalize nk%2=x at *;generalize x*p2 (m1%8)=X,V1/p2 (8*(m1/8))=L at *;have l:=af bl;obtain⟨k0,k1,f0,f1,cc⟩:=bl;have a1:w.heap.size≠b:=(by omega);by_cases hr:m1%8=0
   .
    have b7:((m1:Int)%8 == 0)=true:=by simp;omega
    have bd:=af (ae H hr);clear hr H y be hm;have a7:(leS ((m1+7)/8) V1).length<=20000:=by have:=ae T;have:=ae U;omega
    have ab:=af a7;clear a7;go_wp2_with (at_builtin;refine a0w _ rfl _ _ 22 rfl (b+1) 5 i0 (.int .u8 0) 1 1 a01 hi b8 b9 ca rfl (by decide) _ _ _ rfl (a0o a _) ⟨wr.heap.size,0,none⟩ 1 1 [.int .u8 0] rfl rfl (by intro j u hj;match j,hj with | 0,hj=>simp at hj;subst hj;simp[Addr.add]) (by intro u hu;simp at hu;subst hu;rfl) (by have:=ae ab;unfold maxLen;omega) (by have:=ae ab;omega) (by simp;omega) ?_;intro v' w' P q ba;clear ba;have B:=(d.alloc _).grown (a0o a _) q;have M:=(t.alloc (.cells #[.int .u8 0] 5)).grown (a0o a _) q;obtain⟨⟨g,cap,rfl⟩,T3,Y3,B3⟩:=PQ (x:=0) l a p ((a0c _ _).alloc (by omega) _) P q;clear P q a d p t l k0 k1 f0 f1;have T3':=af T3;obtain⟨k0,k1,f0,f1,a3⟩:=T3);have E:(leS ((m1+7)/8) V1).length+1=(leS (m1/8+1) V1).length:=by rw[←ae bd,a0i];rfl
    rw[E]at Y3 ⊢;have T4:=T3'.set0 (.slice g (leS (m1/8+1) V1).length cap);have a:=Y3.set (o:=0) (.slice g (leS (m1/8+1) V1).length cap);rw[ae bd]at a;have d:=B.set (b:=b) (o:=0) (by omega) (.slice g (leS (m1/8+1) V1).length cap);have t:=M.set (o:=0) (.slice g (leS (m1/8+1) V1).length cap);have p:Below b w _:=ai B3 (o:=0) (a0a _) (.slice g (leS (m1/8+1) V1).length cap);clear Y3 B3 T3' k0 k1 f0 f1 B M bc0 bc1 J E a3;generalize w'.setCell ⟨b,0,none⟩ (.slice g (leS (m1/8+1) V1).length cap)=wA at *;have l:=af T4;obtain⟨k0,k1,f0,f1,a3⟩:=T4;obtain⟨bc0,bc1,J⟩:=d.cells;obtain⟨gc,gf,gb⟩:=a.at (j:=m1/8) (by have:=ae s;omega);rw[ae a0]at gc;have I:=af (a.put (j:=m1/8) (UInt8.ofNat (L+X)));have Y:g≠w.heap.size:=d.ne a g rfl;have R:=af a;have S:=af t;clear t;have f:=ae s;rw[f]at k0;generalize hN:m1/8+1=N at k0;have a5:(m1:Int)/8<(N:Int):=(by omega);clear hN f a
    go_region
    all_goals
     go_wp2;go_roundw
     case rel=>
      have r:=Ae l I al ao aa gb Y a1 d p R S;refine⟨k+1,by have:=ae HK;omega,by go_num,?_,r.2.1,r.2.2.1,r.2.2.2⟩;rw[ae Q,show m+(k+1)=m1+1 by have:=ae ac;omega];exact r.1
     case measure=>simp[intOf];omega
   .
    have b7:((m1:Int)%8 == 0)=false:=by simp;omega
    have bk:=ae y hr;rw[bk]at a k0 l;obtain⟨g,cap,hform⟩:∃g cap,Value.slice sa (leS (m1/8+1) V1).length scap = .slice (some ⟨g,0,none⟩) (leS (m1/8+1) V1).length cap:=by
     rcases a.2 with⟨_,h0⟩|⟨g,cap,_,e,_⟩
     . have:=ae s;omega
     . exact⟨g,cap,e⟩
    rw[hform]at a k0 l;obtain⟨gc,gf,gb⟩:=a.at (j:=m1/8) (by have:=ae s;omega);rw[ae a0]at gc;have I:=af (a.put (j:=m1/8) (UInt8.ofNat (L+X)));have Y:g≠w.heap.size:=d.ne a g rfl;have R:=af a;have S:=af t;clear t;have f:=ae s;rw[f]at k0;generalize hN:m1/8+1=N at k0;have a5:(m1:Int)/8<(N:Int):=(by omega);clear hN f hform bk hr H y a hm be;go_wp2_with fail
    go_region
    all_goals
     go_wp2;go_roundw
     case rel=>
      have r:=Ae l I al ao aa gb Y a1 d p R S;refine⟨k+1,by have:=ae HK;omega,by go_num,?_,r.2.1,r.2.2.1,r.2.2.2⟩;rw[ae Q,show m+(k+1)=m1+1 by have:=ae ac;omega];exact r.1
     case measure=>simp[intOf];omega
  .
   have a6:k=c:=(by omega);subst a6;rw[ae Z]at G;go_wp2;go_ret;exact⟨rfl,G,p,t⟩
def Ints(w:World)(b:Nat)(v:Value)(xs:List Int):Prop:=w.ownsRow (b+1) 3 1 v xs.length (xs.map (Value.int .i64))
def Ints.keep(h:Ints w b v xs)(f:cx b w w'):Ints w' b v xs:=by
 refine⟨h.1,?_⟩;rcases h.2 with e|⟨g,cap,a,e,hb,c,i⟩
 . exact .inl e
 . refine .inr ⟨g,cap,a,e,hb,?_,i⟩;rw[f.2 g (Array.getElem?_eq_some_iff.1 c).1 (by omega) (fun d fr=>by rw[c];simp)];exact c
def Bys.other{o:Value}(h:Bys w b v l)(p:Ints w c o xs)(n:w.grownBy w' o.ownBlock):Bys w' b v l:=by
 refine a1V h n ?_;cases f:v.ownBlock with
 | none=>exact .inl rfl
 | some k=>
  refine .inr (fun e=>?_);rcases h.2 with⟨e1,_⟩|⟨g,cap,m,e1,_,d,_⟩
  . subst e1;simp[Value.ownBlock]at f
  .
   rcases p.2 with⟨e2,_⟩|⟨g2,i,j,e2,_,a,_⟩
   . subst e2;simp[Value.ownBlock]at e
   . subst e1 e2;simp only[Value.ownBlock,a0l]at f e;subst f;subst e;rw[d]at a;simp at a
def lV.alloc(h:lV w b V m)(o:Obj):lV (w.alloc o) b V m:=by
 obtain⟨c,v,a,d⟩:=h;exact⟨c,v,a.kept ((a0c _ _).alloc (by have:=a.2.2.2.2;omega) _),a0o d _⟩
def lV.other{o:Value}(h:lV w b V m)(c:Ints w b o xs)(a:w.grownBy w' o.ownBlock):lV w' b V m:=by
 obtain⟨e,v,d,g⟩:=h;exact⟨e,v,d.kept ((a0c _ _).grown a (by have:=d.2.2.2.2;omega) (fun k f=>(a0z c k f).1)),g.other c a⟩
def lV.lt(h:lV w b V m):b<w.heap.size:=by
 obtain⟨c,v,a,d⟩:=h;exact a.2.2.2.2
def Lx(a:Addr)(w:World):(method 487 235 (.pointer (some a)) "loop.example/corbel/impl.pass").run prog w = .ok (324,.pointer (some a)) w:=by kernel_rfl
def Kt(b:Nat)(a:Option Addr)(cap:Nat)(l:List (Int×Int))(w0 w:World)(h:pR w0 a l)(h0:Below b w0 w)(hs:w0.heap.size<=b)(hok:lOk l=true)(hw:lV w b 0 0) :
  Calls prog 169 #[.slice a l.length cap,.func (.method "loop.example/corbel/impl.pass") #[.iface 235 (.pointer b)] #[]] w fun e w'=>
   (∃v,e = .returned v)/\lV w' b (aV l).1 (aV l).2/\Below b w w':=by
 simp only[lOk,a0k,a2i]at hok;obtain⟨hall,h4⟩:=hok;have hall':=af hall;have H4:=af h4;have h4':(l.length:Int)<=4000:=by omega
 clear hall h4;obtain⟨i0,hi,hz0,hz1,hz2⟩:=a0p Tryz.infoInt;have mp:=Lx ⟨b,0,none⟩;go_enter func169,ntmps169;go_wp2_with fail
 go_loopw [5,7,10] (fun o _ i wr=>∃(k:Nat) (xs:List Int),k<=l.length/\i = .int .i64 k/\xs.length=k/\Ints wr b o xs/\lV wr b (aV (l.take k)).1 (aV (l.take k)).2/\Below b w wr) (fun _ _ i _=>l.length-(intOf i).toNat)
 case atStart=>exact⟨0,[],a0g _,rfl,rfl,a1b _ _ _ _,hw,a0c _ _⟩
 case round=>
  obtain⟨k,xs,hk,rfl,hxs,hints,hout,hbel⟩:=hrel;have hltb:=hout.lt;by_cases hlt:k<l.length
  .
   obtain⟨g,o,rfl,hg,hc⟩:=(h.below hs (h0.trans hbel)) (by omega);obtain⟨c0,c1⟩:=hc k hlt;have hmb:=tP (l.take k) (nh hall' k);obtain⟨s0,s1⟩:=IC (nh hall' k);have s2:((l.take k).length:Int)<=4000:=by simp;omega
   have hml:Hid ((aV (l.take k)).2<=64000):=by show(aV (l.take k)).2<=64000;omega
   have hpk:=af (JW hall' k hlt);have hstep:=af (Mz l k hlt);have HK:=af hk;have HX:=af hxs;clear hmb s0 s1 s2 hc hk hxs hw;generalize (l.getD k (0,0)).1=x,(l.getD k (0,0)).2=y,aV (l.take k)=S at *;go_wp2_with fail;refine(PI b S.1 S.2 x y _ (hout.alloc _) hpk (by have:=ae hml;omega)).mono ?_;rintro e w1⟨rfl,hout1,hbel1,hkp1⟩;have hints1:Ints w1 b u5 xs:=Ints.keep (a0o hints _) hkp1;have hbel2:=(hbel.alloc (a0s hltb) (.cells #[x,y] 167)).trans hbel1;have hlt1:=hout1.lt;clear hout hints hbel hbel1 hkp1;go_wp2_with (at_builtin;refine a0w _ rfl _ _ 129 rfl (b+1) 3 i0 (.int .i64 0) 1 8 a0F hi hz0 hz1 hz2 rfl (by decide) _ _ _ rfl (a0o hints1 _) ⟨w1.heap.size,0,none⟩ 1 1 [.int .i64 x] rfl rfl (by intro j u hj;match j,hj with | 0,hj=>simp at hj;subst hj;simp[Addr.add]) (by intro u hu;simp at hu;subst hu;rfl) (by have:=ae HX;have:=ae H4;unfold maxLen;omega) (by have:=ae HX;have:=ae H4;omega) (by simp;omega) ?_;intro v' w2 hown hgrow hnil;clear hnil);have hout2:lV w2 b _ _:=(hout1.alloc (.cells #[x] 3)).other (a0o hints1 _) hgrow;have hints2:Ints w2 b v' (xs++[x]):=by
    show World.ownsRow _ _ _ _ _ (xs++[x]).length _;simpa using hown
   have hbel3:Below b w w2:=(hbel2.alloc (a0s hlt1) _).grown hgrow (by simp;omega) (fun j hj=>a0s (a0z hints1 j hj).1);clear hown hgrow hints1 hout1 hbel2;go_wp2;go_roundw
   case rel=>exact⟨k+1,xs++[x],by have:=ae HK;omega,by go_num,by have:=ae HX;simp;omega,hints2,by rw[ae hstep];exact hout2,hbel3⟩
   case measure=>simp[intOf];omega
  .
   have hlk:Hid (l.take k=l):=a0t (by omega);clear h hw;obtain⟨va,vc,rfl⟩:∃va vc,u5 = .slice va xs.length vc:=by
    rcases hints.2 with⟨e,h0⟩|⟨g,cp,_,e,_⟩
    . exact⟨none,0,by rw[e,h0]⟩
    . exact⟨_,cp,e⟩
   go_wp2;go_ret;rw[ae hlk]at hout;exact⟨⟨_,rfl⟩,hout,hbel⟩
def MB(b:Nat)(a:Option Addr)(cap:Nat)(l:List (Int×Int))(w0 w:World)(h:pR w0 a l)(g:Below b w0 w)(i:w0.heap.size<=b)(f:lOk l=true)(j:lV w b 0 0) :
  Calls prog 136 #[.iface 235 (.pointer b),.slice a l.length cap] w fun e w'=>
   (∃v,e = .returned v)/\lV w' b (aV l).1 (aV l).2/\Below b w w':=by
 go_enter func136,ntmps136;go_wp2_with fail;apply(Kt b a cap l w0 _ h g i f j).mono;rintro e w1⟨⟨v,rfl⟩,d,c⟩;go_wp2;go_ret;exact⟨⟨_,rfl⟩,d,c⟩
def QM(w:World)(t:TypeId):lV (w.alloc (.cells #[.slice none 0 0,.int .i64 0] t)) w.heap.size 0 0:=
 ⟨by decide,.slice none 0 0,⟨by simp,by simp,by simp,by simp,by simp⟩,a1b _ _ _ _⟩
def ia(a:Option Addr)(cap:Nat)(l:List (Int×Int))(w:World)(h:pR w a l)(m:l.length<=1000000000) :
  Ds 142 #[.slice a l.length cap] w (.string ⟨(pC l).toArray⟩):=by
 cases b:lOk l
 . have i:=af (SG b);have g:=xe b;go_enter func142,ntmps142;go_wp2_with (go_at_call 135;apply(ja _ _ _ _ h m).mono;rintro e w1⟨rfl,c⟩;rw[g]);go_ret;exact⟨Jy (a:=[]) i.symm,c⟩
 .
  have i:=af (ee b);have g:=ti b;have d:aZ l=true:=by simp only[lOk,a0k]at b;exact b.1
  obtain⟨s0,_⟩:=IC d;generalize cq l=sb at *;clear d;go_enter func142,ntmps142;go_wp2_with fail;apply(ja _ _ _ _ h m).mono;rintro e w1⟨rfl,c⟩;rw[g];clear g;have o:=h.later c;go_wp2_with fail;apply(MB w1.heap.size a cap l w1 _ o cC (a0a _) b (QM w1 _)).mono;rintro e w2⟨⟨v0,rfl⟩,⟨_,v,T,Y⟩,j⟩;have k:=mD Y;obtain⟨va,vc,rfl⟩:=Y.form;obtain⟨k0,q,f0,f1,p⟩:=T;clear q Y;generalize f:(leS (((aV l).2+7)/8) (aV l).1)=res at *;have n:Hid (res=pC l):=by have h:=ae i;rw[h,←f];exact rfl
  clear f;go_wp2;go_ret;exact⟨Jy n,aj c (cC.trans j)⟩
def zv(q k V W:Nat)(a:V<2 ^ (8*q)):leS (q+k) (V+W*2 ^ (8*q))=leS q V++leS k W:=by
 induction k with
 | zero=>simp[leS,vm q V W (8*q) (a0a _)]
 | succ k ih=>
  rw[show q+(k+1)=(q+k)+1 by omega];simp only[leS];rw[ih,a0I]
  congr 3
  have e:2 ^ (8*(q+k))=2 ^ (8*q)*2 ^ (8*k):=by rw[←a0T];congr 1;omega
  rw[e,←a1Y,Nat.add_mul_div_right _ _ (a1p _),a1Z a,a0G]
def Iq(V m:Nat)(l:List (Nat×Nat)):jh (V,m) l=(V+(jh (0,0) l).1*2 ^ m,m+(jh (0,0) l).2):=by
 have key:∀(l:List (Nat×Nat)) (W k:Nat),jh (V+W*2 ^ m,m+k) l=(V+(jh (W,k) l).1*2 ^ m,m+(jh (W,k) l).2):=by
  intro l;induction l with
  | nil=>intro W k;rfl
  | cons p l ih=>
   intro W k;simp only[jh];have e:V+W*2 ^ m+p.1*2 ^ (m+k)=V+(W+p.1*2 ^ k)*2 ^ m:=by
    rw[a1y,a0T,a1R,a1j (2 ^ m)];omega
   rw[e,a2a m k p.2];exact ih _ _
 have:=key l 0 0;simpa using this
def ly(l m:List (Int×Int)):aV (l++m)=((aV l).1+(aV m).1*2 ^ (aV l).2,(aV l).2+(aV m).2):=by
 rw[aV,oh,a0K,ou];exact Iq _ _ _
def qL(l m:List (Int×Int)):aZ (l++m)=(aZ l&&aZ m):=by simp[aZ]
def UM(a:List (Int×Int))(j:a.length<=12)(h:lOk a=true)(p:Int)(i:p=(8-pJ a%8)%8) :
  lOk (a++[(0,p)])=true/\pC (a++[(0,p)])=pC a/\(aV (a++[(0,p)])).2%8=0:=by
 have b:aZ a=true:=by simp only[lOk,a0k]at h;exact h.1
 have c:=tP a b;rw[ti h,←c]at i;have e:0<=p/\p<=7/\((aV a).2+p.toNat)%8=0:=by omega
 have f:pOk 0 p=true:=by
  have:=mW p.toNat
  rw[aT];exact⟨⟨by omega,by omega⟩,by omega,by omega⟩
 have d:lOk (a++[(0,p)])=true:=by
  simp only[lOk,a0k,a2i];refine⟨by simp[aZ,f];simpa[aZ]using b,by simp;omega⟩
 have g:aV (a++[(0,p)])=((aV a).1,(aV a).2+p.toNat):=by
  rw[ly];simp[aV,oh,jh]
 refine⟨d,?_,by rw[g];exact e.2.2⟩;rw[ee d,ee h,cS,cS,g];rw[show((aV a).2+p.toNat+7)/8=((aV a).2+7)/8 by omega]
def JM(f b:List (Int×Int))(d:lOk f=true)(hb:lOk b=true)(l:f.length+b.length<=4000)(i:(aV f).2%8=0):pC (f++b)=pC f++pC b:=by
 have a:aZ f=true:=by simp only[lOk,a0k]at d;exact d.1
 have c:aZ b=true:=by simp only[lOk,a0k]at hb;exact hb.1
 have h:lOk (f++b)=true:=by
  simp only[lOk,a0k,a2i,qL];exact⟨⟨a,c⟩,by simpa using l⟩
 rw[ee h,ee d,ee hb,cS,cS,cS,ly];have g:=Cf f a;generalize aV f=F,aV b=B at *;obtain⟨V,m⟩:=F;obtain⟨W,k⟩:=B;have j:m%8=0:=i;have e:m=8*(m/8):=by omega
 show leS ((m+k+7)/8) (V+W*2 ^ m)=leS ((m+7)/8) V++leS ((k+7)/8) W;rw[show(m+k+7)/8=m/8+(k+7)/8 by omega,show(m+7)/8=m/8 by omega];have:=zv (m/8) ((k+7)/8) V W (by rw[←e];exact g);rw[←e]at this;exact this
def OL(V:Nat):leS 4 V=leS 2 (V%65536)++leS 2 (V/65536):=by
 have:=zv 2 2 (V%65536) (V/65536) (a0Z _ (by decide));rw[←this]
 congr 1
 show V=V%65536+V/65536*2 ^ 16;omega
def fG(ws:List Nat):List (Int×Int):=ws.map fun(x:Nat)=>(((x:Nat):Int),(16:Int))
def FR{ws:List Nat}(h:∀x∈ws,x<65536)(c:ws.length<=100):lOk (fG ws)=true:=by
 unfold lOk;simp only[a0k,a0v];refine⟨?_,by unfold fG;rw[a0O];omega⟩;unfold aZ fG;rw[List.all_map,a1c];intro x b;have a:p2 (16:Int).toNat=65536:=by decide
 have:=h x b;show pOk ((x:Nat):Int) 16=true;exact aT.2 ⟨by omega,by omega,by rw[a];omega⟩
def MD{ws:List Nat}(h:∀x∈ws,x<65536)(b:ws.length<=100):pC (fG ws)=ws.flatMap (leS 2):=by
 induction ws with
 | nil=>decide
 | cons x ws ih=>
  have d:x<65536:=h x (by simp);have c:lOk (fG [x])=true:=FR (fun y a=>by rw[a09.1 a];exact d) (by simp);have h2:lOk (fG ws)=true:=FR (fun y a=>h y (by simp[a])) (by simp at b;omega);have e:fG (x :: ws)=fG [x]++fG ws:=rfl;have e1:aV (fG [x])=(x,16):=by simp[aV,oh,jh,fG]
  rw[e,JM _ _ c h2 (by unfold fG;simp at b ⊢;omega) (by rw[e1];exact(by decide:(16:Nat)%8=0)),ih (fun y a=>h y (by simp[a])) (by simp at b;omega),ee c,cS,e1,a0W];show leS ((16+7)/8) x++_=_;rw[show(16+7)/8=2 by decide]
def aP(V many:Nat)(w:World)(M:V<1099511627776)(P:many<=10) :
  Ds 92 #[.int .i64 (V:Int),.int .i64 (many:Int)] w (.string ⟨(leS many V).toArray⟩):=by
 obtain⟨i0,H,A,B,C⟩:=a0p Tryz.infoU8;have J:(many:Int)<=10:=by omega
 have p:Hid (bC (w.alloc (.cells #[] 5)) w.heap.size (.slice w.heap.size 0 0) (leS 0 V)):=bC.lit _ _ (a0a _);have j:Hid (Below w.heap.size w (w.alloc (.cells #[] 5))):=cC;go_enter func92,ntmps92;go_wp2_with fail
 go_loopw [0,5,6] (fun x v i wr=>∃k:Nat,k<=many/\i = .int .i64 k/\x = .int .i64 ((V/2 ^ (8*k):Nat):Int)/\bC wr w.heap.size v (leS k V)/\Below w.heap.size w wr) (fun _ _ i _=>many-(intOf i).toNat)
 case atStart=>exact⟨0,a0g _,rfl,by simp,p,j⟩
 case round=>
  obtain⟨k,O,rfl,rfl,hq,a⟩:=hrel;have e:Hid ((leS k V).length=k):=aB k V;obtain⟨va,vc,rfl⟩:=hq.formN e;clear p j;by_cases I:k<many
  .
   have n:(k:Int)<(many:Int):=(by omega);have N:V/2 ^ (8*k)<=V:=a12 _ _;have s:Hid (leS k V++[UInt8.ofNat (V/2 ^ (8*k)%256)]=leS (k+1) V):=rfl;have m:Hid (V/2 ^ (8*k)/256=V/2 ^ (8*(k+1))):=by show _=_;rw[a1Y,show 8*(k+1)=8*k+8 by omega,a0T]
   generalize V/2 ^ (8*k)=x at *;have K:(x:Int)<=1099511627776:=(by omega);obtain⟨y,hy⟩:∃y,x%256=y:=⟨_,rfl⟩;have u:(x:Int)%256=(y:Int):=(by omega);have L:Int.tmod (x:Int) 256=(y:Int):=by rw[a14 (by omega)];exact u
   have Q:IntKind.u8.wrap (y:Int)=(y:Int):=by simp only[IntKind.wrap,IntKind.bits,IntKind.signed];simp;omega
   have z:((UInt8.ofNat y).toNat:Int)=(y:Int):=by rw[a3h];omega
   obtain⟨d,hd⟩:∃d,x/256=d:=⟨_,rfl⟩;have G:(x:Int)/256=(d:Int):=(by omega);rw[hy]at s;rw[hd]at m;have D:Hid (k+1<=maxLen/\(k+1)*1<=140737488355328):=by show _/\_;unfold maxLen;omega
   have r:=af (hq.own e);have l:=a.size;have h:=af a;clear hq a hy hd;go_wp2_with (at_builtin;refine a0w _ rfl _ _ 22 rfl w.heap.size 5 i0 (.int .u8 0) 1 1 a01 H A B C rfl (by decide) _ _ _ rfl (a0o r _) ⟨wr.heap.size,0,none⟩ 1 1 [.int .u8 (y:Int)] rfl rfl (cK _ _ rfl _ _) (one_byte _) D.1 D.2 (ar l _) ?_;intro v' x2 g c o;clear o);have t:=aH (v:=.slice va k vc) c r (a0a _) l h;have f:World.ownsRow x2 w.heap.size 5 1 v' (k+1) (dD (leS k V)++[.int .u8 ((UInt8.ofNat y).toNat:Int)]):=by rw[z];exact g
   have q:=f9 (b:=UInt8.ofNat y) e f;rw[ae s]at q;clear g f c;go_wp2;go_roundw
   case rel=>exact⟨k+1,by omega,by go_num,by rw[←ae m],q,t⟩
   case measure=>simp[intOf];omega
  .
   obtain rfl:k=many:=by omega
   have n:¬ (k:Int)<(k:Int):=(by omega);have F:=hq.text;have E:=af a;clear hq a;go_wp2;go_ret;exact⟨rfl,E⟩
def dB(ws:List Nat):List Int:=ws.map fun(x:Nat)=>((x:Nat):Int)
def MC(ws:List Nat)(k:Nat)(h:k<ws.length):(dB ws).getD k 0=((ws.getD k 0:Nat):Int):=by
 unfold dB;simp[List.getD,h]
def IW(ws:List Nat)(k:Nat)(h:k<ws.length):fG (ws.take (k+1))=fG (ws.take k)++[(((ws.getD k 0:Nat):Int),(16:Int))]:=by
 unfold fG;rw[a1e h,a0K];simp[List.getD,h]
def QL(x:Int)(w:World):Ds 143 #[x] w (.agg #[x,.int .i64 16]):=by
 go_enter func143,ntmps143;go_wp2;refine a0x (v:=.agg #[x,.int .i64 16]) (by simp[results,results143,go_sem]) rfl ⟨rfl,?_⟩;exact cC
def GA(a:Option Addr)(cap n:Nat)(ws:List Nat)(w:World)(B:ws.length=n)(h:bE w a (dB ws))(I:n<=100) :
  Calls prog 133 #[.slice a n cap,.func (.func 143) #[] #[]] w fun e w'=>∃v,e = .returned v/\Pcs w' w.heap.size v (fG ws)/\Below w.heap.size w w':=by
 have O:(n:Int)<=100:=by omega
 have x:=af B;have M:=af I;have G:Hid ((dB ws).length=n):=by show _=_;unfold dB;rw[a0O];exact B
 clear B I;obtain⟨i0,N,D,E,F⟩:=a0p Tryz.infoPiece;go_enter func133,ntmps133;go_wp2_with fail
 go_loopw [5,7,10] (fun o _ i wr=>∃k:Nat,k<=n/\i = .int .i64 k/\Pcs wr w.heap.size o (fG (ws.take k))/\Below w.heap.size w wr) (fun _ _ i _=>n-(intOf i).toNat)
 case atStart=>exact⟨0,a0g _,rfl,a1b _ _ _ _,a0c _ _⟩
 case round=>
  obtain⟨k,H,rfl,hq,b⟩:=hrel;by_cases p:k<n
  .
   obtain⟨g,o,rfl,P,r⟩:=(h.later b) (by rw[ae G];omega);have c0:=r k (by rw[ae G];exact p);rw[MC ws k (by rw[ae x];exact p)]at c0;have C:=af (IW ws k (by rw[ae x];exact p));have A:Hid ((fG (ws.take k)).length=k):=by show _=_;unfold fG;have:=ae x;simp;omega
   have L:=af H;clear r H h;generalize ((ws.getD k 0:Nat):Int)=y at *;have HP:=af (QL y wr);go_wp2_with fail;apply HP.mono;rintro e x1⟨rfl,m⟩;have q:=Pcs.later hq m (a0a _);have c:=aj b m;have j:=c.size;have f:Hid ((fG (ws.take k)).length+1<=maxLen/\((fG (ws.take k)).length+1)*16<=140737488355328):=by
    show _/\_;rw[ae A];have:=ae M;unfold maxLen;omega
   clear hq b m HP;go_wp2_with (at_builtin;refine a0w _ rfl _ _ 164 rfl w.heap.size 167 i0 (.agg #[.int .i64 0,.int .i64 0]) 2 16 a1C N D E F rfl (by decide) _ _ _ rfl (a0o q _) ⟨x1.heap.size,0,none⟩ 1 1 [.int .i64 y,.int .i64 16] rfl rfl (vv x1 _ _ _) (vu _ _) f.1 f.2 (ar j _) ?_;intro v' x2 l d t;clear t);have z:=aH (v:=u5) d q (a0a _) j c;have u:=ot l;rw[←ae C]at u;clear l d q;go_wp2;go_roundw
   case rel=>exact⟨k+1,by have:=ae L;omega,by go_num,u,z⟩
   case measure=>simp[intOf];omega
  . have s:ws.take k=ws:=a0t (by rw[ae x];omega);rw[s]at hq;have K:=af hq;have J:=af b;clear hq b s;go_wp2;go_ret;exact⟨_,rfl,K,J⟩
def ef(a:Option Addr)(cap n:Nat)(ws:List Nat)(w:World)(l:ws.length=n)(h:bE w a (dB ws))(k:n<=100)(p:∀x∈ws,x<65536) :
  Ds 110 #[.slice a n cap] w (.string ⟨(ws.flatMap (leS 2)).toArray⟩):=by
 have m:=af (GA a cap n ws w l h k);have r:=af (MD p (by omega));have o:(fG ws).length=n:=by unfold fG;rw[a0O];exact l
 have d:=af o;have s:=af k;clear l h k p o;go_enter func110,ntmps110;go_wp2_with fail;apply m.mono;rintro e w1⟨v,rfl,j,b⟩;obtain⟨a1,c1,rfl⟩:=j.formN d;have g:=ia a1 c1 (fG ws) w1 (j.rowN d) (by have:=ae d;have:=ae s;omega);rw[ae r,ae d]at g;have i:=af g;have q:=af b;clear j b g m;go_wp2_with fail;apply i.mono;rintro e w2⟨rfl,c⟩;have f:=af (aj q c);clear c;go_wp2;go_ret;exact⟨rfl,f⟩
def ec(V:Nat)(w:World)(k:V<4294967296) :
  Ds 111 #[.int .i64 (V:Int)] w (.string ⟨(leS 4 V).toArray⟩):=by
 have e1:bits .and .i64 (V:Int) 65535=((V%65536:Nat):Int):=by
  have:=DV (V:Int) (by omega) (by omega);rw[this];omega
 have d:Hid ([V%65536,V/65536].flatMap (leS 2)=leS 4 V):=by
  show _=_;rw[OL];simp
 have hq:V/65536<65536:=by omega
 have f:Hid (bE (w.alloc (.cells #[.int .i64 ((V%65536:Nat):Int),.int .i64 ((V/65536:Nat):Int)] 3)) (some ⟨w.heap.size,0,none⟩) (dB [V%65536,V/65536])):=by
  intro _;refine⟨w.heap.size,0,rfl,by simp,fun i j=>?_⟩
  match i,j with
  | 0,_=>simp[dB]
  | 1,_=>simp[dB]
 have c:=af (ef (some ⟨w.heap.size,0,none⟩) 2 2 [V%65536,V/65536] _ rfl f (by omega) (fun x b=>by
  simp only[a02,List.mem_nil_iff,a1v]at b;rcases b with rfl|rfl
  . exact a0Z _ (by decide)
  . exact hq))
 rw[ae d]at c;have g:Hid (Below w.heap.size w (w.alloc (.cells #[.int .i64 ((V%65536:Nat):Int),.int .i64 ((V/65536:Nat):Int)] 3))):=cC;generalize b:V%65536=x,l:V/65536=y at *;have e2:(V:Int)/65536=(y:Int):=by omega
 clear d f b;go_enter func111,ntmps111;go_wp2_with fail;apply c.mono;rintro e w1⟨rfl,a⟩;have h:=af (aj g a);clear a;go_wp2;go_ret;exact⟨rfl,h⟩
def QW(W:World)(g:Nat)(how st crc pk lg:Nat)(nm:ByteArray):Prop:=W.cell? ⟨g,0,none⟩=some (.int .i64 (how:Nat))/\W.cell? ⟨g,1,none⟩=some (.int .i64 (st:Nat))/\W.cell? ⟨g,2,none⟩=some (.int .i64 (crc:Nat))/\W.cell? ⟨g,3,none⟩=some (.int .i64 (pk:Nat))/\W.cell? ⟨g,4,none⟩=some (.int .i64 (lg:Nat))/\W.cell? ⟨g,5,none⟩=some (.string nm)
def yk(w:World)(how st crc pk lg:Nat)(nm:ByteArray)(W:World):Prop:=Below w.heap.size w W/\w.heap.size<W.heap.size/\QW W w.heap.size how st crc pk lg nm
def yk.later{W':World}(h:yk w how st crc pk lg nm W)(hb:Below W.heap.size W W'):yk w how st crc pk lg nm W':=by
 have a:∀j,W'.cell? ⟨w.heap.size,j,none⟩=W.cell? ⟨w.heap.size,j,none⟩:=fun j=>hb.cell (p:=⟨w.heap.size,j,none⟩) h.2.1;exact⟨h.1.trans (hb.mono (a0s h.2.1)),a0h h.2.1 hb.size,(a 0).trans h.2.2.1,(a 1).trans h.2.2.2.1,(a 2).trans h.2.2.2.2.1,(a 3).trans h.2.2.2.2.2.1,(a 4).trans h.2.2.2.2.2.2.1,(a 5).trans h.2.2.2.2.2.2.2⟩
def Mn(W:World)(x y z:Nat):bE (W.alloc (.cells #[.int .i64 ((x:Nat):Int),.int .i64 ((y:Nat):Int),.int .i64 ((z:Nat):Int)] 3)) (some ⟨W.heap.size,0,none⟩) (dB [x,y,z]):=by
 intro _;refine⟨W.heap.size,0,rfl,by simp,fun i a=>?_⟩
 match i,a with
 | 0,_=>simp[dB]
 | 1,_=>simp[dB]
 | 2,_=>simp[dB]
def S8(W:World)(x y:Nat):bE (W.alloc (.cells #[.int .i64 ((x:Nat):Int),.int .i64 ((y:Nat):Int)] 3)) (some ⟨W.heap.size,0,none⟩) (dB [x,y]):=by
 intro _;refine⟨W.heap.size,0,rfl,by simp,fun i a=>?_⟩
 match i,a with
 | 0,_=>simp[dB]
 | 1,_=>simp[dB]
def yj(w:World)(how st crc pk lg:Nat)(nm:ByteArray)(W:World)(r0 r1:Option Nat):Prop:=yk w how st crc pk lg nm W/\(∀g,r0=some g->bE W (some ⟨g,0,none⟩) (dB [20,0,how]))/\∀g,r1=some g->bE W (some ⟨g,0,none⟩) (dB [nm.size,0])
def yj.later{W':World}{a b:Option Nat}(h:yj w how st crc pk lg nm W a b)(hb:Below W.heap.size W W'):yj w how st crc pk lg nm W' a b:=⟨h.1.later hb,fun g e=>(h.2.1 g e).later hb,fun g e=>(h.2.2 g e).later hb⟩
def yj.new0{a:Option Nat}(h:yj w how st crc pk lg nm W none a):yj w how st crc pk lg nm (W.alloc (.cells #[.int .i64 20,.int .i64 0,.int .i64 ((how:Nat):Int)] 3)) (some W.heap.size) a:=by
 have h2:=h.later ((a0c W.heap.size W).alloc (a0a _) (.cells #[.int .i64 20,.int .i64 0,.int .i64 ((how:Nat):Int)] 3));exact⟨h2.1,fun g e=>by cases e;exact Mn W 20 0 how,h2.2.2⟩
def yj.new1{a:Option Nat}(h:yj w how st crc pk lg nm W a none):yj w how st crc pk lg nm (W.alloc (.cells #[.int .i64 ((nm.size:Nat):Int),.int .i64 0] 3)) a (some W.heap.size):=by
 have h2:=h.later ((a0c W.heap.size W).alloc (a0a _) (.cells #[.int .i64 ((nm.size:Nat):Int),.int .i64 0] 3));exact⟨h2.1,h2.2.1,fun g e=>by cases e;exact S8 W nm.size 0⟩
def ax(l:List UInt8):ByteArray:=⟨l.toArray⟩
def fp(how st crc pk lg n:Nat):ByteArray:=ax ([20,0,how].flatMap (leS 2))++ax (leS 4 st)++ax (leS 4 crc)++ax (leS 4 pk)++ax (leS 4 lg)++ax ([n,0].flatMap (leS 2))
def FH(how st crc pk lg:Nat)(nm:ByteArray)(w:World)(A:how<65536)(u:st<4294967296)(h2:crc<4294967296)(y:pk<4294967296)(z:lg<4294967296)(B:nm.size<65536) :
  Ds 139 #[.agg #[how,st,crc,pk,lg,nm]] w (.string (fp how st crc pk lg nm.size)):=by
 have p:=cE
 have q:Hid (∀g W,bE W (some ⟨g,0,none⟩) (dB [20,0,how])->Ds 110 #[.slice (some ⟨g,0,none⟩) 3 3] W (.string (ax ([20,0,how].flatMap (leS 2))))):=fun g W h=>ef _ 3 3 [20,0,how] W rfl h (by omega) (fun x t=>by simp at t;omega);have r:Hid (∀g W,bE W (some ⟨g,0,none⟩) (dB [nm.size,0])->Ds 110 #[.slice (some ⟨g,0,none⟩) 2 2] W (.string (ax ([nm.size,0].flatMap (leS 2))))):=fun g W h=>ef _ 2 2 [nm.size,0] W rfl h (by omega) (fun x t=>by simp at t;omega);have k:Hid (∀W,Ds 111 #[.int .i64 (st:Int)] W (.string (ax (leS 4 st)))):=fun W=>ec st W u;have m:Hid (∀W,Ds 111 #[.int .i64 (crc:Int)] W (.string (ax (leS 4 crc)))):=fun W=>ec crc W h2;have n:Hid (∀W,Ds 111 #[.int .i64 (pk:Int)] W (.string (ax (leS 4 pk)))):=fun W=>ec pk W y;have o:Hid (∀W,Ds 111 #[.int .i64 (lg:Int)] W (.string (ax (leS 4 lg)))):=fun W=>ec lg W z;have j:∀l:List UInt8,(ax l).size=l.length:=fun l=>by simp[ax,ByteArray.size]
 have z0:((ax ([20,0,how].flatMap (leS 2))).size:Int)<=100:=by rw[j];simp[aB]
 have z5:((ax ([nm.size,0].flatMap (leS 2))).size:Int)<=100:=by rw[j];simp[aB]
 have z1:((ax (leS 4 st)).size:Int)<=100:=by rw[j,aB];omega
 have z2:((ax (leS 4 crc)).size:Int)<=100:=by rw[j,aB];omega
 have z3:((ax (leS 4 pk)).size:Int)<=100:=by rw[j,aB];omega
 have z4:((ax (leS 4 lg)).size:Int)<=100:=by rw[j,aB];omega
 unfold fp;generalize ax ([20,0,how].flatMap (leS 2))=A0,ax ([nm.size,0].flatMap (leS 2))=A5,ax (leS 4 st)=A1,ax (leS 4 crc)=A2,ax (leS 4 pk)=A3,ax (leS 4 lg)=A4 at *;have C:(nm.size:Int)<65536:=by omega
 have T0':Hid (yk w how st crc pk lg nm (w.alloc (.cells #[how,st,crc,pk,lg,nm] 62))):=⟨cC,by simp,by simp,by simp,by simp,by simp,by simp,by simp⟩;clear A u h2 y z B j;go_enter func139,ntmps139;go_wp2_with fail;obtain⟨W0,hW0⟩:∃x,w.alloc (.cells #[how,st,crc,pk,lg,nm] 62)=x:=⟨_,rfl⟩;rw[hW0]at T0';rw[hW0];have T0:=T0';clear T0' hW0;refine wp_region_held_drew (S:=fun W=>QW W w.heap.size how st crc pk lg nm) p T0.2.2 (fun c=>?_);refine ag 0 (.pointer w.heap.size) rfl (fun W a=>by obtain⟨s0,s1,s2,s3,s4,s5⟩:=a;go_simp) c ?_;refine ag 1 (.int .i64 (how:Nat)) rfl (fun W a=>by obtain⟨s0,s1,s2,s3,s4,s5⟩:=a;go_simp) c ?_;refine ag 4 (.pointer (some ⟨w.heap.size,1,none⟩)) rfl (fun W a=>by obtain⟨s0,s1,s2,s3,s4,s5⟩:=a;go_simp) c ?_;refine ag 5 (.int .i64 (st:Nat)) rfl (fun W a=>by obtain⟨s0,s1,s2,s3,s4,s5⟩:=a;go_simp) c ?_;refine ag 8 (.pointer (some ⟨w.heap.size,2,none⟩)) rfl (fun W a=>by obtain⟨s0,s1,s2,s3,s4,s5⟩:=a;go_simp) c ?_;refine ag 9 (.int .i64 (crc:Nat)) rfl (fun W a=>by obtain⟨s0,s1,s2,s3,s4,s5⟩:=a;go_simp) c ?_;refine ag 12 (.pointer (some ⟨w.heap.size,3,none⟩)) rfl (fun W a=>by obtain⟨s0,s1,s2,s3,s4,s5⟩:=a;go_simp) c ?_;refine ag 13 (.int .i64 (pk:Nat)) rfl (fun W a=>by obtain⟨s0,s1,s2,s3,s4,s5⟩:=a;go_simp) c ?_;refine ag 16 (.pointer (some ⟨w.heap.size,4,none⟩)) rfl (fun W a=>by obtain⟨s0,s1,s2,s3,s4,s5⟩:=a;go_simp) c ?_;refine ag 17 (.int .i64 (lg:Nat)) rfl (fun W a=>by obtain⟨s0,s1,s2,s3,s4,s5⟩:=a;go_simp) c ?_;refine ag 20 (.pointer (some ⟨w.heap.size,5,none⟩)) rfl (fun W a=>by obtain⟨s0,s1,s2,s3,s4,s5⟩:=a;go_simp) c ?_;refine ag 21 (.string nm) rfl (fun W a=>by obtain⟨s0,s1,s2,s3,s4,s5⟩:=a;go_simp) c ?_;refine ag 22 (.int .i64 (nm.size:Nat)) rfl (fun W a=>by obtain⟨s0,s1,s2,s3,s4,s5⟩:=a;go_simp) c ?_;have b:yj w how st crc pk lg nm W0.drew none none:=⟨⟨T0.1.drew,T0.2.1,T0.2.2⟩,nofun,nofun⟩;generalize W0.drew=W at b c ⊢;refine wpAnyH_ready (rs:=[2,23]) (by kernel_rfl) (by simp) ?_;repeat' first
  | exact AllReadyH.nil
  | refine AllReadyH.cons rfl (fun K d=>?_) ?_
  | (refine kg 5 rfl ?_;go_simp;have b:=b.new0;refine Shut.out d _ _ b.1.2.2 (fun c=>?_);clear d K;generalize W.alloc (.cells #[.int .i64 20,.int .i64 0,.int .i64 ((how:Nat):Int)] 3)=V at b c ⊢;generalize W.heap.size=g at b ⊢;revert V;intro W c b;(first|refine wpAnyH_ready (rs:=[3,23]) (by decide +kernel) (by simp) ?_|refine wpAnyH_ready (rs:=[3]) (by decide +kernel) (by simp) ?_))
  | (refine kg 26 rfl ?_;go_simp;have b:=b.new1;refine Shut.out d _ _ b.1.2.2 (fun c=>?_);clear d K;generalize W.alloc (.cells #[.int .i64 ((nm.size:Nat):Int),.int .i64 0] 3)=V at b c ⊢;generalize W.heap.size=g at b ⊢;revert V;intro W c b;(first|refine wpAnyH_ready (rs:=[2]) (by decide +kernel) (by simp) ?_|refine wpAnyH_ready (rs:=[3]) (by decide +kernel) (by simp) ?_|refine wpAnyH_ready (rs:=[6]) (by decide +kernel) (by simp) ?_|refine wpAnyH_ready (rs:=[10]) (by decide +kernel) (by simp) ?_|refine wpAnyH_ready (rs:=[14]) (by decide +kernel) (by simp) ?_|refine wpAnyH_ready (rs:=[18]) (by decide +kernel) (by simp) ?_|refine wpAnyH_ready (rs:=[24]) (by decide +kernel) (by simp) ?_))
  | (refine kg 6 rfl ?_;go_simp;go_at_call 110;apply(q _ _ (b.2.1 _ rfl)).mono;rintro e W⟨rfl,f⟩;have b:=b.later f;refine Shut.out d _ _ b.1.2.2 (fun c=>?_);clear d K f;(first|refine wpAnyH_ready (rs:=[6,23]) (by decide +kernel) (by simp) ?_|refine wpAnyH_ready (rs:=[6]) (by decide +kernel) (by simp) ?_))
  | (refine kg 9 rfl ?_;go_simp;go_at_call 111;apply(k _).mono;rintro e W⟨rfl,f⟩;have b:=b.later f;refine Shut.out d _ _ b.1.2.2 (fun c=>?_);clear d K f;refine ag 7 (.string (A0++A1)) rfl (fun W a=>by go_simp<;>omega) c ?_;(first|refine wpAnyH_ready (rs:=[10,23]) (by decide +kernel) (by simp) ?_|refine wpAnyH_ready (rs:=[10]) (by decide +kernel) (by simp) ?_))
  | (refine kg 13 rfl ?_;go_simp;go_at_call 111;apply(m _).mono;rintro e W⟨rfl,f⟩;have b:=b.later f;refine Shut.out d _ _ b.1.2.2 (fun c=>?_);clear d K f;refine ag 11 (.string (A0++A1++A2)) rfl (fun W a=>by go_simp<;>omega) c ?_;(first|refine wpAnyH_ready (rs:=[14,23]) (by decide +kernel) (by simp) ?_|refine wpAnyH_ready (rs:=[14]) (by decide +kernel) (by simp) ?_))
  | (refine kg 17 rfl ?_;go_simp;go_at_call 111;apply(n _).mono;rintro e W⟨rfl,f⟩;have b:=b.later f;refine Shut.out d _ _ b.1.2.2 (fun c=>?_);clear d K f;refine ag 15 (.string (A0++A1++A2++A3)) rfl (fun W a=>by go_simp<;>omega) c ?_;(first|refine wpAnyH_ready (rs:=[18,23]) (by decide +kernel) (by simp) ?_|refine wpAnyH_ready (rs:=[18]) (by decide +kernel) (by simp) ?_))
  | (refine kg 21 rfl ?_;go_simp;go_at_call 111;apply(o _).mono;rintro e W⟨rfl,f⟩;have b:=b.later f;refine Shut.out d _ _ b.1.2.2 (fun c=>?_);clear d K f;refine ag 19 (.string (A0++A1++A2++A3++A4)) rfl (fun W a=>by go_simp<;>omega) c ?_;(first|refine wpAnyH_ready (rs:=[23]) (by decide +kernel) (by simp) ?_|refine wpAnyH_ready (rs:=[24]) (by decide +kernel) (by simp) ?_))
  | (refine kg 27 rfl ?_;go_simp;go_at_call 110;apply(r _ _ (b.2.2 _ rfl)).mono;rintro e W⟨rfl,f⟩;have b:=b.later f;refine Shut.out d _ _ b.1.2.2 (fun c=>?_);clear d K f;refine ag 25 (.string (A0++A1++A2++A3++A4++A5)) rfl (fun W a=>by go_simp<;>omega) c ?_;refine wpAnyH_ready (rs:=[26]) (by kernel_rfl) (by simp) ?_)
  | (refine kg 2 rfl ?_;go_simp;refine Shut.out d _ _ b.1.2.2 (fun c=>?_);clear d K;refine wpAnyH_done (by kernel_rfl) ?_ _;generalize s:A0++A1++A2++A3++A4++A5=AA;go_wp2;go_ret;exact⟨by subst s;rfl,b.1.1⟩)
def bF(l:List UInt8):(ax l).size=l.length:=by simp[ax,ByteArray.size]
def fV(how st crc pk lg n:Nat):(fp how st crc pk lg n).size=26:=by
 unfold fp;rw[a0H,a0H,a0H,a0H,a0H];simp only[bF,a0W,a2o,a0i,aB,a0U]
def df(how st crc pk lg:Nat)(nm:ByteArray):ByteArray:=(⟨#[80,75,3,4]⟩:ByteArray)++fp how st crc pk lg nm.size++nm
def DT(how st crc pk lg:Nat)(nm f:ByteArray)(w:World)(k:how<65536)(l:st<4294967296)(h2:crc<4294967296)(m:pk<4294967296)(n:lg<4294967296)(o:nm.size<65536) :
  Ds 103 #[.agg #[how,st,crc,pk,lg,nm,f]] w (.string (df how st crc pk lg nm)):=by
 have j:=af (fun W=>FH how st crc pk lg nm W k l h2 m n o);have d:=cE
 obtain⟨A,hA⟩:∃A,fp how st crc pk lg nm.size=A:=⟨_,rfl⟩;have q:(A.size:Int)<=1000:=by
  rw[←hA,fV];omega
 have r:(nm.size:Int)<65536:=by omega
 have p:df how st crc pk lg nm=(⟨#[80,75,3,4]⟩:ByteArray)++A++nm:=by unfold df;rw[hA]
 rw[hA]at j;rw[p];have T0':Hid (yk w how st crc pk lg nm (w.alloc (.cells #[how,st,crc,pk,lg,nm,f] 64))):=⟨cC,by simp,by simp,by simp,by simp,by simp,by simp,by simp⟩;clear k l h2 m n o hA p;go_enter func103,ntmps103;go_wp2_with fail;obtain⟨W0,hW0⟩:∃x,w.alloc (.cells #[how,st,crc,pk,lg,nm,f] 64)=x:=⟨_,rfl⟩;rw[hW0]at T0';rw[hW0];have T0:=T0';clear T0' hW0;refine wp_region_held_drew (S:=fun W=>QW W w.heap.size how st crc pk lg nm) d T0.2.2 (fun b=>?_);refine ag 0 (.pointer w.heap.size) rfl (fun W a=>by obtain⟨s0,s1,s2,s3,s4,s5⟩:=a;go_simp) b ?_;refine ag 1 (.agg #[how,st,crc,pk,lg,nm]) rfl (fun W a=>by obtain⟨s0,s1,s2,s3,s4,s5⟩:=a;go_simp) b ?_;refine ag 4 (.pointer w.heap.size) rfl (fun W a=>by obtain⟨s0,s1,s2,s3,s4,s5⟩:=a;go_simp) b ?_;refine ag 5 (.pointer (some ⟨w.heap.size,5,none⟩)) rfl (fun W a=>by obtain⟨s0,s1,s2,s3,s4,s5⟩:=a;go_simp) b ?_;refine ag 6 (.string nm) rfl (fun W a=>by obtain⟨s0,s1,s2,s3,s4,s5⟩:=a;go_simp) b ?_;have T1:Hid (yk w how st crc pk lg nm W0.drew):=⟨T0.1.drew,T0.2.1,T0.2.2⟩;generalize W0.drew=W1 at *;refine ah 2 fun K c=>?_;go_simp;go_at_call 139;apply(j W1).mono;rintro e W2⟨rfl,i⟩;have T2:=af (T1.later i);refine Shut.out c _ _ T2.2.2 (fun b=>?_);clear c K i;refine ag 3 (.string ((⟨#[80,75,3,4]⟩:ByteArray)++A)) rfl (fun W a=>by obtain⟨s0,s1,s2,s3,s4,s5⟩:=a;go_simp<;>omega) b ?_;refine ag 7 (.string ((⟨#[80,75,3,4]⟩:ByteArray)++A++nm)) rfl (fun W a=>by obtain⟨s0,s1,s2,s3,s4,s5⟩:=a;go_simp<;>omega) b ?_;refine ah 8 fun K c=>?_;go_simp;refine Shut.out c _ _ T2.2.2 (fun b=>?_);clear c K;refine wpAnyH_done (by kernel_rfl) ?_ _;generalize g:(⟨#[80,75,3,4]⟩:ByteArray)++A++nm=AA;go_wp2;go_ret;exact⟨by subst g;rfl,T2.1⟩
def wa(how st crc pk lg:Nat)(nm:ByteArray):(df how st crc pk lg nm).size=30+nm.size:=by
 unfold df;rw[a0H,a0H,fV];have:(⟨#[80,75,3,4]⟩:ByteArray).size=4:=rfl;omega
def tY(how st crc pk lg:Nat)(nm a:ByteArray)(w:World)(j:how<65536)(k:st<4294967296)(h2:crc<4294967296)(l:pk<4294967296)(m:lg<4294967296)(n:nm.size<65536)(q:a.size<=100000) :
  Ds 67 #[.agg #[how,st,crc,pk,lg,nm,a]] w (.string (df how st crc pk lg nm++a)):=by
 have f:=cE
 have o:=af (fun W=>DT how st crc pk lg nm a W j k h2 l m n);have r:((df how st crc pk lg nm).size:Int)<=70000:=by rw[wa];omega
 have s:(a.size:Int)<=100000:=by omega
 generalize df how st crc pk lg nm=A at *;have T0':Hid (yk w how st crc pk lg nm (w.alloc (.cells #[how,st,crc,pk,lg,nm,a] 64))/\(w.alloc (.cells #[how,st,crc,pk,lg,nm,a] 64)).cell? ⟨w.heap.size,6,none⟩=some (.string a)):=⟨⟨cC,by simp,by simp,by simp,by simp,by simp,by simp,by simp⟩,by simp⟩;clear j k h2 l m n q;go_enter func67,ntmps67;go_wp2_with fail;obtain⟨W0,hW0⟩:∃x,w.alloc (.cells #[how,st,crc,pk,lg,nm,a] 64)=x:=⟨_,rfl⟩;rw[hW0]at T0';rw[hW0];have T0:=T0';clear T0' hW0;refine wp_region_held_drew (S:=fun W=>QW W w.heap.size how st crc pk lg nm/\W.cell? ⟨w.heap.size,6,none⟩=some (.string a)) f ⟨T0.1.2.2,T0.2⟩ (fun c=>?_);refine ag 0 (.agg #[how,st,crc,pk,lg,nm,a]) rfl (fun W b=>by obtain⟨⟨s0,s1,s2,s3,s4,s5⟩,s6⟩:=b;go_simp) c ?_;refine ag 2 (.pointer (some ⟨w.heap.size,6,none⟩)) rfl (fun W b=>by obtain⟨⟨s0,s1,s2,s3,s4,s5⟩,s6⟩:=b;go_simp) c ?_;refine ag 3 (.string a) rfl (fun W b=>by obtain⟨⟨s0,s1,s2,s3,s4,s5⟩,s6⟩:=b;go_simp) c ?_;have T1:Hid (yk w how st crc pk lg nm W0.drew/\W0.drew.cell? ⟨w.heap.size,6,none⟩=some (.string a)):=⟨⟨T0.1.1.drew,T0.1.2.1,T0.1.2.2⟩,T0.2⟩;generalize W0.drew=W1 at *;refine ah 1 fun K d=>?_;go_simp;go_at_call 103;apply(o W1).mono;rintro e W2⟨rfl,g⟩;have T2:Hid (yk w how st crc pk lg nm W2/\W2.cell? ⟨w.heap.size,6,none⟩=some (.string a)):=⟨T1.1.later g,by rw[g.cell (p:=⟨w.heap.size,6,none⟩) T1.1.2.1];exact T1.2⟩;refine Shut.out d _ _ ⟨T2.1.2.2,T2.2⟩ (fun c=>?_);clear d K g;refine ag 4 (.string (A++a)) rfl (fun W b=>by obtain⟨⟨s0,s1,s2,s3,s4,s5⟩,s6⟩:=b;go_simp<;>omega) c ?_;refine ah 5 fun K d=>?_;go_simp;refine Shut.out d _ _ ⟨T2.1.2.2,T2.2⟩ (fun c=>?_);clear d K;refine wpAnyH_done (by kernel_rfl) ?_ _;generalize i:A++a=AA;go_wp2;go_ret;exact⟨by subst i;rfl,T2.1.1⟩
def Ec(l:List UInt8):leS l.length (di l)=l:=by
 apply a2k
 . rw[aB]
 . intro j a h2;have h:=Ji l.length (di l) j h2;rw[FP]at h;rw[List.getD_eq_getElem?_getD,List.getElem?_eq_getElem a,List.getD_eq_getElem?_getD,List.getElem?_eq_getElem h2]at h;simpa using h
def yg(k V:Nat):di (leS k V)=V%2 ^ (8*k):=by
 induction k with
 | zero=>simp[leS,di,a1s]
 | succ k ih=>
  simp only[leS];rw[jK,ih,aB];have e:2 ^ (8*(k+1))=2 ^ (8*k)*256:=by rw[a2r,a0T]
  rw[e,Nat.mod_mul]
  congr 2
  simp[di]
def rF(V p k:Nat):V/2 ^ p%2 ^ (k+1)=V/2 ^ p%2 ^ k+V/2 ^ (p+k)%2*2 ^ k:=by
 rw[Es,a1Y,←a0T]
def g9(l:List Int):Nat:=(l.map Int.toNat).sum
def uw(a b:List Int):g9 (a++b)=g9 a+g9 b:=by simp[g9]
def mw(x:Int)(b:List Int):g9 (x :: b)=x.toNat+g9 b:=by simp[g9]
def eQ(V:Nat):Nat->List Int->List Int
 | _,[]=>[]
 | p,b :: bs=>((V/2 ^ p%2 ^ b.toNat:Nat):Int) :: eQ V (p+b.toNat) bs
def zJ(V p:Nat)(l:List Int):(eQ V p l).length=l.length:=by
 induction l generalizing p with
 | nil=>rfl
 | cons b l ih=>simp[eQ,ih]
def BP(V p:Nat)(a b:List Int):eQ V p (a++b)=eQ V p a++eQ V (p+g9 a) b:=by
 induction a generalizing p with
 | nil=>simp[eQ,g9]
 | cons x a ih=>simp[eQ,ih,mw,a2a]
def fx(l:List Int):Bool:=l.all (fun b=>decide (0<=b)&&decide (b<=16))
def ll(s:List UInt8)(l:List Int):Bool:=fx l&&decide (l.length<=4000)&&decide (s.length=(g9 l+7)/8)&&decide (di s<2 ^ g9 l)
def DK(s:List UInt8)(l:List Int):List Int:=if ll s l=true then eQ (di s) 0 l else []
def Ge{l:List Int}(h:fx l=true)(k:Nat)(a:k<l.length):0<=l.getD k 0/\l.getD k 0<=16:=by
 have:=a1c.1 h (l.getD k 0) (by simp[List.getD,a]);simpa using this
def SZ{l:List Int}(h:fx l=true):g9 l<=16*l.length:=by
 induction l with
 | nil=>simp[g9]
 | cons b l ih=>
  have a:(0<=b/\b<=16)/\fx l=true:=by simpa[fx]using h
  have:=ih a.2;rw[mw,a0C];omega
def Is(s:List UInt8)(m:Nat)(h:s.length=(m+7)/8):(di s/2 ^ m%2 ^ ((8-m%8)%8)=0)<->di s<2 ^ m:=by
 have a:=r9 s;have e:8*s.length=m+(8-m%8)%8:=by omega
 rw[e,a0T]at a;have h2:di s/2 ^ m<2 ^ ((8-m%8)%8):=Nat.div_lt_of_lt_mul a;rw[a1g h2];constructor
 .
  intro b;rcases Nat.div_eq_zero_iff.1 b with h|h
  . have:=a1p m;omega
  . exact h
 . exact a1Z
def wd(l:List UInt8)(i k:Nat):Nat:=di ((l.drop i).take k)
def JP(l:List UInt8)(i k:Nat):wd l i k<2 ^ (8*k):=by
 unfold wd;refine a0h (r9 _) (a0P (by decide) ?_);rw[a0u];omega
def jT(l:List UInt8)(i:Nat):wd l i 2<65536:=JP l i 2
def fF(l:List UInt8)(i:Nat):wd l i 4<4294967296:=JP l i 4
def fQ(h:i+k<=l.length):((l.drop i).take k).length=k:=by
 rw[a0u,a04];omega
def jr(h:i+k<=l.length):leS k (wd l i k)=(l.drop i).take k:=by
 have:=Ec ((l.drop i).take k);rw[fQ h]at this;exact this
def Uy(k:Nat)(h:i+j<=l.length):wd l i (j+k)=wd l i j+2 ^ (8*j)*wd l (i+j) k:=by
 unfold wd;rw[a3o,jK,fQ h,a1W]
def UZ(h:i+2<=l.length):wd l i 4=wd l i 2+65536*wd l (i+2) 2:=Uy (j:=2) 2 h
def uE{v:Nat}(h:i+k<=l.length)(a:v<2 ^ (8*k)):wd l i k=v<->(l.drop i).take k=leS k v:=by
 constructor
 . intro e;rw[←e,jr h]
 . intro e;unfold wd;rw[e,yg,a1g a]
def My(h:i+k<=l.length):di l/2 ^ (8*i)%2 ^ (8*k)=wd l i k:=by
 have e1:di l=di (l.take i)+2 ^ (8*i)*di (l.drop i):=by
  have a:=jK (l.take i) (l.drop i);rw[a1z,a0u,a1r (by omega)]at a;exact a
 have l1:di (l.take i)<2 ^ (8*i):=by
  have:=r9 (l.take i);rw[a0u,a1r (by omega)]at this;exact this
 have e2:di (l.drop i)=wd l i k+2 ^ (8*k)*di ((l.drop i).drop k):=by
  have a:=jK ((l.drop i).take k) ((l.drop i).drop k);rw[a1z,fQ h]at a;exact a
 rw[e1,Nat.add_mul_div_left _ _ (a1p _),a1Z l1,a0G,e2,Nat.add_mul_mod_self_left,a1g (JP l i k)]
theorem xL(V b:Nat):∀(n p j:Nat),j<n->(eQ V p (List.replicate n ((b:Nat):Int))).getD j 0=((V/2 ^ (p+b*j)%2 ^ b:Nat):Int)
 | 0,_,_,h=>by omega
 | n+1,p,0,_=>by simp[List.replicate_succ,eQ]
 | n+1,p,j+1,h=>by
  rw[List.replicate_succ];simp only[eQ,a2G];rw[xL V b n _ j (by omega),a0n,show p+b+b*j=p+b*(j+1) by rw[a2r];omega]
def Bb(h:30<=l.length):ll (l.take 30) (List.replicate 15 16)=true:=by
 have e1:g9 (List.replicate 15 16)=240:=by decide
 have e2:(l.take 30).length=30:=by rw[a0u];omega
 have e3:fx (List.replicate 15 16)=true:=by decide
 have e4:=r9 (l.take 30);rw[e2]at e4;unfold ll;rw[e1,e2,e3];simpa using e4
def GM(h:30<=l.length)(j:Nat)(b:j<15):(DK (l.take 30) (List.replicate 15 16)).getD j 0=((wd l (2*j) 2:Nat):Int):=by
 unfold DK;rw[a0d (Bb h)];have a:=xL (di (l.take 30)) 16 15 0 j b;rw[show((16:Nat):Int)=16 from rfl]at a;rw[a];have e2:(l.take 30).length=30:=by rw[a0u];omega
 have h2:=My (l:=l.take 30) (i:=2*j) (k:=2) (by omega);rw[show 0+16*j=8*(2*j) by omega,show(16:Nat)=8*2 from rfl,h2]
 congr 1
 unfold wd;rw[a30,a2X,a1r (by omega)]
def Om(h:30<=l.length):(DK (l.take 30) (List.replicate 15 16)).length=15:=by
 unfold DK;rw[a0d (Bb h),zJ,a0y]
def nN(l:List UInt8):Bool:=decide (wd l 0 4=67324752)&&(decide (wd l 4 2=20)&&(decide (wd l 6 2=0)&&decide (wd l 28 2=0)))
def Il(l:List UInt8)(n:Nat):l.take (30+n)=(l.drop 0).take 4++((l.drop 4).take 2++((l.drop 6).take 2++((l.drop 8).take 2++((l.drop 10).take 4++((l.drop 14).take 4++((l.drop 18).take 4++((l.drop 22).take 4++((l.drop 26).take 2++((l.drop 28).take 2++(l.drop 30).take n))))))))):=by
 have st:∀i k m,(l.drop i).take (k+m)=(l.drop i).take k++(l.drop (i+k)).take m:=fun i k m=>by rw[a3o,a1W]
 rw[←st 28 2 n,←st 26 2 _,←st 22 4 _,←st 18 4 _,←st 14 4 _,←st 10 4 _,←st 8 2 _,←st 6 2 _,←st 4 2 _,←st 0 4 _,a1L]
 congr 1
 omega
def qd(how st crc pk lg:Nat)(nm:ByteArray):(df how st crc pk lg nm).data.toList=leS 4 67324752++(leS 2 20++(leS 2 0++(leS 2 how++(leS 4 st++(leS 4 crc++(leS 4 pk++(leS 4 lg++(leS 2 nm.size++(leS 2 0++nm.data.toList))))))))):=by
 have e:leS 4 67324752=[80,75,3,4]:=by decide +kernel
 rw[e];unfold df fp ax;simp
def On(h:30+wd l 26 2<=l.length)(b:nm.data.toList=(l.drop 30).take (wd l 26 2)) :
  (df (wd l 8 2) (wd l 10 4) (wd l 14 4) (wd l 18 4) (wd l 22 4) nm).data.toList.isPrefixOf l=nN l:=by
 have c:nm.size=wd l 26 2:=by
  have:=congrArg List.length b;rw[fQ h]at this;simpa using this
 have a:(df (wd l 8 2) (wd l 10 4) (wd l 14 4) (wd l 18 4) (wd l 22 4) nm).data.toList.length=30+wd l 26 2:=by
  rw[qd,b];simp only[a0i,aB,fQ h];omega
 rw[a2h,List.isPrefixOf_iff_prefix,List.prefix_iff_eq_take,a,Il,qd,c,b,
  jr (i:=8) (k:=2) (by omega),jr (i:=10) (k:=4) (by omega),jr (i:=14) (k:=4) (by omega),jr (i:=18) (k:=4) (by omega),jr (i:=22) (k:=4) (by omega),jr (i:=26) (k:=2) (by omega)]
 simp only[nN,a0k,a0v];rw[uE (i:=0) (k:=4) (by omega) (by decide),uE (i:=4) (k:=2) (by omega) (by decide),uE (i:=6) (k:=2) (by omega) (by decide),uE (i:=28) (k:=2) (by omega) (by decide)];constructor
 . intro e;obtain⟨e1,e⟩:=a2b e (by rw[aB,fQ (by omega)]);obtain⟨e2,e⟩:=a2b e (by rw[aB,fQ (by omega)]);obtain⟨e3,e⟩:=a2b e (by rw[aB,fQ (by omega)]);have e:=a2p (a2p (a2p (a2p (a2p (a2p e)))));obtain⟨e4,_⟩:=a2b e (by rw[aB,fQ (by omega)]);exact⟨e1.symm,e2.symm,e3.symm,e4.symm⟩
 . rintro⟨e1,e2,e3,e4⟩;rw[e1,e2,e3,e4]
def Tb(k:Nat)(h:i<l.length):wd l i (k+1)=(l.getD i 0).toNat+256*wd l (i+1) k:=by
 have e:(l.drop i).take (k+1)=l[i] :: (l.drop (i+1)).take k:=by rw[a28 h,List.take_succ_cons]
 unfold wd;rw[e,List.getD_eq_getElem?_getD,List.getElem?_eq_getElem h];simp only[di,a1K]
def IV{a b:List UInt8}(k:Nat)(h:a.length=m):wd (a++b) (m+i) k=wd b i k:=by
 unfold wd;rw[←h,a2Q,a2Y (by omega),a1a,a1t]
def iN(b:List UInt8)(h:V<2 ^ (8*k)):wd (leS k V++b) 0 k=V:=by
 unfold wd;rw[a1L,a1n (by rw[aB];exact a0a _),a0t (by rw[aB];exact a0a _),yg,a1g h]
def we(r:List UInt8)(d:how<65536)(e:st<4294967296)(h2:crc<4294967296)(f:pk<4294967296)(g:lg<4294967296)(h:nm.size<65536) :
  nN ((df how st crc pk lg nm).data.toList++r)=true/\wd ((df how st crc pk lg nm).data.toList++r) 8 2=how/\wd ((df how st crc pk lg nm).data.toList++r) 10 4=st/\wd ((df how st crc pk lg nm).data.toList++r) 14 4=crc/\wd ((df how st crc pk lg nm).data.toList++r) 18 4=pk/\wd ((df how st crc pk lg nm).data.toList++r) 22 4=lg/\wd ((df how st crc pk lg nm).data.toList++r) 26 2=nm.size/\(((df how st crc pk lg nm).data.toList++r).drop 30).take nm.size=nm.data.toList/\((df how st crc pk lg nm).data.toList++r).drop (30+nm.size)=r:=by
 rw[qd];simp only[a0I];have g4:∀(V:Nat) (b:List UInt8) (i k:Nat),wd (leS 4 V++b) (4+i) k=wd b i k:=fun V b i k=>IV k (aB 4 V);have g2:∀(V:Nat) (b:List UInt8) (i k:Nat),wd (leS 2 V++b) (2+i) k=wd b i k:=fun V b i k=>IV k (aB 2 V);have c:∀(V:Nat) (b:List UInt8) (i:Nat),(leS 4 V++b).drop (4+i)=b.drop i:=fun V b i=>by rw[a2Q,a2Y (by rw[aB];omega),a1a,aB,a1t]
 have a:∀(V:Nat) (b:List UInt8) (i:Nat),(leS 2 V++b).drop (2+i)=b.drop i:=fun V b i=>by rw[a2Q,a2Y (by rw[aB];omega),a1a,aB,a1t]
 have e30:∀j,30+j=4+(2+(2+(2+(4+(4+(4+(4+(2+(2+j))))))))):=fun j=>by omega
 have l:nm.data.toList.length=nm.size:=by simp
 refine⟨?_,?_,?_,?_,?_,?_,?_,?_,?_⟩
 . unfold nN;rw[iN _ (by decide),show(4:Nat)=4+0 from rfl,g4,iN _ (by decide),show(6:Nat)=4+(2+0)from rfl,g4,g2,iN _ (by decide),show(28:Nat)=4+(2+(2+(2+(4+(4+(4+(4+(2+0))))))))from rfl,g4,g2,g2,g2,g4,g4,g4,g4,g2,iN _ (by decide)];rfl
 . rw[show(8:Nat)=4+(2+(2+0))from rfl,g4,g2,g2,iN _ d]
 . rw[show(10:Nat)=4+(2+(2+(2+0)))from rfl,g4,g2,g2,g2,iN _ e]
 . rw[show(14:Nat)=4+(2+(2+(2+(4+0))))from rfl,g4,g2,g2,g2,g4,iN _ h2]
 . rw[show(18:Nat)=4+(2+(2+(2+(4+(4+0)))))from rfl,g4,g2,g2,g2,g4,g4,iN _ f]
 . rw[show(22:Nat)=4+(2+(2+(2+(4+(4+(4+0))))))from rfl,g4,g2,g2,g2,g4,g4,g4,iN _ g]
 . rw[show(26:Nat)=4+(2+(2+(2+(4+(4+(4+(4+0)))))))from rfl,g4,g2,g2,g2,g4,g4,g4,g4,iN _ h]
 . rw[show(30:Nat)=4+(2+(2+(2+(4+(4+(4+(4+(2+(2+0)))))))))from rfl,c,a,a,a,c,c,c,c,a,a,a1L,a1n (by omega),a0t (by omega)]
 . rw[e30,c,a,a,a,c,c,c,c,a,a,a2Q,a2Y (by omega),a1a,l,a3i,a1L]
def ew(s:ByteArray)(p k:Nat):Int:=if p+k<=s.size then((wd s.data.toList p k:Nat):Int)else -1
def iL{s:ByteArray}{p:Nat}(h:p+k<=s.size):ew s p k=((wd s.data.toList p k:Nat):Int):=a0d h
def BE{s:ByteArray}{p:Nat}(h:¬ p+k<=s.size):ew s p k = -1:=a0e h
def Ns(s:ByteArray)(i:Nat)(h:i<s.size):s.data.toList.getD i 0=s[i]:=by
 have a:i<s.data.toList.length:=by simpa using h
 rw[List.getD_eq_getElem?_getD,List.getElem?_eq_getElem a];rfl
def Td(s:ByteArray)(k:Nat)(h:i<s.size):wd s.data.toList i (k+1)=256*wd s.data.toList (i+1) k+s[i].toNat:=by
 rw[Tb k (by simpa using h),Ns s i h,a2F]
def ME{X:Nat}{b:UInt8}(a:(X:Int)<16777216):wrap64 (256*(X:Int)+wrap64 (b.toNat:Int))=((256*X+b.toNat:Nat):Int):=by
 have:=b.toNat_lt;simp only[wrap64];omega
def d9(s:ByteArray)(p k:Nat)(w:World)(y:p<=4000000)(v:k<=4)(C:(s.size:Int)<=4611686018427387904) :
  Ds 53 #[s,.int .i64 (p:Int),.int .i64 (k:Int)] w (.int .i64 (ew s p k)):=by
 have h:(k:Int)<=4:=by omega
 have z:(0:Int)<=(p:Int):=by omega
 have g:(0:Int)<=(k:Int):=by omega
 by_cases c:p+k<=s.size
 .
  rw[iL c];have d:(p:Int)+(k:Int)<=(s.size:Int):=by omega
  have r:=af c;clear c;go_enter func53,ntmps53;go_wp2_with fail
  go_loopw [7,8] (fun x i wr=>∃q j:Nat,q+j=k/\i = .int .i64 ((q:Int)-1)/\x = .int .i64 ((wd s.data.toList (p+q) j:Nat):Int)/\Below w.heap.size w wr) (fun _ i _=>(intOf i+1).toNat)
  case atStart=>exact⟨k,0,rfl,rfl,by simp[wd,di],a0c _ _⟩
  case round=>
   obtain⟨q,j,e,rfl,rfl,b⟩:=hrel;have a:=af b;clear b;rcases q with _|q
   .
    obtain rfl:j=k:=by omega
    go_wp2;go_ret;exact⟨rfl,a⟩
   .
    have l:p+q<s.size:=by have:=ae r;omega
    have o:=af (Td s j l);have u:wd s.data.toList (p+q+1) j<16777216:=a0h (JP _ _ _) (by
     have:8*j<=24:=by omega
     exact a0E (a0P (by decide) this) (by decide))
    have e1:((q+1:Nat):Int)-1=(q:Int):=(by omega);have e2:p+(q+1)=p+q+1:=rfl;rw[e1,e2];generalize wd s.data.toList (p+q+1) j=X at *;have f:(X:Int)<16777216:=(by omega);have t:=af e;have A:(p:Int)+(q:Int)<(s.size:Int):=(by omega);have m:0<=(p:Int)+(q:Int):=(by omega);have n:(p:Int)+(q:Int)<=4611686018427387904:=(by omega);have B:(q:Int)<=4:=(by omega);clear u e1 e2 e d h g v y;go_wp2;go_roundw
    case rel=>exact⟨q,j+1,by have:=ae t;omega,by go_num,by rw[ae o,ME f],a⟩
    case measure=>simp[intOf]
 .
  rw[BE c];have d:(s.size:Int)<(p:Int)+(k:Int):=by omega
  clear c;go_enter func53,ntmps53;go_wp2;go_ret;exact⟨rfl,a0c _ _⟩
def Lb(s:ByteArray)(p:Int)(w:World)(a:p<0) :
  Ds 53 #[s,p,.int .i64 2] w (.int .i64 (-1)):=by
 go_enter func53,ntmps53;go_wp2;go_ret;exact⟨rfl,a0c _ _⟩
attribute [local go_sem ↓] Go.wp_at_zero Go.wp_at_succ
def Pm(V p k:Nat)(h:k<=16):V/2 ^ p%2 ^ k<65536:=by
 have a:V/2 ^ p%2 ^ k<2 ^ k:=a0Z _ (a1p k);have h2:2 ^ k<=2 ^ 16:=a0P (by omega) h;omega
def vr(k:Nat)(h:k<=16):p2 k<=65536:=by
 have h2:2 ^ k<=2 ^ 16:=a0P (by omega) h;have a:p2 k=2 ^ k:=rfl;omega
def jk(b p c:Nat)(s:ByteArray)(w:World)(h:Rdr w b s p)(A:s.size<=2000000)(u:c<=16) :
  Calls prog 227 #[.pointer b,.int .i64 (c:Int)] w fun e w'=>e = .returned (.int .i64 (ak s/2 ^ p%2 ^ c:Nat))/\Rdr w' b s (p+c)/\aw b w w':=by
 have D:=af A;have F:(c:Int)<=16:=by omega
 have B:=af u;clear A u;go_enter func227,ntmps227;go_wp2_with fail
 go_loopw [5,6] (fun n i wr=>∃k:Nat,k<=c/\i = .int .i64 k/\n = .int .i64 (ak s/2 ^ p%2 ^ k:Nat)/\Rdr wr b s (p+k)/\aw b w wr) (fun _ i _=>c-(intOf i).toNat)
 case atStart=>exact⟨0,a0g _,rfl,by simp[a1s],h,aw.refl _ _⟩
 case round=>
  obtain⟨k,v,rfl,rfl,q,d⟩:=hrel;clear h;have C:=af v;by_cases H:k<c
  .
   have G:(k:Int)<(c:Int):=(by omega);have a:k<=16:=by have:=ae B;omega
   have t:Hid (ak s/2 ^ p%2 ^ (k+1)=ak s/2 ^ p%2 ^ k+ak s/2 ^ (p+k)%2*p2 k):=rF (ak s) p k;have m:=Pm (ak s) p k a;have I:ak s/2 ^ (p+k)%2<=1:=(by omega);have o:=vr k a;have f:=af (na b (p+k) s wr q D);have j:=af (fun W=>SF k (p2 k) W (by omega) rfl);generalize ak s/2 ^ p%2 ^ k=n,ak s/2 ^ (p+k)%2=x,p2 k=PW at *;have g:x*PW<=65536:=by rcases (show x=0∨x=1 by omega)with e|e<;>subst e<;>omega
   have e1:IntKind.i64.wrap ((x:Int)*(PW:Int))=((x*PW:Nat):Int):=by rw[←a1G];exact bW _ (by omega) (by omega)
   have e1':((x:Int)*(PW:Int))=((x*PW:Nat):Int):=(by rw[←a1G]);have z:(n:Int)<65536:=(by omega);have y:((x*PW:Nat):Int)<=65536:=(by omega);generalize E:x*PW=M at *;clear E a I o m g v q;go_wp2_with fail;apply f.mono;rintro e x1⟨rfl,r,l⟩;go_wp2_with fail;apply(j _).mono;rintro e x2⟨rfl,rfl⟩;go_wp2;go_roundw
   case rel=>exact⟨k+1,by omega,by go_num,by rw[ae t];go_num,r,d.trans l⟩
   case measure=>simp[intOf];omega
  .
   obtain rfl:k=c:=by have:=ae C;omega
   go_wp2;go_ret;exact⟨rfl,q,d⟩
def rest_step(V p j:Nat):(V/2 ^ p%2 ^ (j+1)=0)<->(V/2 ^ p%2 ^ j=0/\V/2 ^ (p+j)%2=0):=by
 rw[rF];have:=a1p j;constructor
 .
  intro h;have a:=Nat.eq_zero_of_add_eq_zero_right h;have h2:=Nat.eq_zero_of_add_eq_zero_left h;rcases Nat.mul_eq_zero.1 h2 with b|b
  . exact⟨a,b⟩
  . omega
 . rintro⟨a,h2⟩;rw[a,h2];simp
def BS(b p:Nat)(s:ByteArray)(w:World)(h:Rdr w b s p)(J:s.size<=2000000)(T:p<=8*s.size) :
  Calls prog 196 #[.pointer b] w fun e w'=>e = .returned (.bool (decide (ak s/2 ^ p%2 ^ ((8-p%8)%8)=0)))/\Rdr w' b s (p+(8-p%8)%8)/\aw b w w':=by
 have N:=af J;have E:(8-p%8)%8<=7:=by omega
 have F:(p+(8-p%8)%8)%8=0:=by omega
 have y:p+(8-p%8)%8<=8*s.size:=by omega
 have f:∀j,j<(8-p%8)%8->(p+j)%8≠0:=by omega
 have V:(s.size:Int)<=2000000:=by omega
 generalize (8-p%8)%8=c at *;have B:=af y;clear J T y;go_enter func196,ntmps196;go_wp2_with fail
 go_loopw [3] (fun n wr=>∃k m:Nat,k<=c/\n = .int .i64 (m:Nat)/\m<=k/\(m=0<->ak s/2 ^ p%2 ^ k=0)/\Rdr wr b s (p+k)/\aw b w wr) (fun _ wr=>c+p-(match wr.cell? ⟨b,1,none⟩with|some (.int _ i)=>i.toNat|_=>0))
 case atStart=>exact⟨0,0,a0g _,rfl,a0a _,by simp[a1s],h,aw.refl _ _⟩
 case round=>
  obtain⟨k,m,I,rfl,v,u,z,d⟩:=hrel;clear h;have P:=z.at (by have:=ae B;omega);obtain⟨c0,c1,c2,f0,f1,f2,Q⟩:=P;have M:=af I;have r:=af u;have U:((p+k:Nat):Int)<=16000000:=by have:=ae B;omega
  clear u;by_cases g:k<c
  .
   have S:¬ ((p+k:Nat):Int)%8=0:=by have:=f k g;omega
   have G:=af (rest_step (ak s) p k);have K:ak s/2 ^ (p+k)%2<=1:=(by omega);have t:=af (na b (p+k) s wr z N);generalize ak s/2 ^ (p+k)%2=x at *;have W:(x:Int)<=1:=(by omega);have R:(m:Int)<=7:=(by omega);have L:=af K;have A:=af v;have q:=af g;have C:=af (show p+k<8*s.size by have:=ae B;omega);clear f K I v g z F E;generalize a:p+k=pk at *;have o:=af a;clear a;go_wp2_with fail;apply t.mono;rintro e x1⟨rfl,l,D⟩;go_wp2;go_roundw
   case rel=>exact⟨k+1,m+x,q,by go_num,by have:=ae A;have:=ae L;omega,by rw[ae G,←ae r];omega,by rw[←ae o]at l;exact l,d.trans D⟩
   case measure=>
    have O:=(l.at (by have:=ae C;omega)).2.1;rw[O,c1];have:=ae o;have:=ae q;simp;omega
  .
   obtain rfl:k=c:=by have:=ae M;omega
   have X:((p+k:Nat):Int)%8=0:=(by omega);generalize a:p+k=pk at *;go_wp2;go_ret;refine⟨am ?_,by rw[a];exact z,d⟩;rw[show decide (ak s/2 ^ p%2 ^ k=0)=decide (m=0)from decide_eq_decide.2 r.symm];rcases a2n m with H|H
   . subst H;rfl
   . rw[a0m (by omega)];first|(exact a0m (by omega))|(exact beq_false_of_ne (by omega))|(exact(by omega:False).elim)
end Go.Proofs.YtfannoajibacnaaGreatDoor
namespace Go.Proofs.YtfannoajibacnaaGreatDoor
open Go.Proofs.Tryz
open Go.RowKit Corb
variable {b p:Nat}{s:ByteArray}{w w':World}
def Sz(n x k M:Nat)(d:n<p2 k)(g:x<=1)(c:k<=16)(a:x*p2 k=M):bits .or .i64 (n:Int) (M:Int)=((n+M:Nat):Int):=by
 have f:=vr k c;have b:M<=65536:=by
  rcases (show x=0∨x=1 by omega)with e|e<;>subst e<;>omega
 rw[mP n M (by omega) (by omega)]
 congr 1
 rw[Nat.or_comm];rw[nat_join k M n (by rw[←a];exact Nat.mul_mod_left _ _) d];omega
def xK(b p c:Nat)(num:Int)(s:ByteArray)(w:World)(h:Rdr w b s p)(B:s.size<=2000000)(z:c<=16) :
  Calls prog 271 #[.pointer b,.agg #[num,.int .i64 (c:Int)]] w fun e w'=>e = .returned (.int .i64 (ak s/2 ^ p%2 ^ c:Nat))/\Rdr w' b s (p+c)/\aw b w w':=by
 have F:=af B;have G:(c:Int)<=16:=by omega
 have D:=af z;have q:=h.lt;have y:=h.alloc (.cells #[num,.int .i64 (c:Int)] 167);have j:aw b w (w.alloc (.cells #[num,.int .i64 (c:Int)] 167)):=(aw.refl _ _).alloc (by omega) _;clear B z h;go_enter func271,ntmps271;go_wp2_with fail
 go_loopw [5,6,9] (fun n _ i wr=>∃k:Nat,k<=c/\i = .int .i64 k/\n = .int .i64 (ak s/2 ^ p%2 ^ k:Nat)/\Rdr wr b s (p+k)/\aw b w wr) (fun _ _ i _=>c-(intOf i).toNat)
 case atStart=>exact⟨0,a0g _,rfl,by simp[a1s],y,j⟩
 case round=>
  obtain⟨k,A,rfl,rfl,t,d⟩:=hrel;clear y j;have E:=af A;by_cases q:k<c
  .
   have H:(k:Int)<(c:Int):=(by omega);have a:k<=16:=by have:=ae D;omega
   have v:Hid (ak s/2 ^ p%2 ^ (k+1)=ak s/2 ^ p%2 ^ k+ak s/2 ^ (p+k)%2*p2 k):=rF (ak s) p k;have m:ak s/2 ^ p%2 ^ k<p2 k:=a0Z _ (a1p k);have C:ak s/2 ^ (p+k)%2<=1:=(by omega);have r:=vr k a;have g:=af (tq b (p+k) s wr t F);have f:=lP k;generalize ak s/2 ^ p%2 ^ k=n,ak s/2 ^ (p+k)%2=x at *;have I:=Sz n x k (x*p2 k) m C a rfl;have l:x*p2 k<=65536:=by rcases (show x=0∨x=1 by omega)with e|e<;>rw[e]<;>omega
   have e1':(x:Int)*2 ^ k=((x*p2 k:Nat):Int):=(by rw[a1G,f]);have e1:IntKind.i64.wrap ((x:Int)*2 ^ k)=((x*p2 k:Nat):Int):=by rw[e1'];exact bW _ (by omega) (by omega)
   generalize x*p2 k=M at *;have e2:IntKind.i64.wrap (M:Int)=(M:Int):=bW _ (by omega) (by omega);have J:(k:Int)<=16:=(by omega);clear a C r l A t m f;go_wp2_with fail;apply g.mono;rintro e x1⟨rfl,u,o⟩;go_wp2;go_roundw
   case rel=>exact⟨k+1,by omega,by go_num,by rw[ae v];go_num,u,d.trans o⟩
   case measure=>simp[intOf];omega
  .
   obtain rfl:k=c:=by have:=ae E;omega
   go_wp2;go_ret;exact⟨rfl,t,d⟩
def Sy(m x:Nat)(a:m<=1)(b:x<=1):∃y:Nat,bits .or .i64 (m:Int) (x:Int)=(y:Int)/\y<=1/\(y=0<->m=0/\x=0):=by
 refine⟨m ||| x,mP m x (by omega) (by omega),?_,?_⟩
 . rcases (show m=0∨m=1 by omega)with e|e<;>rcases (show x=0∨x=1 by omega)with f|f<;>subst e<;>subst f<;>decide
 . rcases (show m=0∨m=1 by omega)with e|e<;>rcases (show x=0∨x=1 by omega)with f|f<;>subst e<;>subst f<;>decide
def uq(b p:Nat)(s:ByteArray)(w:World)(h:Rdr w b s p)(M:s.size<=2000000)(W:p<=8*s.size) :
  Calls prog 137 #[.pointer b] w fun e w'=>e = .returned (.bool (decide (ak s/2 ^ p%2 ^ ((8-p%8)%8)=0)))/\Rdr w' b s (p+(8-p%8)%8)/\aw b w w':=by
 have Q:=af M;have H:(8-p%8)%8<=7:=by omega
 have I:(p+(8-p%8)%8)%8=0:=by omega
 have z:p+(8-p%8)%8<=8*s.size:=by omega
 have f:∀j,j<(8-p%8)%8->(p+j)%8≠0:=by omega
 have Y:(s.size:Int)<=2000000:=by omega
 generalize (8-p%8)%8=c at *;have E:=af z;clear M W z;go_enter func137,ntmps137;go_wp2_with fail
 go_loopw [3] (fun n wr=>∃k m:Nat,k<=c/\n = .int .i64 (m:Nat)/\m<=1/\(m=0<->ak s/2 ^ p%2 ^ k=0)/\Rdr wr b s (p+k)/\aw b w wr) (fun _ wr=>c+p-(match wr.cell? ⟨b,1,none⟩with|some (.int _ i)=>i.toNat|_=>0))
 case atStart=>exact⟨0,0,a0g _,rfl,by omega,by simp[a1s],h,aw.refl _ _⟩
 case round=>
  obtain⟨k,m,L,rfl,v,u,C,d⟩:=hrel;clear h;have S:=C.at (by have:=ae E;omega);obtain⟨c0,c1,c2,f0,f1,f2,T⟩:=S;have P:=af L;have r:=af u;have X:((p+k:Nat):Int)<=16000000:=by have:=ae E;omega
  clear u;by_cases g:k<c
  .
   have U:¬ ((p+k:Nat):Int)%8=0:=by have:=f k g;omega
   have J:=af (rest_step (ak s) p k);have N:ak s/2 ^ (p+k)%2<=1:=(by omega);have t:=af (tq b (p+k) s wr C Q);generalize ak s/2 ^ (p+k)%2=x at *;obtain⟨y,V,B,A⟩:=Sy m x v N;have O:=af A;have D:=af B;have q:=af g;have F:=af (show p+k<8*s.size by have:=ae E;omega);clear f N L v g C I H A B;generalize a:p+k=pk at *;have o:=af a;clear a;go_wp2_with fail;apply t.mono;rintro e x1⟨rfl,l,G⟩;go_wp2;go_roundw
   case rel=>exact⟨k+1,y,q,rfl,D,by rw[ae J,←ae r];exact O,by rw[←ae o]at l;exact l,d.trans G⟩
   case measure=>
    have R:=(l.at (by have:=ae F;omega)).2.1;rw[R,c1];have:=ae o;have:=ae q;simp;omega
  .
   obtain rfl:k=c:=by have:=ae P;omega
   have Z:((p+k:Nat):Int)%8=0:=(by omega);generalize a:p+k=pk at *;go_wp2;go_ret;refine⟨am ?_,by rw[a];exact C,d⟩;rw[show decide (ak s/2 ^ p%2 ^ k=0)=decide (m=0)from decide_eq_decide.2 r.symm];rcases a2n m with K|K
   . subst K;rfl
   . rw[a0m (by omega)];first|(exact a0m (by omega))|(exact beq_false_of_ne (by omega))|(exact(by omega:False).elim)
def bZ(m:List UInt8):List (Int×Int):=m.map fun b=>((b.toNat:Int),8)
def mC(m:List UInt8):(bZ m).length=m.length:=by simp[bZ]
def Ke(m:List UInt8):aZ (bZ m)=true:=by
 simp only[aZ,bZ,List.all_map,a1c];intro b _;have:=a2v b;have a:p2 (8:Int).toNat=256:=by decide
 have c:pOk (b.toNat:Int) 8=true:=aT.2 ⟨by omega,by omega,by rw[a];omega⟩;exact c
def Gm(m:List UInt8):aV (bZ m)=(di m,8*m.length):=by
 induction m with
 | nil=>rfl
 | cons b m ih=>
  have e0:bZ (b :: m)=[((b.toNat:Int),(8:Int))]++bZ m:=rfl;have e:aV [((b.toNat:Int),(8:Int))]=(b.toNat,8):=by simp[aV,oh,jh]
  have e2:di (b :: m)=di [b]+2 ^ (8*1)*di m:=jK [b] m;have e3:di [b]=b.toNat:=by simp[di]
  rw[e0,ly,ih,e,e2,e3];refine Prod.ext ?_ ?_
  . show b.toNat+di m*2 ^ 8=b.toNat+2 ^ (8*1)*di m;rw[a1j]
  . show 8+8*m.length=8*(b :: m).length;rw[a0C];omega
def pV(m:List UInt8)(h:m.length<=4000):lOk (bZ m)=true:=by
 simp only[lOk,a0k,a2i];exact⟨Ke m,by rw[mC];exact h⟩
def Gl(m:List UInt8)(h:m.length<=4000):pC (bZ m)=m:=by
 rw[ee (pV m h),cS,Gm];show leS ((8*m.length+7)/8) (di m)=m;rw[show(8*m.length+7)/8=m.length by omega];exact Ec m
def fB(n:Nat):List (Int×Int):=[(1,1),(0,2),(0,5),((n:Int),16),(((65535-n:Nat):Int),16)]
def iQ(n:Nat):Nat:=1+n*256+(65535-n)*16777216
def wb(n:Nat)(h:n<=65535):lOk (fB n)=true:=by
 have a:p2 (16:Int).toNat=65536:=by decide
 have a1:pOk 1 1=true:=by decide
 have a2:pOk 0 2=true:=by decide
 have a3:pOk 0 5=true:=by decide
 have a4:pOk (n:Int) 16=true:=aT.2 ⟨by omega,by omega,by rw[a];omega⟩;have a5:pOk ((65535-n:Nat):Int) 16=true:=aT.2 ⟨by omega,by omega,by rw[a];omega⟩;simp only[lOk,aZ,fB,a19,a2Z,a1,a2,a3,a4,a5];simp
def zh(n:Nat):aV (fB n)=(iQ n,40):=by
 simp[aV,oh,fB,jh,iQ]
def KO(n:Nat)(h:n<=65535):pC (fB n)=leS 5 (iQ n):=by
 rw[ee (wb n h),cS,zh];simp only[Nat.reduceAdd,Nat.reduceDiv]
def DR(n:Nat):(aV (fB n)).2%8=0:=by rw[zh];simp only[Nat.reduceMod]
def zO(L:List UInt8)(h:L.length<=300):pC (fB L.length++bZ L)=leS 5 (iQ L.length)++L:=by
 rw[JM (fB L.length) (bZ L) (wb _ (by omega)) (pV L (by omega)) (by rw[mC];simp[fB];omega) (DR _),KO _ (by omega),Gl L (by omega)]
def gJ(L:List UInt8):List UInt8:=if L.length<=300 then leS 5 (iQ L.length)++L else []
def QO(n:Nat)(h:n<=300):n ^^^ 65535=65535-n:=by
 apply Nat.eq_of_testBit_eq;intro i;have e1:(65535:Nat)=2 ^ 16-1:=rfl;have e2:65535-n=2 ^ 16-(n+1):=by omega
 rw[e2,Nat.testBit_two_pow_sub_succ (by omega),Nat.testBit_xor,e1,Nat.testBit_two_pow_sub_one];by_cases a:i<16
 . simp[a]
 . have:n.testBit i=false:=Nat.testBit_lt_two_pow (a0h (show n<2 ^ 16 by omega) (a0P (by omega) (by omega)));simp[a,this]
def KB(b:Nat)(w w':World):Prop:=Below b w w'/\cx b w w'
def KB.refl(b:Nat)(w:World):KB b w w:=⟨a0c _ _,cx.refl _ _⟩
def KB.trans{w1 w2:World}(h:KB b w w1)(k:KB b w1 w2):KB b w w2:=⟨h.1.trans k.1,h.2.trans k.2⟩
def KB.drew(h:KB b w w'):KB b w w'.drew:=⟨h.1.drew,h.2.drew⟩
def KB.set(h:KB b w w')(o:Nat)(u:Value):KB b w (w'.setCell ⟨b,o,none⟩ u):=⟨ai h.1 (a0a _) u,h.2.set u⟩
def KB.below{w'':World}(h:KB b w w')(hb:Below w'.heap.size w' w'')(c:b<=w'.heap.size):KB b w w'':=
 ⟨h.1.trans (hb.mono c),h.2.trans ⟨hb.size,fun k a _ _=>hb.block k a⟩⟩
def Fa{W2 WA:World}{v v' v1 v2:Value}{l:List UInt8}{x:UInt8}(T2:Three W2 b v v1 v2)(Y2:Bys W2 b v l)(h:KB b w W2)
  (e:Below (b+1) W2 WA) (d:cx b W2 WA) (f:Bys WA b v l) (c:w'.ownsRow (b+1) 5 1 v' (l.length+1) (dD l++[.int .u8 (x.toNat:Int)])) (a:WA.grownBy w' v.ownBlock) :
  (∃g cap,v' = .slice (some ⟨g,0,none⟩) (l.length+1) cap)/\Three w' b v v1 v2/\Bys w' b v' (l++[x])/\KB b w w':=by
 obtain⟨i,h2,j,k⟩:=xI T2 Y2 h.1 e c a;exact⟨i,h2,j,k,h.2.trans (d.grown f a)⟩
def PU(b V m:Nat)(num bits:Int)(w:World)(h:Out w b V m)(n0:0<=num)(n1:num<65536)(b0:0<=bits)(b1:bits<=16)(hm:m<=100000) :
  Calls prog 197 #[.pointer b,num,bits] w fun e w'=>e = .returned (.tuple #[]) /\
   Out w' b (V+num.toNat%p2 bits.toNat*p2 m) (m+bits.toNat)/\KB b w w':=by
 obtain⟨n,rfl⟩:=a0r n0;obtain⟨c,rfl⟩:=a0r b0;rw[a0n,a0n];obtain⟨i0,hi,a9,ba,bb⟩:=a0p Tryz.infoU8;go_enter func197,ntmps197;go_wp2
 go_loopw [1,6] (fun x i wr=>∃k:Nat,k<=c/\i = .int .i64 k/\x = .int .i64 (n/p2 k:Nat)/\Out wr b (V+n%p2 k*p2 m) (m+k)/\KB b w wr) (fun _ i _=>c-(intOf i).toNat)
 case atStart=>exact⟨0,a0g _,rfl,by simp[p2],by simpa[p2,a1s]using h,KB.refl _ _⟩
 case round=>
  obtain⟨k,hk,rfl,rfl,z,a⟩:=hrel;by_cases b4:k<c
  .
   have B:=af (BM V n k m);have g:=af (DO n k);have a6:n/p2 k<=n:=a12 _ _;obtain⟨hV,v,s,G⟩:=z;obtain⟨sa,scap,rfl⟩:=G.form;have a5:=vj (V+n%p2 k*p2 m) (m+k) hV;generalize V+n%p2 k*p2 m=V1,W:m+k=m1 at *;have hx:n/p2 k%2<=1:=(by omega);have ad:((n/p2 k:Nat):Int)%2=((n/p2 k%2:Nat):Int):=(by omega);have bd:((n/p2 k:Nat):Int)<65536:=(by omega);have a7:p2 (m1%8)<=128:=rI (m1%8) 7 (by omega);have O:n/p2 k%2*p2 (m1%8)<=1*p2 (m1%8):=a2f _ hx;have y:((n/p2 k%2:Nat):Int)*((p2 (m1%8):Nat):Int)=((n/p2 k%2*p2 (m1%8):Nat):Int):=(by simp);have q:=EM V1 m1 (n/p2 k%2) hV hx;have d:=EL V1 m1 (n/p2 k%2) hV hx;have ab:m1%8<8:=a0Z _ (by omega);have l:m1<=100016:=(by omega);have Q:(leS (m1/8) V1).length=m1/8:=aB _ _;generalize n/p2 k=nk at *;generalize a8:nk%2=x,a1:V1/p2 (8*(m1/8))=L,ac:m1%8=r at *;generalize N:p2 r=P at *;generalize a2:x*P=X at *;have ao:=af N;have K:=af W;have a0:=af ac;have E:=af q;have C:=af d;clear W a1 ac N a2 hV q d a8 hx a6;obtain⟨k0,H,I,f0,f1,f2,F⟩:=s;have s:Hid (Three wr b _ _ _):=⟨k0,H,I,f0,f1,f2,F⟩;have b5:(r:Int)<8:=(by omega);have bl:(L:Int)<128:=(by omega);have bn:(X:Int)<=128:=(by omega);have S:(k:Int)<(c:Int):=(by omega);have bk:=af ab;have D:=af l;have Hk:=af hk;have al:Hid (IntKind.i64.wrap ((L:Int)+IntKind.i64.wrap ((nk:Int).tmod 2*(P:Int)))=(L:Int)+(X:Int)):=by
    show IntKind.i64.wrap ((L:Int)+IntKind.i64.wrap ((nk:Int).tmod 2*(P:Int)))=(L:Int)+(X:Int);rw[a14 (by omega),ad,y,bW (X:Int) (by omega) (by omega),bW ((L:Int)+(X:Int)) (by omega) (by omega)]
   clear ab l a7 O a5 hk hm;go_wp2_with fail;go_cut[]from 7 to 62 (fun wc=>wc=(wr.setCell ⟨b,1,none⟩ (.int .i64 ((L:Int)+(X:Int)))).drew)
   case first=>
    go_region_with (go_at_call 231;apply(gi _ _ (by omega)).mono;rintro e w'⟨rfl,rfl⟩;rw[a0n,ae ao])
    all_goals
     go_wp2_with fail
     go_meet
     exact by rw[ae al]
   case rest=>
    have T1:=(s.set1 (.int .i64 ((L:Int)+(X:Int)))).drew;have Y1:=(G.set (o:=1) (.int .i64 ((L:Int)+(X:Int)))).drew;have B1:KB b w _:=(a.set 1 (.int .i64 ((L:Int)+(X:Int)))).drew;rw[←hcut]at T1 Y1 B1;clear hcut G a s k0 H I f0 f1 f2 F y ad;have T1':=af T1;obtain⟨k0,H,I,f0,f1,f2,F⟩:=T1;by_cases aa:(r:Int)=7
    .
     have A:r=7:=(by omega);obtain⟨o1,o2,o3,o4⟩:=ae C A;have O1:=af o1;have O2:=af o2;have O3:=af o3;have O4:=af o4;have M:L+X<256:=(by omega);have a4:=af (qS (L+X) M);have b3:IntKind.u8.wrap ((L:Int)+(X:Int))=(L:Int)+(X:Int):=by
      rw[IntKind.wrap_u8'];omega
     subst A;clear o1 o2 o3 o4 aa M;have T2:=T1'.set2 (.int .i64 8);have Y2:=Y1.set (o:=2) (.int .i64 8);have B2:KB b w _:=B1.set 2 (.int .i64 8);have U:=af Q;clear Q;go_wp2_with fail;generalize wc.setCell ⟨b,2,none⟩ (.int .i64 8)=W2 at *;clear k0 H I f0 f1 f2 T1' Y1 B1;have T2':=af T2;obtain⟨k0,H,I,f0,f1,f2,a3⟩:=T2;have R:Hid (((UInt8.ofNat (L+X)).toNat:Int)=(L:Int)+(X:Int)):=by
      show((UInt8.ofNat (L+X)).toNat:Int)=(L:Int)+(X:Int);rw[ae a4];omega
     have T:(leS (m1/8) V1).length<=20000:=by have:=ae U;have:=ae D;omega
     have J:=af T;clear T;go_cut[]from 7 to 62 (fun wc2=>∃v',Three wc2 b v' (.int .i64 ((L:Int)+(X:Int))) (.int .i64 8)/\Bys wc2 b v' (leS (m1/8) V1++[UInt8.ofNat (L+X)])/\KB b w wc2)
     case first=>
      go_region_law (refine aL rfl (.tmp 47) (.tmp 53) 22 rfl (b+1) 5 i0 (.int .u8 0) 1 1 a01 hi a9 ba bb rfl (by decide) _ _ _ (by simp[Act.eval]) (Y2.alloc _) ⟨W2.heap.size,0,none⟩ 1 1 [.int .u8 ((L:Int)+(X:Int))] (by simp[Act.eval]) rfl (by intro j u hj;match j,hj with | 0,hj=>simp at hj;subst hj;simp[Addr.add]) (by intro u hu;simp at hu;subst hu;rfl) (by have:=ae J;unfold maxLen;omega) (by have:=ae J;omega) (by simp;omega) ?_;intro v' w' p f Z;clear Z;rw[←ae R]at p;obtain⟨⟨g',bc,rfl⟩,T3,Y3,B3⟩:=Fa T2' Y2 B2 (by first|exact(a0c _ _).alloc (by omega) _|exact((a0c _ _).alloc (by omega) _).drew) (by first|exact(cx.refl _ _).alloc _|exact((cx.refl _ _).alloc _).drew) (by first|exact Y2.alloc _|exact(Y2.alloc _).drew) p f;clear p f;have T3':=af T3;obtain⟨q0,q1,q2,e0,e1,e2,bs⟩:=T3)
      all_goals
       go_wp2_with fail
       go_meet
       exact⟨_,T3'.set0 _,Y3.set _,B3.set _ _⟩
     case rest=>
      obtain⟨v',T4,Y4,B4⟩:=hcut;clear k0 H I f0 f1 f2 T2' Y2 B2 a3;obtain⟨va,vc,rfl⟩:=Y4.form;have T4':=af T4;obtain⟨k0,H,I,f0,f1,f2,b2⟩:=T4;go_wp2;go_roundw
      case rel=>
       refine⟨k+1,by have:=ae Hk;omega,by go_num,by rw[←ae g];go_num,?_,(B4.set _ _).set _ _⟩;rw[ae B,show m+(k+1)=m1+1 by have:=ae K;omega];refine⟨O1,.slice va (leS (m1/8) V1++[UInt8.ofNat (L+X)]).length vc,?_,?_⟩
       . rw[ae O2,ae O3];exact(T4'.set1 _).set2 _
       . rw[ae O4];exact(Y4.set _).set _
      case measure=>simp[intOf];omega
    .
     have be:((r:Int)+1 == 8)=false:=by simp;omega
     have t:r<7:=(by omega);obtain⟨o1,o2,o3⟩:=ae E t;have O1:=af o1;have O2:=af o2;have O3:=af o3;have Y:Hid ((m1+1)%8=r+1):=by show(m1+1)%8=r+1;have:=ae a0;omega
     clear o1 o2 o3 t aa;go_wp2;go_roundw
     case rel=>
      refine⟨k+1,by have:=ae Hk;omega,by go_num,by rw[←ae g];go_num,?_,B1.set _ _⟩;rw[ae B,show m+(k+1)=m1+1 by have:=ae K;omega];refine⟨O1,.slice sa (leS (m1/8) V1).length scap,?_,?_⟩
      . rw[ae O2,ae Y];exact T1'.set2 _
      . rw[ae O3];exact Y1.set _
     case measure=>simp[intOf];omega
  .
   have S:k=c:=(by omega);subst S;go_wp2
   go_end0
   exact⟨rfl,z,a⟩
def nf(b V m:Nat)(w:World)(h:Out w b V m)(d:m<=90000) :
  Calls prog 198 #[.pointer b] w fun e w'=>e = .returned (.tuple #[])/\Out w' b V (8*((m+7)/8))/\Below b w w':=by
 have j:=af h;obtain⟨k,v,u,n⟩:=h;obtain⟨k0,o,x,f0,f1,f2,q⟩:=u;by_cases l:m%8=0
 .
  have g:((m%8:Nat):Int)=0:=by omega
  have s:Hid (8*((m+7)/8)=m):=by show _=_;omega
  clear l k n k0 o d;go_enter func198,ntmps198;go_wp2
  go_end0
  exact⟨rfl,by rw[ae s];exact j,a0c _ _⟩
 .
  have g:(0:Int)<((m%8:Nat):Int):=by omega
  have t:((m%8:Nat):Int)<8:=by omega
  have a:Hid (m+(8-m%8)=8*((m+7)/8)):=by show _=_;omega
  have i:Hid ((8-((m%8:Nat):Int)).toNat=8-m%8):=by show(8-((m%8:Nat):Int)).toNat=8-m%8;omega
  have f:=af d;clear l k n k0 o d;generalize ((m%8:Nat):Int)=r at *;go_enter func198,ntmps198;go_wp2_with fail;refine(rK b V m 0 (8-r) _ j (by omega) (by omega) (by omega) (by omega) (by have:=ae f;omega)).mono ?_;rintro e w1⟨rfl,c,hb⟩;rw[ae i]at c;simp only[Int.toNat_zero,Nat.zero_mod,Nat.zero_mul,a1d]at c;rw[ae a]at c;have p:=af c;clear c;go_wp2
  go_end0
  exact⟨rfl,p,hb⟩
def mu(s:ByteArray):s.data.toList.length=s.size:=by simp
def Ri(l:List UInt8)(s:ByteArray):(⟨l.toArray⟩:ByteArray)++s=⟨(l++s.data.toList).toArray⟩:=by
 apply ByteArray.ext;rw[a2c];apply Array.ext';simp
def D9(s:ByteArray)(w:World)(A:s.size<=300) :
  Ds 165 #[s] w (.string ⟨(leS 5 (iQ s.size)++s.data.toList).toArray⟩):=by
 have E:(s.size:Int)<=300:=by omega
 have B:=af (BI w 277);have m:Hid (Below w.heap.size w (w.alloc (.cells #[.slice none 0 0,.int .i64 0,.int .i64 0] 277))):=cC;have q:=af A;clear A;go_enter func165,ntmps165;go_wp2_with fail;apply(rK _ 0 0 1 1 _ B (by omega) (by omega) (by omega) (by omega) (by omega)).mono;rintro e x1⟨rfl,r,d⟩;go_wp2_with fail;apply(rK _ _ _ 0 2 _ r (by omega) (by omega) (by omega) (by omega) (by omega)).mono;rintro e x2⟨rfl,h2,f⟩;have a:Out x2 w.heap.size 1 3:=h2;clear r h2;go_wp2_with fail;apply(nf _ _ _ _ a (by omega)).mono;rintro e x3⟨rfl,t,g⟩;have b:Out x3 w.heap.size 1 8:=t;have n:=af ((m.trans d).trans (f.trans g));clear a t d f g;go_wp2_with fail;apply(rK _ _ _ (s.size:Int) 16 _ b (by omega) (by omega) (by omega) (by omega) (by omega)).mono;rintro e x4⟨rfl,u,h⟩;clear b;go_wp2_with fail;apply(rK _ _ _ (65535-(s.size:Int)) 16 _ u (by omega) (by omega) (by omega) (by omega) (by omega)).mono;rintro e x5⟨rfl,x,i⟩;have z:1+((s.size:Int).toNat%p2 (16:Int).toNat*p2 8)+((65535-(s.size:Int)).toNat%p2 (16:Int).toNat*p2 (8+(16:Int).toNat))=iQ s.size:=by
  have e16:p2 (16:Int).toNat=65536:=by decide
  have e8:p2 8=256:=by decide
  have e24:p2 (8+(16:Int).toNat)=16777216:=by decide
  rw[e16,e8,e24];unfold iQ;have:=ae q;rw[a0n,show(65535-(s.size:Int)).toNat=65535-s.size by omega,a1g (by omega),a1g (by omega)]
 have l:Out x5 w.heap.size (iQ s.size) 40:=by rw[←z];exact x
 obtain⟨_,v,T,Y⟩:=l;have j:=mD Y;have o:=af (n.trans (h.trans i));obtain⟨k0,F,G,f0,f1,f2,D⟩:=T;have k:leS (40/8) (iQ s.size)=leS 5 (iQ s.size):=rfl;rw[k]at j;have p:=af (Ri (leS 5 (iQ s.size)) s);clear u x z h i Y F G k;have c:=aB 5 (iQ s.size);generalize y:leS 5 (iQ s.size)=P at j p c;have HP:=af y;have C:¬ 9223372036854775807<P.length+s.size:=by have:=ae q;omega
 clear y c;go_wp2;go_ret;exact⟨by rw[ae HP,←ae p];rfl,o⟩
def lK(k:Int)(w:World) :
  Calls prog 147 #[k] w fun e w'=>e = .returned (.slice w.heap.size 2 2)/\w'=w.alloc (.cells #[.int .i64 1,.int .i64 1,k,.int .i64 2] 167):=by
 go_enter func147,ntmps147;go_wp2;go_ret;exact⟨rfl,rfl⟩
def SO(w:World)(a b c d e f:Value)(t:TypeId)(g:Nat)(i:w.heap.size=g):∀(j:Nat) (u:Value),[a,b,c,d,e,f][j]?=some u->(w.alloc (.cells #[a,b,c,d,e,f] t)).cell? ((⟨g,0,none⟩:Addr).add j)=some u:=by
 subst i;intro j u h
 match j,h with
 | 0,h=>simp at h;subst h;simp[Addr.add]
 | 1,h=>simp at h;subst h;simp[Addr.add]
 | 2,h=>simp at h;subst h;simp[Addr.add]
 | 3,h=>simp at h;subst h;simp[Addr.add]
 | 4,h=>simp at h;subst h;simp[Addr.add]
 | 5,h=>simp at h;subst h;simp[Addr.add]
def SN(a b c d e f:Int):∀u∈[Value.int .i64 a,.int .i64 b,.int .i64 c,.int .i64 d,.int .i64 e,.int .i64 f],u.oneCell'=true:=by
 intro u g;simp at g;rcases g with rfl|rfl|rfl|rfl|rfl|rfl<;>rfl
def Qq(s:ByteArray)(i:Nat)(h:i<s.size):s.data.toList.take (i+1)=s.data.toList.take i++[s[i]]:=by
 have a:=mu s;rw[List.take_add_one,List.getElem?_eq_getElem (by omega)];simp;rfl
def Cz(m:List UInt8)(b:UInt8):bZ m++[((b.toNat:Int),(8:Int))]=bZ (m++[b]):=by simp[bZ]
def Kj(s:ByteArray)(w:World):∃(c:Nat) (x:World) (cs:Array Value) (f:Nat×Nat),(convert 9 22 (.string s)).run prog w = .ok (.slice w.heap.size s.size c) x/\Below w.heap.size w x/\x.heap[w.heap.size]?=some (.cells cs 5 f)/\∀i (h:i<s.size),cs[i]?=some (.int .u8 (s[i].toNat:Int)):=by
 refine⟨_,_,bytesRow s (grownCap w s.size 0 5),((bytesRow s (grownCap w s.size 0 5)).size,(bytesRow s (grownCap w s.size 0 5)).size+1),run_bytes_of_string w _ _ _ s a17 a01 a16,?_,?_,?_⟩
 . exact((a0c _ w).drew).alloc (by simp) _
 . exact Array.getElem?_push_size
 . intro i h;exact bytesRow_at s (grownCap w s.size 0 5) i h
def Qa{i:Nat}{a:Array Value}{t:TypeId}{f:Nat×Nat}{v:Value}(h:w.heap[b]?=some (.cells a t f))(c:a[i]?=some v):w.cell? ⟨b,i,none⟩=some v:=by
 unfold World.cell?;rw[h];exact c
def yx(s:ByteArray)(w:World)(U:s.size<=300) :
  Ds 116 #[s] w (.string ⟨(leS 5 (iQ s.size)++s.data.toList).toArray⟩):=by
 obtain⟨i0,C,H,I,J⟩:=a0p Tryz.infoPiece;have ab:(s.size:Int)<=300:=by omega
 have hI:¬ (300:Int)<(s.size:Int):=by omega
 obtain⟨N,hN⟩:∃N:Nat,65535-s.size=N:=⟨_,rfl⟩;have hx:bits .xor .i64 (s.size:Int) 65535=(N:Int):=by
  have:=nU s.size 65535 (by omega) (by omega);rw[QO s.size U,hN]at this;exact this
 have HH:Hid (fB s.size=[(1,1),(0,2)]++[(0,5),((s.size:Int),16),((N:Int),16)]):=by show _=_;unfold fB;rw[hN];rfl
 have P:Hid ((w.alloc (.cells #[.int .i64 1,.int .i64 1,.int .i64 0,.int .i64 2] 167)).ownsRow w.heap.size 167 2 (.slice w.heap.size 2 2) 2 [.int .i64 1,.int .i64 1,.int .i64 0,.int .i64 2]):=a0S w #[.int .i64 1,.int .i64 1,.int .i64 0,.int .i64 2] 2 (a0a _) (by unfold maxLen;omega) rfl;have K:Hid (Below w.heap.size w (w.alloc (.cells #[.int .i64 1,.int .i64 1,.int .i64 0,.int .i64 2] 167))):=cC;have E:=af (zO s.data.toList (by rw[mu];exact U));have O:=af (mu s);have bd:Hid (2+3<=maxLen/\(2+3)*16<=140737488355328):=by show _/\_;unfold maxLen;omega
 clear U hN;go_enter func116,ntmps116;go_wp2_with fail;apply(lK 0 w).mono;rintro e x1⟨rfl,r⟩;have x:=af (show x1.ownsRow w.heap.size 167 2 (.slice w.heap.size 2 2) 2 [.int .i64 1,.int .i64 1,.int .i64 0,.int .i64 2] by rw[r];exact P);have u:=af (show Below w.heap.size w x1 by rw[r];exact K);have n:=u.size;clear r;go_wp2_with (at_builtin;refine a0w _ rfl _ _ 164 rfl w.heap.size 167 i0 (.agg #[.int .i64 0,.int .i64 0]) 2 16 a1C C H I J rfl (by decide) (.slice w.heap.size 2 2) _ _ rfl (a0o x _) ⟨x1.heap.size,0,none⟩ 3 3 [.int .i64 0,.int .i64 5,.int .i64 (s.size:Nat),.int .i64 16,.int .i64 (N:Nat),.int .i64 16] rfl rfl (SO _ _ _ _ _ _ _ _ _ rfl) (SN _ _ _ _ _ _) bd.1 bd.2 (ar n _) ?_;intro v' x2 c a f;clear f;obtain⟨c3,x3,cs,fz,R,o,B,A⟩:=Kj s x2);have j:Below w.heap.size w x2:=aH (v:=.slice w.heap.size 2 2) a x (a0a _) n u;have g:Pcs x2 w.heap.size v' (fB s.size):=by rw[ae HH];exact c
 have F:=af (g.later o (a0a _));have L:=af (aj j o);have M:Hid (∀W,bR 5 x3 W->∀i (C:i<s.size),W.cell? ⟨x2.heap.size,i,none⟩=some (.int .u8 (s[i].toNat:Int))):=fun W h i C=>Qa (h _ _ _ B) (A i C);generalize x2.heap.size=G at *;obtain⟨va,vc,rfl⟩:=F.form;have S:Hid ((fB s.size).length=5):=rfl;clear c a j g R o A B
 go_loopw [4,6,23] (fun v _ i wr=>∃k:Nat,k<=s.size/\i = .int .i64 k/\Pcs wr w.heap.size v (fB s.size++bZ (s.data.toList.take k))/\bR 5 x3 wr/\Below w.heap.size w wr) (fun _ _ i _=>s.size-(intOf i).toNat)
 case atStart=>exact⟨0,a0g _,rfl,by simpa[bZ]using ae F,bR.refl _ _,L⟩
 case round=>
  obtain⟨k,hk,rfl,hq,l,d⟩:=hrel;have b:Hid ((fB s.size++bZ (s.data.toList.take k)).length=5+k):=by
   show _=_;rw[a0i,ae S,mC,a0u,ae O];omega
  obtain⟨Y,Z,rfl⟩:=hq.formN b;by_cases p:k<s.size
  .
   have aa:(k:Int)<(s.size:Int):=(by omega);have Q:=ae M wr l k p;have X:(s[k].toNat:Int)<256:=by have:=a2v s[k];omega
   have V:Hid (fB s.size++bZ (s.data.toList.take k)++[((s[k].toNat:Int),(8:Int))]=fB s.size++bZ (s.data.toList.take (k+1))):=by show _=_;rw[a0I,Cz,Qq s k p]
   have t:Hid (5+k+1<=maxLen/\(5+k+1)*16<=140737488355328):=by show _/\_;unfold maxLen;omega
   have q:=af (hq.own b);have z:=d.size;have m:=af (a0b d l);clear hq d l;go_wp2_with (at_builtin;refine a0w _ rfl _ _ 164 rfl w.heap.size 167 i0 (.agg #[.int .i64 0,.int .i64 0]) 2 16 a1C C H I J rfl (by decide) (.slice Y (5+k) Z) _ _ rfl (a0o q _) ⟨wr.heap.size,0,none⟩ 1 1 [.int .i64 (s[k].toNat:Int),.int .i64 8] rfl rfl (vv _ _ _ _) (vu _ _) t.1 t.2 (ar z _) ?_;intro v' y2 c a f;clear f);have j:=aH (v:=.slice Y (5+k) Z) a q (a0a _) z m.1;have g:=L3 b c;rw[ae V]at g;have D:=(m.2.alloc (.cells #[.int .i64 (s[k].toNat:Int),.int .i64 8] 167)).grown (a0o q _) (by decide) a;clear c a;go_wp2;go_roundw
   case rel=>exact⟨k+1,by omega,by go_num,g,D,j⟩
   case measure=>simp[intOf];omega
  .
   obtain rfl:k=s.size:=by omega
   have y:Hid (s.data.toList.take s.size=s.data.toList):=a0t (by rw[ae O];exact a0a _);rw[ae y]at hq b;have T:Hid (pC (fB s.size++bZ s.data.toList)=leS 5 (iQ s.size)++s.data.toList):=by have:=ae E;rw[ae O]at this;exact this
   have HP:=af (ia Y Z (fB s.size++bZ s.data.toList) wr (hq.rowN b) (by rw[ae b];omega));rw[ae b,ae T]at HP;clear hq hk p l;go_wp2_with fail;apply HP.mono;rintro e y1⟨rfl,hy⟩;go_wp2;go_ret;exact⟨rfl,aj d hy⟩
def sV(s:ByteArray)(w:World)(b:s.size<=1048576) :
  Ds 116 #[s] w (.string ⟨(gJ s.data.toList).toArray⟩):=by
 by_cases a:s.size<=300
 .
  have e:gJ s.data.toList=leS 5 (iQ s.size)++s.data.toList:=by unfold gJ;rw[mu,a0d a]
  rw[e];exact yx s w a
 .
  have c:(300:Int)<(s.size:Int):=by omega
  have e:gJ s.data.toList=[]:=by unfold gJ;rw[mu,a0e a]
  rw[e];clear b a e;go_enter func116,ntmps116;go_wp2;go_ret;exact⟨rfl,a0c _ _⟩
def jN(w:World)(b:Nat)(s:ByteArray)(p:Nat):Prop:=Three w b (.string s) (.int .i64 (min p (8*s.size):Nat)) (.bool true)
def jN.before(h:jN w b s p)(a:p<8*s.size):Three w b (.string s) (.int .i64 (p:Int)) (.bool true):=by
 unfold jN at h;rwa[a1r (by omega)]at h
def jN.next(h:Three w b (.string s) (.int .i64 ((p:Int)+1)) (.bool true))(a:p<8*s.size):jN w b s (p+1):=by
 unfold jN;rwa[a1r (by omega)]
def jN.past(h:jN w b s p)(a:8*s.size<=p):Three w b (.string s) (.int .i64 (8*s.size:Nat)) (.bool true):=by
 unfold jN at h;rwa[a3I (by omega)]at h
def jN.bad(h:Three w b (.string s) (.int .i64 (8*s.size:Nat)) (.bool true))(a:8*s.size<=p):jN w b s (p+1):=by
 unfold jN;rwa[a3I (by omega)]
def jN.at(h:jN w b s p)(a:p<=8*s.size):Three w b (.string s) (.int .i64 (p:Int)) (.bool true):=by
 unfold jN at h;rwa[a1r (by omega)]at h
attribute [local go_sem ↓] Go.wp_at_zero Go.wp_at_succ
def vG(b p:Nat)(s:ByteArray)(w:World)(h:jN w b s p)(r:s.size<=2000000) :
  Calls prog 226 #[.pointer b] w fun e w'=>e = .returned (.int .i64 (ak s/2 ^ p%2:Nat))/\jN w' b s (p+1)/\aw b w w':=by
 have u:(s.size:Int)<=2000000:=by omega
 by_cases g:p<8*s.size
 .
  have d:=h.before g;have hq:p/8<s.size:=by omega
  have hb:=xu s p hq;generalize m:ak s/2 ^ p%2=N at *;have l:=af g;have t:(p:Int)<8*(s.size:Int):=by omega
  have j:p2 (p%8)<=128:=rI (p%8) 7 (by omega);have i:=mW (p%8);have a:=af d;obtain⟨c0,c1,c2,f0,f1,f2,n⟩:=d;have c:(s[p/8]).toNat/p2 (p%8)%2=N:=hb;clear h m hb;obtain⟨Q,hQ⟩:∃Q,p/8=Q:=⟨_,rfl⟩;obtain⟨R,hR⟩:∃R,p%8=R:=⟨_,rfl⟩;simp only[hQ,hR]at c j i hq;have o:=(s[Q]).toNat_lt;generalize f:p2 R=PW at *;have k:=af (fun W=>SF R PW W (by omega) f);have e1:IntKind.i64.wrap (Q:Int)=(Q:Int):=bW _ (by omega) (by omega);have e2:(p:Int)/8=(Q:Int):=by omega
  have e3:(p:Int)%8=(R:Int):=by omega
  have e4:Int.tmod (p:Int) 8=(R:Int):=by rw[a14 (by omega)];exact e3
  have e5:(Q:Int)<(s.size:Int):=by omega
  have e6:(0:Int)<=(Q:Int):=by omega
  have q:(s[Q]).toNat/PW<=(s[Q]).toNat:=a12 _ _;have e7:((s[Q]).toNat:Int)/(PW:Int)=(((s[Q]).toNat/PW:Nat):Int):=by simp
  have e0:(0:Int)<=((s[Q]).toNat:Int)/(PW:Int)/\((s[Q]).toNat:Int)/(PW:Int)<=255:=by rw[e7];exact⟨a3J _,by omega⟩
  have e8:IntKind.i64.wrap (((s[Q]).toNat:Int)/(PW:Int))=((s[Q]).toNat:Int)/(PW:Int):=bW _ (by omega) (by omega);have e10:((s[Q]).toNat:Int)/(PW:Int)%2=(N:Int):=by rw[e7];exact_mod_cast c
  have e9:Int.tmod (((s[Q]).toNat:Int)/(PW:Int)) 2=(N:Int):=by rw[a14 e0.1];exact e10
  have e14:IntKind.i64.wrap ((s[Q]).toNat:Int)=((s[Q]).toNat:Int):=bW _ (by omega) (by omega);have e12:¬ PW=0:=by omega
  clear r g hQ hR f c q o j i e7 e0;go_enter a3K,a3L;go_wp2
  go_quiet (fail)
  go_wp2
  go_region_held3 (fun W=>W.cell? ⟨b,0,none⟩=some (.string s)/\W.cell? ⟨b,1,none⟩=some (.int .i64 (p:Int))) (first|exact⟨c0,c1⟩|assumption) (first|(go_at_call 231;apply(k _).mono;rintro e w'⟨rfl,rfl⟩))
  all_goals
   go_wp2;go_ret;exact⟨rfl,jN.next (by exact a.set1 _) l,kC _ _ _ _ _⟩
 .
  have d:=h.past (by omega);have a:=af d;have l:=af g;have m:=af (pi s p (by omega));obtain⟨c0,c1,c2,f0,f1,f2,n⟩:=d;rw[a1G]at c1;clear h g r;go_enter a3K,a3L;go_wp2
  go_quiet (fail)
  go_wp2;go_ret;exact⟨aJ (by rw[ae m];rfl),jN.bad (a.set2 _) (by have:=ae l;omega),kC _ _ _ _ _⟩
def Gc(b p c:Nat)(s:ByteArray)(w:World)(h:jN w b s p)(A:s.size<=2000000)(u:c<=16) :
  Calls prog 227 #[.pointer b,.int .i64 (c:Int)] w fun e w'=>e = .returned (.int .i64 (ak s/2 ^ p%2 ^ c:Nat))/\jN w' b s (p+c)/\aw b w w':=by
 have D:=af A;have F:(c:Int)<=16:=by omega
 have B:=af u;clear A u;go_enter func227,ntmps227;go_wp2_with fail
 go_loopw [5,6] (fun n i wr=>∃k:Nat,k<=c/\i = .int .i64 k/\n = .int .i64 (ak s/2 ^ p%2 ^ k:Nat)/\jN wr b s (p+k)/\aw b w wr) (fun _ i _=>c-(intOf i).toNat)
 case atStart=>exact⟨0,a0g _,rfl,by simp[a1s],h,aw.refl _ _⟩
 case round=>
  obtain⟨k,v,rfl,rfl,q,d⟩:=hrel;clear h;have C:=af v;by_cases H:k<c
  .
   have G:(k:Int)<(c:Int):=(by omega);have a:k<=16:=by have:=ae B;omega
   have t:Hid (ak s/2 ^ p%2 ^ (k+1)=ak s/2 ^ p%2 ^ k+ak s/2 ^ (p+k)%2*p2 k):=rF (ak s) p k;have m:=Pm (ak s) p k a;have I:ak s/2 ^ (p+k)%2<=1:=(by omega);have o:=vr k a;have f:=af (vG b (p+k) s wr q D);have j:=af (fun W=>SF k (p2 k) W (by omega) rfl);generalize ak s/2 ^ p%2 ^ k=n,ak s/2 ^ (p+k)%2=x,p2 k=PW at *;have g:x*PW<=65536:=by rcases (show x=0∨x=1 by omega)with e|e<;>subst e<;>omega
   have e1:IntKind.i64.wrap ((x:Int)*(PW:Int))=((x*PW:Nat):Int):=by rw[←a1G];exact bW _ (by omega) (by omega)
   have e1':((x:Int)*(PW:Int))=((x*PW:Nat):Int):=(by rw[←a1G]);have z:(n:Int)<65536:=(by omega);have y:((x*PW:Nat):Int)<=65536:=(by omega);generalize E:x*PW=M at *;clear E a I o m g v q;go_wp2_with fail;apply f.mono;rintro e x1⟨rfl,r,l⟩;go_wp2_with fail;apply(j _).mono;rintro e x2⟨rfl,rfl⟩;go_wp2;go_roundw
   case rel=>exact⟨k+1,by omega,by go_num,by rw[ae t];go_num,r,d.trans l⟩
   case measure=>simp[intOf];omega
  .
   obtain rfl:k=c:=by have:=ae C;omega
   go_wp2;go_ret;exact⟨rfl,q,d⟩
def As(b p:Nat)(s:ByteArray)(w:World)(h:jN w b s p)(J:s.size<=2000000)(T:p<=8*s.size) :
  Calls prog 196 #[.pointer b] w fun e w'=>e = .returned (.bool (decide (ak s/2 ^ p%2 ^ ((8-p%8)%8)=0)))/\jN w' b s (p+(8-p%8)%8)/\aw b w w':=by
 have N:=af J;have E:(8-p%8)%8<=7:=by omega
 have F:(p+(8-p%8)%8)%8=0:=by omega
 have y:p+(8-p%8)%8<=8*s.size:=by omega
 have f:∀j,j<(8-p%8)%8->(p+j)%8≠0:=by omega
 have V:(s.size:Int)<=2000000:=by omega
 generalize (8-p%8)%8=c at *;have B:=af y;clear J T y;go_enter func196,ntmps196;go_wp2_with fail
 go_loopw [3] (fun n wr=>∃k m:Nat,k<=c/\n = .int .i64 (m:Nat)/\m<=k/\(m=0<->ak s/2 ^ p%2 ^ k=0)/\jN wr b s (p+k)/\aw b w wr) (fun _ wr=>c+p-(match wr.cell? ⟨b,1,none⟩with|some (.int _ i)=>i.toNat|_=>0))
 case atStart=>exact⟨0,0,a0g _,rfl,a0a _,by simp[a1s],h,aw.refl _ _⟩
 case round=>
  obtain⟨k,m,I,rfl,v,u,z,d⟩:=hrel;clear h;have P:=z.at (by have:=ae B;omega);obtain⟨c0,c1,c2,f0,f1,f2,Q⟩:=P;have M:=af I;have r:=af u;have U:((p+k:Nat):Int)<=16000000:=by have:=ae B;omega
  clear u;by_cases g:k<c
  .
   have S:¬ ((p+k:Nat):Int)%8=0:=by have:=f k g;omega
   have G:=af (rest_step (ak s) p k);have K:ak s/2 ^ (p+k)%2<=1:=(by omega);have t:=af (vG b (p+k) s wr z N);generalize ak s/2 ^ (p+k)%2=x at *;have W:(x:Int)<=1:=(by omega);have R:(m:Int)<=7:=(by omega);have L:=af K;have A:=af v;have q:=af g;have C:=af (show p+k<8*s.size by have:=ae B;omega);clear f K I v g z F E;generalize a:p+k=pk at *;have o:=af a;clear a;go_wp2_with fail;apply t.mono;rintro e x1⟨rfl,l,D⟩;go_wp2;go_roundw
   case rel=>exact⟨k+1,m+x,q,by go_num,by have:=ae A;have:=ae L;omega,by rw[ae G,←ae r];omega,by rw[←ae o]at l;exact l,d.trans D⟩
   case measure=>
    have O:=(l.at (by have:=ae C;omega)).2.1;rw[O,c1];have:=ae o;have:=ae q;simp;omega
  .
   obtain rfl:k=c:=by have:=ae M;omega
   have X:((p+k:Nat):Int)%8=0:=(by omega);generalize a:p+k=pk at *;go_wp2;go_ret;refine⟨am ?_,by rw[a];exact z,d⟩;rw[show decide (ak s/2 ^ p%2 ^ k=0)=decide (m=0)from decide_eq_decide.2 r.symm];rcases a2n m with H|H
   . subst H;rfl
   . rw[a0m (by omega)];first|(exact a0m (by omega))|(exact beq_false_of_ne (by omega))|(exact(by omega:False).elim)
end Go.Proofs.YtfannoajibacnaaGreatDoor
namespace Go.Proofs.YtfannoajibacnaaGreatDoor
open Go.Proofs.Tryz
open Corb
variable {l:List Int}{s:List UInt8}
def bitsOf(l:List (Int×Int)):List Int:=l.map (·.2)
def numsOf(l:List (Int×Int)):List Int:=l.map (·.1)
def Fb(V p q:Nat)(l:List Int):eQ V (p+q) l=eQ (V/2 ^ p) q l:=by
 induction l generalizing q with
 | nil=>rfl
 | cons b l ih=>
  simp only[eQ];rw[a1Y,←a0T,←ih,a2a]
def L4(l:List (Int×Int))(W:Nat)(h:aZ l=true):eQ ((aV l).1+W*2 ^ (aV l).2) 0 (bitsOf l)=numsOf l:=by
 induction l generalizing W with
 | nil=>rfl
 | cons p l ih=>
  have a:pOk p.1 p.2=true/\aZ l=true:=by simpa[aZ]using h
  obtain⟨⟨d,e⟩,n0,n1⟩:=aT.1 a.1;have e1:aV [p]=(p.1.toNat,p.2.toNat):=by simp[aV,oh,jh]
  have e2:aV (p :: l)=(p.1.toNat+(aV l).1*2 ^ p.2.toNat,p.2.toNat+(aV l).2):=by
   rw[show p :: l=[p]++l from rfl,ly,e1]
  have b:p.1.toNat<2 ^ p.2.toNat:=by
   have:((p2 p.2.toNat:Nat):Int)=((2 ^ p.2.toNat:Nat):Int):=rfl;omega
  have c:(aV (p :: l)).1+W*2 ^ (aV (p :: l)).2=p.1.toNat+((aV l).1+W*2 ^ (aV l).2)*2 ^ p.2.toNat:=by
   rw[e2];simp only;rw[a0T,a1y,a2a]
   congr 2
   rw[a1j (2 ^ p.2.toNat),a1R]
  rw[c];show((((p.1.toNat+((aV l).1+W*2 ^ (aV l).2)*2 ^ p.2.toNat)/2 ^ 0%2 ^ p.2.toNat:Nat):Int)) :: eQ _ (0+p.2.toNat) (bitsOf l)=p.1 :: numsOf l;rw[Nat.pow_zero,Nat.div_one,Nat.add_mul_mod_self_right,a1g b];rw[show 0+p.2.toNat=p.2.toNat+0 by omega,Fb,Nat.add_mul_div_right _ _ (a1p _),a1Z b,a0G,ih W a.2]
  congr 1
  omega
def Mi{l:List (Int×Int)}(h:aZ l=true):g9 (bitsOf l)=(aV l).2:=by
 have b:=tP l h;have h2:(g9 (bitsOf l):Int)=cq l:=by
  clear b;induction l with
  | nil=>rfl
  | cons p l ih=>
   have a:pOk p.1 p.2=true/\aZ l=true:=by simpa[aZ]using h
   obtain⟨⟨c,d⟩,_⟩:=aT.1 a.1;have:=ih a.2;simp only[bitsOf,a0D,cq,a0N]at this ⊢;rw[mw];omega
 omega
def QJ{l:List (Int×Int)}(h:lOk l=true):di (pC l)=(aV l).1:=by
 have a:aZ l=true:=by simp only[lOk,a0k]at h;exact h.1
 rw[ee h,cS,yg,a1g];exact a0h (Cf l a) (a0P (by omega) (by omega))
open Go.RowKit
def wi(a:Option Addr)(cap n:Nat)(l:List (Int×Int))(w:World)(c:l.length=n)(h:pR w a l)(b:n<=1000000000) :
  Ds 135 #[.slice a n cap] w (.int .i64 (pJ l)):=by
 subst c;exact ja a cap l w h b
def DL(h:fx l=false∨4000<l.length):ll s l=false/\DK s l=[]:=by
 have a:ll s l=false:=by
  unfold ll;rcases h with h|h
  . simp[h]
  . simp;omega
 exact⟨a,a0e (by simp[a])⟩
def Oi(h:fx l=true)(a:l.length<=4000):ll s l=(decide (s.length=(g9 l+7)/8)&&decide (di s<2 ^ g9 l)):=by
 simp[ll,h,a]
def RJ(h:ll s l=false):DK s l=[]:=a0e (by simp[h])
def Oh(h:ll s l=true):DK s l=eQ (di s) 0 l:=a0d h
def rM{v:Value}{a b:Bool}(h:a=b):Ending.returned (.tuple #[v,.bool a]) = .returned (.tuple #[v,.bool b]):=by rw[h]
def blank(l:List Int):List (Int×Int):=l.map fun b=>(0,b)
def oJ(l:List Int):(blank l).length=l.length:=by simp[blank]
def LM(b:Int):pOk 0 b=inB b 0 16:=by
 rw[a2h,aT,aI];have:=mW b.toNat
 constructor
 . exact fun h=>h.1
 . exact fun h=>⟨h,by omega,by omega⟩
def Nm(l:List Int):aZ (blank l)=fx l:=by
 simp only[aZ,fx,blank,List.all_map]
 congr 1
 funext b
 exact LM b
def J8(l:List Int)(h:fx l=true):cq (blank l)=(g9 l:Int):=by
 induction l with
 | nil=>rfl
 | cons b l ih=>
  have a:(0<=b/\b<=16)/\fx l=true:=by simpa[fx]using h
  have:=ih a.2;simp only[cq,blank,a0D,a0N]at this ⊢;rw[mw,this];omega
def Gf(l:List Int)(a:l.length<=4000):pJ (blank l)=if fx l=true then(g9 l:Int)else -1:=by
 unfold pJ lOk;rw[Nm,oJ];rcases hb:fx l with _|_
 . simp
 . simp[a,J8 l hb]
def Gg(l:List Int)(b:Int):blank (l++[b])=blank l++[(0,b)]:=by simp[blank]
def J6(l:List Int)(k:Nat)(h:k<l.length):(blank l).getD k (0,0)=(0,l.getD k 0):=by
 simp[blank,List.getD,h]
def Ct(b:Int)(w:World) :
  Ds 134 #[b] w (.agg #[.int .i64 0,b]):=by
 go_enter func134,ntmps134;go_wp2;exact a0x (v:=.agg #[.int .i64 0,b]) (by simp[results,results134,go_sem]) rfl ⟨rfl,cC⟩
def Kq(a:Option Addr)(cap:Nat)(l:List Int)(w:World)(h:bE w a l)(G:l.length<=4000) :
  Calls prog 133 #[.slice a l.length cap,.func (.func 134) #[] #[]] w fun e w'=>∃v,e = .returned v/\Pcs w' w.heap.size v (blank l)/\Below w.heap.size w w':=by
 have F:=af G;have L:(l.length:Int)<=4000:=by omega
 clear G;obtain⟨i0,M,C,D,E⟩:=a0p Tryz.infoPiece;go_enter func133,ntmps133;go_wp2_with fail
 go_loopw [5,7,10] (fun o _ i wr=>∃k:Nat,k<=l.length/\i = .int .i64 k/\Pcs wr w.heap.size o (blank (l.take k))/\Below w.heap.size w wr) (fun _ _ i _=>l.length-(intOf i).toNat)
 case atStart=>exact⟨0,a0g _,rfl,a1b _ _ _ _,a0c _ _⟩
 case round=>
  obtain⟨k,I,rfl,hq,b⟩:=hrel;by_cases t:k<l.length
  .
   obtain⟨g,o,rfl,N,H⟩:=(h.later b) (by omega);have c0:=H k t;have B:=af (cN l k t);have s:Hid ((blank (l.take k)).length=k):=by show(blank (l.take k)).length=k;rw[oJ];simp;omega
   have K:=af I;clear H I h;generalize l.getD k 0=y at *;go_wp2_with fail;apply(Ct y _).mono;rintro e x1⟨rfl,n⟩;have q:=Pcs.later hq n (a0a _);have c:=aj b n;have r:=c.size;clear hq b n;go_wp2_with (at_builtin;refine a0w _ rfl _ _ 164 rfl w.heap.size 167 i0 (.agg #[.int .i64 0,.int .i64 0]) 2 16 a1C M C D E rfl (by decide) _ _ _ rfl (a0o q _) ⟨x1.heap.size,0,none⟩ 1 1 [.int .i64 0,.int .i64 y] rfl rfl (by intro j u p;match j,p with | 0,p=>simp at p;subst p;simp[Addr.add] | 1,p=>simp at p;subst p;simp[Addr.add]) (by intro u J;simp at J;rcases J with rfl|rfl<;>rfl) (by have:=ae s;have:=ae F;unfold maxLen;omega) (by have:=ae s;have:=ae F;omega) (by simp;omega) ?_;intro v' x2 m d x;clear x);have A:=aH (v:=u5) d q (a0a _) r c;have z:=ot m;rw[←Gg,←ae B]at z;clear m d q;go_wp2;go_roundw
   case rel=>exact⟨k+1,by have:=ae K;omega,by go_num,z,A⟩
   case measure=>simp[intOf];omega
  . have f:l.take k=l:=a0t (by omega);rw[f]at hq;obtain⟨va,vc,rfl⟩:=hq.form;clear f h;go_wp2;go_ret;exact⟨_,rfl,hq,b⟩
def Lw(a:Addr)(w:World):(method 487 170 (.pointer (some a)) "loop.example/corbel/impl.pass").run prog w = .ok (271,.pointer (some a)) w:=by kernel_rfl
def Ks(b:Nat)(s:ByteArray)(a:Option Addr)(cap:Nat)(l:List Int)(w:World)(h:pR w a (blank l))(hbo:fx l=true)(h4:l.length<=4000)(hs:s.size<=2000000)(hr:Rdr w b s 0)(hb:∀g o,a=some ⟨g,o,none⟩->0<l.length->g<b) :
  Calls prog 169 #[.slice a l.length cap,.func (.method "loop.example/corbel/impl.pass") #[.iface 170 (.pointer b)] #[]] w fun e w'=>
   ∃v,e = .returned v/\an w' (b+1) v (eQ (ak s) 0 l)/\Rdr w' b s (g9 l)/\Below b w w':=by
 have Hbo:=af hbo;have H4:=af h4;have Hs:=af hs;have h4':(l.length:Int)<=4000:=by omega
 have hbl:=oJ l;clear hbo h4 hs;obtain⟨i0,hi,hz0,hz1,hz2⟩:=a0p Tryz.infoInt;have mp:=Lw ⟨b,0,none⟩;have Hb:=af hb;clear hb;go_enter func169,ntmps169;go_wp2_with fail
 go_loopw [5,7,10] (fun o _ i wr=>∃k:Nat,k<=l.length/\i = .int .i64 k/\an wr (b+1) o (eQ (ak s) 0 (l.take k))/\Rdr wr b s (g9 (l.take k))/\Below b w wr) (fun _ _ i _=>l.length-(intOf i).toNat)
 case atStart=>exact⟨0,a0g _,rfl,an.nil _ _,hr,a0c _ _⟩
 case round=>
  obtain⟨k,hk,rfl,hown,hrr,hbel⟩:=hrel;have hrl:=hrr.lt;by_cases hlt:k<l.length
  .
   obtain⟨g,o,rfl,hg,hc⟩:=h (by omega);have hgb:=ae Hb g o rfl (by omega);have hck:=hc k (by omega);rw[J6 l k hlt]at hck;have c0:=(hbel.cell (p:=⟨g,o+k*2,none⟩) hgb).trans hck.1;have c1:=(hbel.cell (p:=⟨g,o+k*2+1,none⟩) hgb).trans hck.2;have htk:=af (cN l k hlt);have hrd:=af (BP (ak s) 0 (l.take k) [l.getD k 0]);have hsu:=af (uw (l.take k) [l.getD k 0]);have hlk:Hid ((eQ (ak s) 0 (l.take k)).length=k):=by show(eQ (ak s) 0 (l.take k)).length=k;rw[zJ];simp;omega
   obtain⟨y0,y1⟩:=Ge Hbo k hlt;have HK:=af hk;clear hc hk h hr hck hbl;generalize l.getD k 0=y at *;obtain⟨c,rfl⟩:=a0r y0;go_wp2_with fail;apply(xK b (g9 (l.take k)) c 0 s _ (hrr.alloc _) Hs (by omega)).mono;rintro e x1⟨rfl,hr1,hk1⟩;have hown1:an x1 (b+1) u5 (eQ (ak s) 0 (l.take k)):=hk1.own (a0o hown _) (a0j _);have hbel1:=(hbel.alloc (a0s hrl) (.cells #[.int .i64 0,.int .i64 (c:Int)] 167)).trans hk1.1;have hr1l:=hr1.lt;generalize hX:ak s/2 ^ g9 (l.take k)%2 ^ c=X at *;have HX:=af hX;clear hX hown hrr hbel hk1;go_wp2_with (at_builtin;refine a0w _ rfl _ _ 129 rfl (b+1) 3 i0 (.int .i64 0) 1 8 a0F hi hz0 hz1 hz2 rfl (by decide) _ _ _ rfl (a0o hown1 _) ⟨x1.heap.size,0,none⟩ 1 1 [.int .i64 (X:Int)] rfl rfl (by intro j u hj;match j,hj with | 0,hj=>simp at hj;subst hj;simp[Addr.add]) (by intro u hu;simp at hu;subst hu;rfl) (by have:=ae hlk;have:=ae H4;unfold maxLen;omega) (by have:=ae hlk;have:=ae H4;omega) (by simp;omega) ?_;intro v' x3 hown hgrow hnil;clear hnil);have hr3:Rdr x3 b s (g9 (l.take k)+c):=hr1.kept (aH (v:=u5) hgrow hown1 (a0a _) (by omega) (a0c _ _));have hbel3:Below b w x3:=aH (v:=u5) hgrow hown1 (a06 _) (by omega) hbel1;have hown3:=oY hown;clear hown hgrow hown1 hr1 hbel1;go_wp2;go_roundw
   case rel=>
    refine⟨k+1,by have:=ae HK;omega,by go_num,?_,?_,hbel3⟩
    . rw[ae htk,ae hrd];simp only[eQ,a0G,a0n];rw[ae HX];exact hown3
    . rw[ae htk,ae hsu];simp only[g9,a0D,a1I,a0N,a3k,a0n,a1d];exact hr3
   case measure=>simp[intOf];omega
  . have hlk2:l.take k=l:=a0t (by omega);rw[hlk2]at hown hrr;obtain⟨va,vc,rfl⟩:=hown.form;clear hlk2 h hr;go_wp2;go_ret;exact⟨_,rfl,hown,hrr,hbel⟩
def MA(b:Nat)(s:ByteArray)(a:Option Addr)(cap:Nat)(l:List Int)(w:World)(h:pR w a (blank l))(f:fx l=true)(j:l.length<=4000)(m:s.size<=2000000)(k:Rdr w b s 0)(hb:∀g o,a=some ⟨g,o,none⟩->0<l.length->g<b) :
  Calls prog 136 #[.iface 170 (.pointer b),.slice a l.length cap] w fun e w'=>
   ∃v,e = .returned v/\an w' (b+1) v (eQ (ak s) 0 l)/\Rdr w' b s (g9 l)/\Below b w w':=by
 go_enter func136,ntmps136;go_wp2_with fail;apply(Ks b s a cap l _ h f j m k hb).mono;rintro e w1⟨v,rfl,c,i,d⟩;obtain⟨va,vc,rfl⟩:=c.form;go_wp2;go_ret;exact⟨_,rfl,c,i,d⟩
def uM(s:ByteArray)(a:Option Addr)(cap:Nat)(l:List Int)(w:World)(h:bE w a l)(hs:s.size<=2000000)(hl:l.length<=2000000) :
  Calls prog 100 #[s,.slice a l.length cap] w fun e w'=>∃v,e = .returned (.tuple #[v,.bool (ll s.data.toList l)])/\an w' w.heap.size v (DK s.data.toList l)/\Below w.heap.size w w':=by
 have ac:(l.length:Int)<=2000000:=by omega
 have Y:=af hs;clear hs hl;by_cases S:l.length<=4000
 .
  have V:(l.length:Int)<=4000:=by omega
  have G:=af S;have C:=af (Gf l S);have j:=af (oJ l);go_enter func100,ntmps100;go_wp2_with fail;apply(Kq a cap l _ h G).mono;rintro e x1⟨v,rfl,hq,J⟩;obtain⟨va,vc,rfl⟩:=hq.formN j;have u:=hq.rowN j;clear h S;go_wp2_with fail;refine(wi va vc l.length (blank l) _ j u (by have:=ae G;omega)).mono ?_;rintro e x2⟨rfl,A⟩;rw[ae C];have O:=hq.later A (a0a _);have d:=O.rowN j;have c:=aj J A;have Q:=af c.size;clear u J A hq;rcases k:fx l with _|_
  .
   have b:=af (DL (s:=s.data.toList) (a0J k));rw[a0e (by simp)];go_wp2
   go_ret2
   refine⟨_,rM b.1.symm,?_,c⟩;rw[b.2];exact an.nil _ _
  .
   have U:=af k;have n:=af (Oi (s:=s.data.toList) k G);have P:s.data.toList.length=s.size:=(by simp);have X:=SZ k;have hS:(g9 l:Int)<=64000:=by have:=ae G;omega
   have aa:(0:Int)<=(g9 l:Int):=(by omega);have r:=af (Is s.data.toList (g9 l));rw[P]at n r;rw[a0d rfl];have x:=af (Oh (s:=s.data.toList) (l:=l));have t:=af (RJ (s:=s.data.toList) (l:=l));have Z:di s.data.toList=ak s:=rfl;rw[Z]at n r x;clear k X P Z;generalize hm:g9 l=m at *;have Hm:=af hm;clear hm;by_cases he:(s.size:Int)=((m:Int)+7)/8
   .
    have L:s.size=(m+7)/8:=(by omega);have I:=SH x2 s 172;have z:Below x2.heap.size x2 (x2.alloc (.cells #[s,.int .i64 0,.bool false] 172)):=cC;have q:=d.later z;have M:∀g o,va=some ⟨g,o,none⟩->0<l.length->g<x2.heap.size:=by
     intro g o e h0;obtain⟨g',o',e',ab,_⟩:=d (by rw[ae j];exact h0);rw[e]at e';simp only[a0l,a0A,a0Q]at e';omega
    have R:=af L;have HG:=af M;clear L M d;go_wp2_with fail;apply(MA x2.heap.size s va vc l _ q U G Y I HG).mono;rintro e x3⟨v,rfl,p,E,K⟩;have f:=aj c (z.trans K);rw[ae Hm]at E;clear I z q K c O;obtain⟨va',vc',rfl⟩:=p.form;go_wp2_with fail;refine(uq x2.heap.size m s _ E Y (by have:=ae R;omega)).mono ?_;rintro e x4⟨rfl,W,B⟩;have D:=B.own p (a0j _);have i:=f.trans (B.1.mono Q);clear p E W B f;by_cases F:ak s/2 ^ m%2 ^ ((8-m%8)%8)=0
    .
     rw[a0B F];have N:ll s.data.toList l=true:=by
      rw[ae n,a0B (ae R),a0B ((r (ae R)).1 F)];rfl
     have H:=af N;clear N F;go_wp2
     go_ret2
     refine⟨_,rM H.symm,?_,i⟩;rw[ae x (ae H)];exact an.mono D (Nat.le_succ_of_le Q)
    .
     rw[a0m F];have b:ll s.data.toList l=false:=by
      rw[ae n,a0m (fun h=>F ((r (ae R)).2 h))];simp
     have y:=af b;have T:=af (ae t b);clear b F;go_wp2
     go_ret2
     refine⟨_,rM y.symm,?_,i⟩;rw[ae T];exact an.nil _ _
   .
    have b:ll s.data.toList l=false:=by
     rw[ae n,a0m (by omega)];rfl
    have ad:((s.size:Int) != ((m:Int)+7)/8)=true:=by simpa using he
    have y:=af b;have T:=af (ae t b);clear b;go_wp2
    go_ret2
    refine⟨_,rM y.symm,?_,c⟩;rw[ae T];exact an.nil _ _
 .
  have b:=af (DL (s:=s.data.toList) (l:=l) (Or.inr (by omega)));have V:4000<(l.length:Int):=by omega
  clear S;go_enter func100,ntmps100;go_wp2
  go_ret2
  refine⟨_,rM b.1.symm,?_,a0c _ _⟩;rw[b.2];exact an.nil _ _
