/- Texts. -/
import Derived.Test.YtckocaibjciplaaGreatDoorM9
import Derived.Test.YtckocaibjciplaaGreatDoorM5
set_option linter.all false
set_option maxRecDepth 100000
set_option maxHeartbeats 6400000
namespace Go.Proofs.YtckocaibjciplaaGreatDoor
open Go.Proofs.Tryz
open Go.RowKit Corb
variable {P V b c crc g how i j k lg m o pk st:Nat}{W w w':World}{l:List UInt8}{nm:ByteArray}{v v1:Value}{x y:Int}{xs:List Int}
def Bys(w:World)(b:Nat)(v:Value)(l:List UInt8):Prop:=w.ownsRow (b+1) 5 1 v l.length (df l)
def Bys.form(h:Bys w b v l):∃a cap,v = .slice a l.length cap:=by
 rcases h.2 with⟨e,c⟩|⟨g,cap,_,e,_⟩
 . exact⟨none,0,by rw[e,c]⟩
 . exact⟨_,cap,e⟩
def Bys.set(h:Bys w b v l)(u:Value):Bys (w.setCell ⟨b,o,none⟩ u) b v l:=
 a3P h (a:=⟨b,o,none⟩) (a0i b) u
def Bys.drew(h:Bys w b v l):Bys w.drew b v l:=h
def Out(w:World)(b V m:Nat):Prop:=
 V<p2 m/\∃v,Three w b v (.int .i64 (V/p2 (8*(m/8)):Nat)) (.int .i64 (m%8:Nat))/\Bys w b v (leS (m/8) V)
def D2(V m x:Nat)(a:V<p2 m)(b:x<=1)(c:m%8<7) :
  V+x*p2 m<p2 (m+1)/\(V+x*p2 m)/p2 (8*((m+1)/8))=V/p2 (8*(m/8))+x*p2 (m%8)/\leS ((m+1)/8) (V+x*p2 m)=leS (m/8) V:=by
 refine⟨add_lt V x m a b,?_,?_⟩
 . rw[show(m+1)/8=m/8 by omega];have:=zH V x m (m/8) (by omega);rw[show m-8*(m/8)=m%8 by omega]at this;exact this
 . rw[show(m+1)/8=m/8 by omega];exact uy (m/8) V x m (by omega)
def DZ(V m x:Nat)(e:V<p2 m)(f:x<=1)(g:m%8=7) :
  V+x*p2 m<p2 (m+1)/\(V+x*p2 m)/p2 (8*((m+1)/8))=0/\(m+1)%8=0 /\
   leS ((m+1)/8) (V+x*p2 m)=leS (m/8) V++[UInt8.ofNat (V/p2 (8*(m/8))+x*p2 (m%8))]:=by
 have b:=add_lt V x m e f;refine⟨b,?_,by omega,?_⟩
 .
  apply a1Z;have:p2 (8*((m+1)/8))=2 ^ (m+1):=by unfold p2;rw[show 8*((m+1)/8)=m+1 by omega]
  rw[this];exact b
 . rw[show(m+1)/8=m/8+1 by omega];have a:=uy (m/8) V x m (by omega);have d:=zH V x m (m/8) (by omega);rw[show m-8*(m/8)=m%8 by omega]at d;have c:=Ag (V+x*2 ^ m) (m+1) (m/8) b (by omega);rw[show m+1-8*(m/8)=8 by omega]at c;show leS (m/8) (V+x*2 ^ m)++[UInt8.ofNat ((V+x*2 ^ m)/2 ^ (8*(m/8))%256)]=_;rw[a1e c,a,d];rfl
def ux(V m:Nat)(a:V<p2 m):V/p2 (8*(m/8))<p2 (m%8):=by
 have:=Ag V m (m/8) a (by omega);rw[show m-8*(m/8)=m%8 by omega]at this;exact this
def qj(k:Nat)(h:k<256):(UInt8.ofNat k).toNat=k:=by
 have:k%256=k:=a1e h;simp[this]
def wG{W2 WA:World}{v' v2:Value}{x:UInt8}(T2:Three W2 b v v1 v2)(Y2:Bys W2 b v l)(j:Below b w W2)
  (d:Below (b+1) W2 WA) (a:w'.ownsRow (b+1) 5 1 v' (l.length+1) (df l++[.int .u8 (x.toNat:Int)])) (c:WA.grownBy w' v.ownBlock) :
  (∃g cap,v' = .slice (some ⟨g,0,none⟩) (l.length+1) cap)/\Three w' b v v1 v2/\Bys w' b v' (l++[x])/\Below b w w':=by
 have h:=T2.2.2.2.2.2.2;have i:=a0h h d.size;have f:∀k,v.ownBlock=some k->b+1<=k:=fun k m=>(Y2.lt k m).1;have hb:Below (b+1) W2 w':=d.grown c (by omega) f;refine⟨?_,T2.kept hb,?_,j.trans (hb.mono (by omega))⟩
 .
  rcases a.2 with⟨_,n⟩|⟨g,cap,_,e,_⟩
  . omega
  . exact⟨g,cap,e⟩
 . show w'.ownsRow (b+1) 5 1 v' (l++[x]).length (df (l++[x]));simpa[df]using a
def OE(n k:Nat):n%p2 (k+1)=n%p2 k+n/p2 k%2*p2 k:=DC n k
def AG(V n k m:Nat):V+n%p2 (k+1)*p2 m=V+n%p2 k*p2 m+n/p2 k%2*p2 (m+k):=by
 rw[OE,a1z,a1O,show p2 k*p2 m=p2 (m+k) by unfold p2;rw[←a0T,a2E]];omega
def Cs(n k:Nat):n/p2 k/2=n/p2 (k+1):=lX n k
def qV(b V m:Nat)(num bits:Int)(w:World)(h:Out w b V m)(n0:0<=num)(n1:num<65536)(b0:0<=bits)(b1:bits<=16)(hm:m<=100000) :
  Calls prog 184 #[.pointer b,num,bits] w fun e w'=>e = .returned (.tuple #[]) /\
   Out w' b (V+num.toNat%p2 bits.toNat*p2 m) (m+bits.toNat)/\Below b w w':=by
 obtain⟨n,rfl⟩:=a0p n0;obtain⟨c,rfl⟩:=a0p b0;rw[a0o,a0o];obtain⟨i0,hi,a9,ba,bb⟩:=a0s Tryz.infoU8;go_enter func184,ntmps184;go_wp2
 go_loopw [1,6] (fun x i wr=>∃k:Nat,k<=c/\i = .int .i64 k/\x = .int .i64 (n/p2 k:Nat)/\Out wr b (V+n%p2 k*p2 m) (m+k)/\Below b w wr) (fun _ i _=>c-(intOf i).toNat)
 case atStart=>exact⟨0,a0g _,rfl,by simp[p2],by simpa[p2,a1p]using h,a0c _ _⟩
 case round=>
  obtain⟨k,hk,rfl,rfl,z,a⟩:=hrel;by_cases b5:k<c
  .
   have B:=af (AG V n k m);have g:=af (Cs n k);have a6:n/p2 k<=n:=a10 _ _;obtain⟨hV,v,s,G⟩:=z;obtain⟨sa,scap,rfl⟩:=G.form;have a5:=ux (V+n%p2 k*p2 m) (m+k) hV;generalize V+n%p2 k*p2 m=V1,W:m+k=m1 at *;have hx:n/p2 k%2<=1:=(by omega);have ad:((n/p2 k:Nat):Int)%2=((n/p2 k%2:Nat):Int):=(by omega);have bd:((n/p2 k:Nat):Int)<65536:=(by omega);have a7:p2 (m1%8)<=128:=qT (m1%8) 7 (by omega);have O:n/p2 k%2*p2 (m1%8)<=1*p2 (m1%8):=a2p _ hx;have y:((n/p2 k%2:Nat):Int)*((p2 (m1%8):Nat):Int)=((n/p2 k%2*p2 (m1%8):Nat):Int):=(by simp);have q:=D2 V1 m1 (n/p2 k%2) hV hx;have d:=DZ V1 m1 (n/p2 k%2) hV hx;have ab:m1%8<8:=a00 _ (by omega);have l:m1<=100016:=(by omega);have Q:(leS (m1/8) V1).length=m1/8:=az _ _;generalize n/p2 k=nk at *;generalize a8:nk%2=x,a1:V1/p2 (8*(m1/8))=L,ac:m1%8=r at *;generalize N:p2 r=P at *;generalize a2:x*P=X at *;have ao:=af N;have K:=af W;have a0:=af ac;have E:=af q;have C:=af d;clear W a1 ac N a2 hV q d a8 hx a6;obtain⟨k0,H,I,f0,f1,f2,F⟩:=s;have s:Hid (Three wr b _ _ _):=⟨k0,H,I,f0,f1,f2,F⟩;have b6:(r:Int)<8:=(by omega);have bl:(L:Int)<128:=(by omega);have bs:(X:Int)<=128:=(by omega);have S:(k:Int)<(c:Int):=(by omega);have bk:=af ab;have D:=af l;have Hk:=af hk;have al:Hid (IntKind.i64.wrap ((L:Int)+IntKind.i64.wrap ((nk:Int).tmod 2*(P:Int)))=(L:Int)+(X:Int)):=by
    show IntKind.i64.wrap ((L:Int)+IntKind.i64.wrap ((nk:Int).tmod 2*(P:Int)))=(L:Int)+(X:Int);rw[a13 (by omega),ad,y,bP (X:Int) (by omega) (by omega),bP ((L:Int)+(X:Int)) (by omega) (by omega)]
   clear ab l a7 O a5 hk hm;go_wp2_with fail;go_cut[]from 7 to 62 (fun wc=>wc=(wr.setCell ⟨b,1,none⟩ (.int .i64 ((L:Int)+(X:Int)))).drew)
   case first=>
    go_region_with (go_at_call 217;apply(fR _ _ (by omega)).mono;rintro e w'⟨rfl,rfl⟩;rw[a0o,ae ao])
    all_goals
     go_wp2_with fail
     go_meet
     exact by rw[ae al]
   case rest=>
    have T1:=(s.set1 (.int .i64 ((L:Int)+(X:Int)))).drew;have Y1:=(G.set (o:=1) (.int .i64 ((L:Int)+(X:Int)))).drew;have B1:Below b w _:=(ai a (o:=1) (a0a _) (.int .i64 ((L:Int)+(X:Int)))).drew;rw[←hcut]at T1 Y1 B1;clear hcut G a s k0 H I f0 f1 f2 F y ad;have T1':=af T1;obtain⟨k0,H,I,f0,f1,f2,F⟩:=T1;by_cases aa:(r:Int)=7
    .
     have A:r=7:=(by omega);obtain⟨o1,o2,o3,o4⟩:=ae C A;have O1:=af o1;have O2:=af o2;have O3:=af o3;have O4:=af o4;have M:L+X<256:=(by omega);have a4:=af (qj (L+X) M);have b4:IntKind.u8.wrap ((L:Int)+(X:Int))=(L:Int)+(X:Int):=by
      rw[IntKind.wrap_u8'];omega
     subst A;clear o1 o2 o3 o4 aa M;have T2:=T1'.set2 (.int .i64 8);have Y2:=Y1.set (o:=2) (.int .i64 8);have B2:Below b w _:=ai B1 (o:=2) (a0a _) (.int .i64 8);have U:=af Q;clear Q;go_wp2_with fail;generalize wc.setCell ⟨b,2,none⟩ (.int .i64 8)=W2 at *;clear k0 H I f0 f1 f2 T1' Y1 B1;have T2':=af T2;obtain⟨k0,H,I,f0,f1,f2,a3⟩:=T2;have R:Hid (((UInt8.ofNat (L+X)).toNat:Int)=(L:Int)+(X:Int)):=by
      show((UInt8.ofNat (L+X)).toNat:Int)=(L:Int)+(X:Int);rw[ae a4];omega
     have T:(leS (m1/8) V1).length<=20000:=by have:=ae U;have:=ae D;omega
     have J:=af T;clear T;go_cut[]from 7 to 62 (fun wc2=>∃v',Three wc2 b v' (.int .i64 ((L:Int)+(X:Int))) (.int .i64 8)/\Bys wc2 b v' (leS (m1/8) V1++[UInt8.ofNat (L+X)])/\Below b w wc2)
     case first=>
      go_region_law (refine aL rfl (.tmp 47) (.tmp 53) 22 rfl (b+1) 5 i0 (.int .u8 0) 1 1 a0X hi a9 ba bb rfl (by decide) _ _ _ (by simp[Act.eval]) (Y2.alloc _) ⟨W2.heap.size,0,none⟩ 1 1 [.int .u8 ((L:Int)+(X:Int))] (by simp[Act.eval]) rfl (by intro j u hj;match j,hj with | 0,hj=>simp at hj;subst hj;simp[Addr.add]) (by intro u hu;simp at hu;subst hu;rfl) (by have:=ae J;unfold maxLen;omega) (by have:=ae J;omega) (by simp;omega) ?_;intro v' w' p f Z;clear Z;rw[←ae R]at p;obtain⟨⟨g',bc,rfl⟩,T3,Y3,B3⟩:=wG T2' Y2 B2 (by first|exact(a0c _ _).alloc (by omega) _|exact((a0c _ _).alloc (by omega) _).drew) p f;clear p f;have T3':=af T3;obtain⟨q0,q1,q2,e0,e1,e2,b2⟩:=T3)
      all_goals
       go_wp2_with fail
       go_meet
       exact⟨_,T3'.set0 _,Y3.set _,ai B3 (a0a _) _⟩
     case rest=>
      obtain⟨v',T4,Y4,B4⟩:=hcut;clear k0 H I f0 f1 f2 T2' Y2 B2 a3;obtain⟨va,vc,rfl⟩:=Y4.form;have T4':=af T4;obtain⟨k0,H,I,f0,f1,f2,b3⟩:=T4;go_wp2;go_roundw
      case rel=>
       refine⟨k+1,by have:=ae Hk;omega,by go_num,by rw[←ae g];go_num,?_,ai (ai B4 (a0a _) _) (a0a _) _⟩;rw[ae B,show m+(k+1)=m1+1 by have:=ae K;omega];refine⟨O1,.slice va (leS (m1/8) V1++[UInt8.ofNat (L+X)]).length vc,?_,?_⟩
       . rw[ae O2,ae O3];exact(T4'.set1 _).set2 _
       . rw[ae O4];exact(Y4.set _).set _
      case measure=>simp[intOf];omega
    .
     have be:((r:Int)+1 == 8)=false:=by simp;omega
     have t:r<7:=(by omega);obtain⟨o1,o2,o3⟩:=ae E t;have O1:=af o1;have O2:=af o2;have O3:=af o3;have Y:Hid ((m1+1)%8=r+1):=by show(m1+1)%8=r+1;have:=ae a0;omega
     clear o1 o2 o3 t aa;go_wp2;go_roundw
     case rel=>
      refine⟨k+1,by have:=ae Hk;omega,by go_num,by rw[←ae g];go_num,?_,ai B1 (a0a _) _⟩;rw[ae B,show m+(k+1)=m1+1 by have:=ae K;omega];refine⟨O1,.slice sa (leS (m1/8) V1).length scap,?_,?_⟩
      . rw[ae O2,ae Y];exact T1'.set2 _
      . rw[ae O3];exact Y1.set _
     case measure=>simp[intOf];omega
  .
   have S:k=c:=(by omega);subst S;go_wp2
   go_end0
   exact⟨rfl,z,a⟩
def nF(l:List (Int×Int)):List (Nat×Nat):=l.map (fun p=>(p.1.toNat,p.2.toNat))
def aU(l:List (Int×Int)):Nat×Nat:=iR (0,0) (nF l)
def cB(l:List (Int×Int)):List UInt8:=leS (((aU l).2+7)/8) (aU l).1
def oR(l:List (Int×Int)):List UInt8:=if lOk l=true then cB l else []
def dQ{l:List (Int×Int)}(h:lOk l=true):oR l=cB l:=a0d h
def Ra{l:List (Int×Int)}(h:lOk l=false):oR l=[]:=a0e (by simp[h])
def Lw(l:List (Int×Int))(k:Nat)(h:k<l.length):aU (l.take (k+1)) =
  ((aU (l.take k)).1+(l.getD k (0,0)).1.toNat*p2 (aU (l.take k)).2,(aU (l.take k)).2+(l.getD k (0,0)).2.toNat):=by
 rw[a1f h,aU,nF,a0J,nM];simp only[a0D,a1E,iR];have e:l.getD k (0,0)=l[k]:=by simp[List.getD,h]
 rw[e];rfl
def sV(l:List (Int×Int))(h:aY l=true):((aU l).2:Int)=cf l:=by
 have key:∀(m:List (Int×Int)) (s:Nat×Nat),aY m=true->((iR s (nF m)).2:Int)=(s.2:Int)+cf m:=by
  intro m;induction m with
  | nil=>intro s _;simp[nF,iR,cf]
  | cons p m ih=>
   intro s a;simp only[aY,a18,a0l]at a;have b:=aS.1 a.1;have:=ih (s.1+p.1.toNat*2 ^ s.2,s.2+p.2.toNat) a.2;simp only[nF,a0D,iR]at this ⊢;rw[this];simp only[cf,a0D,a0N];omega
 have:=key l (0,0) h;simpa[aU]using this
def A9(l:List (Int×Int))(h:aY l=true):(aU l).1<p2 (aU l).2:=by
 have key:∀(m:List (Int×Int)) (s:Nat×Nat),s.1<p2 s.2->aY m=true->(iR s (nF m)).1<p2 (iR s (nF m)).2:=by
  intro m;induction m with
  | nil=>intro s b _;exact b
  | cons p m ih=>
   intro s b a;simp only[aY,a18,a0l]at a;have d:=aS.1 a.1;have c:p.1.toNat<p2 p.2.toNat:=(by omega);exact ih _ (Ox s.1 s.2 p.1.toNat p.2.toNat b c) a.2
 exact key l (0,0) (by decide) h
def AD(w:World)(t:TypeId):Out (w.alloc (.cells #[.slice none 0 0,.int .i64 0,.int .i64 0] t)) w.heap.size 0 0:=by
 refine⟨by decide,.slice none 0 0,⟨by simp,by simp,by simp,by simp,by simp,by simp,by simp⟩,?_⟩;exact a1c _ _ _ _
def II{a b:List UInt8}(h:a=b):Ending.returned (.string ⟨a.toArray⟩) = .returned (.string ⟨b.toArray⟩):=by rw[h]
def lW(h:Bys w b v l) :
  (convert 22 9 v).run prog w = .ok (.string ⟨l.toArray⟩) w:=by
 rcases h.2 with⟨e,a⟩|⟨g,cap,_,e,_⟩
 . subst e;have d:l=[]:=a2r a;subst d;rw[run_convert_bytes_string w _ _ _ none 0 0 a0X a15 a16];rfl
 .
  subst e;exact a29 w _ _ _ ⟨g,0,none⟩ cap l a0X a15 a16 (fun j c=>by
   have:=h.cells (g:=g) rfl j (.int .u8 (l[j].toNat:Int)) (by simp[df,c]);exact this)
def pj.below{a:Option Addr}{l:List (Int×Int)}{B:Nat}(h:pj w a l)(b:w.heap.size<=B)(hb:Below B w w'):pj w' a l:=h.later (hb.mono b)
def Two.kept{v0:Value}(h:Two w b v0 v1)(hb:Below (b+1) w w'):Two w' b v0 v1:=by
 obtain⟨c0,c1,f0,f1,c⟩:=h;have a:=a0i b;exact⟨(hb.cell (p:=⟨b,0,none⟩) a).trans c0,(hb.cell (p:=⟨b,1,none⟩) a).trans c1,(hb.frozen (p:=⟨b,0,none⟩) a).trans f0,(hb.frozen (p:=⟨b,1,none⟩) a).trans f1,a0h c hb.size⟩
def lu(w:World)(b V m:Nat):Prop:=
 V<p2 m/\∃v,Two w b v (.int .i64 (m:Int))/\Bys w b v (leS ((m+7)/8) V)
def Oy{W2 WA:World}{v':Value}{x:UInt8}(T2:Two W2 b v v1)(Y2:Bys W2 b v l)(j:Below b w W2)
  (d:Below (b+1) W2 WA) (a:w'.ownsRow (b+1) 5 1 v' (l.length+1) (df l++[.int .u8 (x.toNat:Int)])) (c:WA.grownBy w' v.ownBlock) :
  (∃g cap,v' = .slice (some ⟨g,0,none⟩) (l.length+1) cap)/\Two w' b v v1/\Bys w' b v' (l++[x])/\Below b w w':=by
 have h:=T2.2.2.2.2;have i:=a0h h d.size;have f:∀k,v.ownBlock=some k->b+1<=k:=fun k m=>(Y2.lt k m).1;have hb:Below (b+1) W2 w':=d.grown c (by omega) f;refine⟨?_,T2.kept hb,?_,j.trans (hb.mono (by omega))⟩
 .
  rcases a.2 with⟨_,n⟩|⟨g,cap,_,e,_⟩
  . omega
  . exact⟨g,cap,e⟩
 . show w'.ownsRow (b+1) 5 1 v' (l++[x]).length (df (l++[x]));simpa[df]using a
def Bys.at{cap:Nat}(h:Bys w b (.slice g l.length cap) l)(a:j<l.length) :
  w.cell? ⟨g,j,none⟩=some (.int .u8 ((l.getD j 0).toNat:Int))/\w.frozen? ⟨g,j,none⟩=false/\b<g:=by
 refine⟨?_,a2O h j,(a0z h g rfl).1⟩;rw[a1d h j (by omega)];simp[df,a,List.getD]
def Bys.put{cap:Nat}(h:Bys w b (.slice g l.length cap) l)(x:UInt8) :
  Bys (w.setCell ⟨g,j,none⟩ (.int .u8 (x.toNat:Int))) b (.slice g l.length cap) (l.set j x):=by
 have:=a2N h j (.int .u8 (x.toNat:Int));show World.ownsRow _ _ _ _ _ (l.set j x).length (df (l.set j x));rw[a1T];have e:df (l.set j x)=(df l).set j (.int .u8 (x.toNat:Int)):=by simp[df,List.map_set]
 rw[e];exact this.1
def TI(V m x:Nat)(a:V<p2 m)(b:x<=1) :
  V+x*p2 m<p2 (m+1)/\leS ((m+1+7)/8) (V+x*p2 m)=(leS (m/8+1) V).set (m/8) (UInt8.ofNat (V/p2 (8*(m/8))+x*p2 (m%8))):=by
 refine⟨add_lt V x m a b,?_⟩;rw[show(m+1+7)/8=m/8+1 by omega];exact QK (m/8) V x m rfl b a
def TH(V m:Nat)(a:V<p2 m)(b:m%8=0):leS ((m+7)/8) V++[0]=leS (m/8+1) V:=by
 rw[show(m+7)/8=m/8 by omega];exact(QJ (m/8) V (by rw[show 8*(m/8)=m by omega];exact a)).symm
def Tz(V m:Nat)(a:m%8≠0):leS ((m+7)/8) V=leS (m/8+1) V:=by
 rw[show(m+7)/8=m/8+1 by omega]
def Tx(V m:Nat)(a:V<p2 m):((leS (m/8+1) V).getD (m/8) 0).toNat=V/p2 (8*(m/8)):=by
 rw[Iu _ _ _ (by omega)];have b:=ux V m a;have h2:=qT (m%8) 7 (by omega);have c:p2 7=128:=rfl;have e:V/2 ^ (8*(m/8))%256=V/p2 (8*(m/8)):=a1e (by show V/p2 (8*(m/8))<256;omega);rw[e,qj _ (by omega)]
def Box(w:World)(P:Nat)(x y:Int):Prop:=w.heap[P]?=some (.cells #[x,y] 159)
def P7(w:World)(x y:Int):Box (w.alloc (.cells #[x,y] 159)) w.heap.size x y:=by
 show(w.heap.push _)[w.heap.size]?=_;simp
def Box.cells(h:Box w P x y):w.cell? ⟨P,0,none⟩=some (.int .i64 x)/\w.cell? ⟨P,1,none⟩=some (.int .i64 y)/\P<w.heap.size:=by
 refine⟨by simp[World.cell?,show w.heap[P]?=_ from h],by simp[World.cell?,show w.heap[P]?=_ from h],?_⟩;have a:w.heap[P]?=some _:=h;exact(Array.getElem?_eq_some_iff.1 a).1
def Box.ne(h:Box w P x y)(i:Bys w b v l)(k:Nat)(a:v.ownBlock=some k):k≠P:=by
 rintro rfl;rcases i.2 with⟨e,_⟩|⟨g,cap,d,e,_,c,_⟩
 . subst e;simp[Value.ownBlock]at a
 . subst e;simp only[Value.ownBlock,a0k]at a;subst a;have f:w.heap[g]?=some (.cells #[x,y] 159):=h;rw[f]at c;simp at c
def Box.set(h:Box w P x y)(hb:b≠P)(u:Value):Box (w.setCell ⟨b,o,none⟩ u) P x y:=by
 show(w.setCell ⟨b,o,none⟩ u).heap[P]?=_;rw[a0M w ⟨b,o,none⟩ u P (fun e=>hb e.symm)];exact h
def Box.drew(h:Box w P x y):Box w.drew P x y:=h
def Box.alloc(h:Box w P x y)(o:Obj):Box (w.alloc o) P x y:=by
 show(w.alloc o).heap[P]?=_;rw[a1i w o P h.cells.2.2];exact h
def Box.grown(h:Box w P x y)(c:Bys w b v l)(a:w.grownBy w' v.ownBlock):Box w' P x y:=by
 show w'.heap[P]?=_;rw[a.block P h.cells.2.2 (fun e=>h.ne c P e.symm rfl)];exact h
def cj(b:Nat)(w w':World):Prop:=w.heap.size<=w'.heap.size/\∀k,k<w.heap.size->k≠b->(∀cur fr,w.heap[k]?≠some (.cells cur 5 fr))->w'.heap[k]?=w.heap[k]?
def cj.refl(b:Nat)(w:World):cj b w w:=⟨a0a _,fun _ _ _ _=>rfl⟩
def cj.trans{w1 w2:World}(h:cj b w w1)(k:cj b w1 w2):cj b w w2:=
 ⟨a0E h.1 k.1,fun j c hb d=>by
  have e:=h.2 j c hb d;rw[k.2 j (a0h c h.1) hb (fun a fr=>by rw[e];exact d a fr),e]⟩
def cj.drew(h:cj b w w'):cj b w w'.drew:=h
def cj.alloc(h:cj b w w')(o:Obj):cj b w (w'.alloc o):=
 h.trans ⟨by simp,fun j a _ _=>a1i w' o j a⟩
def cj.set(h:cj b w w')(u:Value):cj b w (w'.setCell ⟨b,o,none⟩ u):=
 h.trans ⟨by simp,fun j _ hb _=>a0M w' ⟨b,o,none⟩ u j hb⟩
def cj.setRow{cap:Nat}(h:cj b w w')(m:Bys w' c (.slice g l.length cap) l)(u:Value):cj b w (w'.setCell ⟨g,j,none⟩ u):=by
 refine h.trans ⟨by simp,fun k _ _ i=>?_⟩;by_cases e:k=g
 .
  subst e;rcases m.2 with⟨e,_⟩|⟨g',d,a,e,_,f,_⟩
  . simp at e
  . simp only[a0L,a0k,a0A,a0Q,a1S]at e;obtain⟨rfl,_⟩:=e;exact absurd f (i a (0,0))
 . exact a0M w' ⟨g,j,none⟩ u k e
def cj.grown{w'':World}(h:cj b w w')(m:Bys w' c v l)(g:w'.grownBy w'' v.ownBlock):cj b w w'':=by
 refine h.trans ⟨g.size,fun k i _ j=>?_⟩;refine g.block k i (fun e=>?_);rcases m.2 with⟨e',_⟩|⟨g',f,a,e',_,d,_⟩
 . subst e';simp[Value.ownBlock]at e
 . subst e';simp only[Value.ownBlock,a0k]at e;subst e;exact j a (0,0) d
def Hg(B X r:Nat)(a:B<p2 r)(e:r<8)(b:X=0∨X=p2 r):bits .or .u8 (B:Int) (X:Int)=((B+X:Nat):Int):=by
 have d:=qT r 7 (by omega);have c:p2 7=128:=rfl;rw[u8_or_nat B X (by omega) (by omega)]
 congr 1
 rw[Nat.or_comm];rcases b with rfl|rfl
 . simp
 . rw[nat_join r (p2 r) B (by unfold p2;simp) a];omega
def Two.other{v0:Value}(h:Two w b v0 v1)(a:g≠b)(u:Value):Two (w.setCell ⟨g,o,none⟩ u) b v0 v1:=by
 obtain⟨c0,c1,f0,f1,hb⟩:=h;refine⟨?_,?_,by simpa using f0,by simpa using f1,by simpa using hb⟩
 . rw[World.cell?_setCell_other _ _ _ _ (by simp only[ne_eq,a0A];omega)];exact c0
 . rw[World.cell?_setCell_other _ _ _ _ (by simp only[ne_eq,a0A];omega)];exact c1
def zi{wr:World}{cap V1 m1 x L X:Nat}{p q:Int}(j:Two wr b (.slice g (leS (m1/8+1) V1).length cap) (.int .i64 (m1:Int)))
  (a:Bys (wr.setCell ⟨g,m1/8,none⟩ (.int .u8 ((UInt8.ofNat (L+X)).toNat:Int))) b (.slice g (leS (m1/8+1) V1).length cap) ((leS (m1/8+1) V1).set (m1/8) (UInt8.ofNat (L+X))))
  (k:V1+x*p2 m1<p2 (m1+1)) (l:leS ((m1+1+7)/8) (V1+x*p2 m1)=(leS (m1/8+1) V1).set (m1/8) (UInt8.ofNat (L+X)))
  (h:(UInt8.ofNat (L+X)).toNat=L+X) (o:b<g) (n:g≠P) (m:P≠b) (d:Box wr P p q) (c:Below b w wr) (f:Bys wr b (.slice g (leS (m1/8+1) V1).length cap) (leS (m1/8+1) V1)) (i:cj b w wr) :
  lu ((wr.setCell ⟨g,m1/8,none⟩ (.int .u8 ((L:Int)+(X:Int)))).setCell ⟨b,1,none⟩ (.int .i64 ((m1:Int)+1))).drew b (V1+x*p2 m1) (m1+1) /\
  Box ((wr.setCell ⟨g,m1/8,none⟩ (.int .u8 ((L:Int)+(X:Int)))).setCell ⟨b,1,none⟩ (.int .i64 ((m1:Int)+1))).drew P p q /\
  Below b w ((wr.setCell ⟨g,m1/8,none⟩ (.int .u8 ((L:Int)+(X:Int)))).setCell ⟨b,1,none⟩ (.int .i64 ((m1:Int)+1))).drew /\
  cj b w ((wr.setCell ⟨g,m1/8,none⟩ (.int .u8 ((L:Int)+(X:Int)))).setCell ⟨b,1,none⟩ (.int .i64 ((m1:Int)+1))).drew:=by
 have e:((UInt8.ofNat (L+X)).toNat:Int)=(L:Int)+(X:Int):=by rw[h];omega
 rw[e]at a;refine⟨⟨k,.slice g (leS (m1/8+1) V1).length cap,?_,?_⟩,?_,?_,?_⟩
 . exact((j.other (by omega) _).set1 _).drew
 . rw[l];exact(a.set _).drew
 . exact((d.set (by omega) _).set (by omega) _).drew
 . exact(ai (ai c (by omega) _) (a0a _) _).drew
 . exact((i.setRow f _).set _).drew
def Ou(b V m:Nat)(num bits:Int)(w:World)(h:lu w b V m)(hp:pOk num bits=true)(hm:m<=100000) :
  Calls prog 315 #[.pointer b,.agg #[num,bits]] w fun e w'=>e = .returned (.int .i64 num) /\
   lu w' b (V+num.toNat*p2 m) (m+bits.toNat)/\Below b w w'/\cj b w w':=by
 obtain⟨⟨b0,b1⟩,n0,n1⟩:=aS.1 hp;have hq:=(GF bits b1).2;obtain⟨n,rfl⟩:=a0p n0;obtain⟨c,rfl⟩:=a0p b0;rw[a0o,a0o];rw[a0o]at n1 hq;have Z:Hid (n%p2 c=n):=a1e (by omega);have cv:(n:Int)<65536:=by omega
 obtain⟨i0,hi,b9,ca,cc⟩:=a0s Tryz.infoU8;have cu:b<w.heap.size:=by obtain⟨_,v,ht,_⟩:=h;exact ht.2.2.2.2
 have C:=P7 w (n:Int) (c:Int);have h0:lu (w.alloc (.cells #[.int .i64 (n:Int),.int .i64 (c:Int)] 159)) b V m:=by
  obtain⟨W,v,ht,hy⟩:=h;exact⟨W,v,ht.kept ((a0c _ _).alloc (by omega) _),a0n hy _⟩
 have A:Below b w (w.alloc (.cells #[.int .i64 (n:Int),.int .i64 (c:Int)] 159)):=(a0c _ _).alloc (by omega) _;clear n1 hq h hp;go_enter func315,ntmps315;go_wp2_with fail
 go_loopw [5,8] (fun _ i wr=>∃k:Nat,k<=c/\i = .int .i64 k/\lu wr b (V+n%p2 k*p2 m) (m+k)/\Box wr w.heap.size n c/\Below b w wr/\cj b w wr) (fun _ i _=>c-(intOf i).toNat)
 case atStart=>exact⟨0,a0g _,rfl,by simpa[p2,a1p]using h0,C,A,(cj.refl _ _).alloc _⟩
 case round=>
  obtain⟨k,hk,rfl,G,d,p,t⟩:=hrel;clear h0 C A;obtain⟨bc0,bc1,J⟩:=d.cells;by_cases b5:k<c
  .
   have Q:=af (AG V n k m);have b6:n/p2 k<=n:=a10 _ _;have ad:Hid ((n:Int)/2 ^ k=((n/p2 k:Nat):Int)):=(Int.natCast_ediv n (2 ^ k)).symm;obtain⟨W,v,bl,a⟩:=G;obtain⟨sa,scap,rfl⟩:=a.form;have a8:=ux (V+n%p2 k*p2 m) (m+k) W;generalize V+n%p2 k*p2 m=V1,a9:m+k=m1 at *;have hx:n/p2 k%2<=1:=(by omega);have bb:((n/p2 k:Nat):Int)<65536:=(by omega);have bc:=np ((n/p2 k:Nat):Int) (a3F _) (Int.lt_trans bb (by omega));have b4:((n/p2 k:Nat):Int)%2=((n/p2 k%2:Nat):Int):=(by omega);rw[b4]at bc;have b7:p2 (m1%8)<=128:=qT (m1%8) 7 (by omega);have a2:n/p2 k%2*p2 (m1%8)<=1*p2 (m1%8):=a2p _ hx;have cp:((n/p2 k%2:Nat):Int)*(2:Int) ^ (m1%8)=((n/p2 k%2*p2 (m1%8):Nat):Int):=(by rw[a1C,ll]);have K:n/p2 k%2*p2 (m1%8)=0∨n/p2 k%2*p2 (m1%8)=p2 (m1%8):=by
    rcases (show n/p2 k%2=0∨n/p2 k%2=1 by omega)with e|e<;>rw[e]<;>simp
   obtain⟨bs,b2⟩:=TI V1 m1 (n/p2 k%2) W hx;have b3:=Tx V1 m1 W;have cy:=Hg (V1/p2 (8*(m1/8))) (n/p2 k%2*p2 (m1%8)) (m1%8) a8 (by omega) K;have H:=af (TH V1 m1 W);have y:=af (Tz V1 m1);have O:(leS (m1/8+1) V1).length=m1/8+1:=az _ _;have D:(leS ((m1+7)/8) V1).length=(m1+7)/8:=az _ _;have F:m1<=100016:=(by omega);have z:V1/p2 (8*(m1/8))+n/p2 k%2*p2 (m1%8)<256:=(by omega);have a4:=qj _ z;have a6:(k:Int)<(c:Int):=(by omega);have ch:(k:Int)<=16:=(by omega);have be:(m1:Int)%8<8:=(by omega);have co:(m1:Int)<=100016:=(by omega);have cs:((n/p2 k%2*p2 (m1%8):Nat):Int)<=128:=(by omega);have cr:((n/p2 k%2:Nat):Int)<=1:=(by omega);have ac:=af a9;have HK:=af hk;have s:=af O;have T:=af D;have U:=af F;have al:=af bs;have ao:=af b2;have a0:=af b3;have aa:=af a4;have c5:=ae ad;clear ad b4 K a8 b7 a2 bs b2 b3 O D F z a4 b6 hx a9 hk W b5;generalize n/p2 k=nk at *;generalize nk%2=x at *;generalize x*p2 (m1%8)=X,V1/p2 (8*(m1/8))=L at *;have l:=af bl;obtain⟨k0,k1,f0,f1,cg⟩:=bl;have a1:w.heap.size≠b:=(by omega);by_cases hr:m1%8=0
   .
    have b8:((m1:Int)%8 == 0)=true:=by simp;omega
    have bd:=af (ae H hr);clear hr H y be hm;have a7:(leS ((m1+7)/8) V1).length<=20000:=by have:=ae T;have:=ae U;omega
    have ab:=af a7;clear a7;go_wp2_with (at_builtin;refine a0w _ rfl _ _ 22 rfl (b+1) 5 i0 (.int .u8 0) 1 1 a0X hi b9 ca cc rfl (by decide) _ _ _ rfl (a0n a _) ⟨wr.heap.size,0,none⟩ 1 1 [.int .u8 0] rfl rfl (by intro j u hj;match j,hj with | 0,hj=>simp at hj;subst hj;simp[Addr.add]) (by intro u hu;simp at hu;subst hu;rfl) (by have:=ae ab;unfold maxLen;omega) (by have:=ae ab;omega) (by simp;omega) ?_;intro v' w' P q ba;clear ba;have B:=(d.alloc _).grown (a0n a _) q;have M:=(t.alloc (.cells #[.int .u8 0] 5)).grown (a0n a _) q;obtain⟨⟨g,cap,rfl⟩,T3,Y3,B3⟩:=Oy (x:=0) l a p ((a0c _ _).alloc (by omega) _) P q;clear P q a d p t l k0 k1 f0 f1;have T3':=af T3;obtain⟨k0,k1,f0,f1,a3⟩:=T3);have E:(leS ((m1+7)/8) V1).length+1=(leS (m1/8+1) V1).length:=by rw[←ae bd,a0j];rfl
    rw[E]at Y3 ⊢;have T4:=T3'.set0 (.slice g (leS (m1/8+1) V1).length cap);have a:=Y3.set (o:=0) (.slice g (leS (m1/8+1) V1).length cap);rw[ae bd]at a;have d:=B.set (b:=b) (o:=0) (by omega) (.slice g (leS (m1/8+1) V1).length cap);have t:=M.set (o:=0) (.slice g (leS (m1/8+1) V1).length cap);have p:Below b w _:=ai B3 (o:=0) (a0a _) (.slice g (leS (m1/8+1) V1).length cap);clear Y3 B3 T3' k0 k1 f0 f1 B M bc0 bc1 J E a3;generalize w'.setCell ⟨b,0,none⟩ (.slice g (leS (m1/8+1) V1).length cap)=wA at *;have l:=af T4;obtain⟨k0,k1,f0,f1,a3⟩:=T4;obtain⟨bc0,bc1,J⟩:=d.cells;obtain⟨gc,gf,gb⟩:=a.at (j:=m1/8) (by have:=ae s;omega);rw[ae a0]at gc;have I:=af (a.put (j:=m1/8) (UInt8.ofNat (L+X)));have Y:g≠w.heap.size:=d.ne a g rfl;have R:=af a;have S:=af t;clear t;have f:=ae s;rw[f]at k0;generalize hN:m1/8+1=N at k0;have a5:(m1:Int)/8<(N:Int):=(by omega);clear hN f a
    go_region
    all_goals
     go_wp2;go_roundw
     case rel=>
      have r:=zi l I al ao aa gb Y a1 d p R S;refine⟨k+1,by have:=ae HK;omega,by go_num,?_,r.2.1,r.2.2.1,r.2.2.2⟩;rw[ae Q,show m+(k+1)=m1+1 by have:=ae ac;omega];exact r.1
     case measure=>simp[intOf];omega
   .
    have b8:((m1:Int)%8 == 0)=false:=by simp;omega
    have bk:=ae y hr;rw[bk]at a k0 l;obtain⟨g,cap,hform⟩:∃g cap,Value.slice sa (leS (m1/8+1) V1).length scap = .slice (some ⟨g,0,none⟩) (leS (m1/8+1) V1).length cap:=by
     rcases a.2 with⟨_,h0⟩|⟨g,cap,_,e,_⟩
     . have:=ae s;omega
     . exact⟨g,cap,e⟩
    rw[hform]at a k0 l;obtain⟨gc,gf,gb⟩:=a.at (j:=m1/8) (by have:=ae s;omega);rw[ae a0]at gc;have I:=af (a.put (j:=m1/8) (UInt8.ofNat (L+X)));have Y:g≠w.heap.size:=d.ne a g rfl;have R:=af a;have S:=af t;clear t;have f:=ae s;rw[f]at k0;generalize hN:m1/8+1=N at k0;have a5:(m1:Int)/8<(N:Int):=(by omega);clear hN f hform bk hr H y a hm be;go_wp2_with fail
    go_region
    all_goals
     go_wp2;go_roundw
     case rel=>
      have r:=zi l I al ao aa gb Y a1 d p R S;refine⟨k+1,by have:=ae HK;omega,by go_num,?_,r.2.1,r.2.2.1,r.2.2.2⟩;rw[ae Q,show m+(k+1)=m1+1 by have:=ae ac;omega];exact r.1
     case measure=>simp[intOf];omega
  .
   have a6:k=c:=(by omega);subst a6;rw[ae Z]at G;go_wp2;go_ret;exact⟨rfl,G,p,t⟩
def Ints(w:World)(b:Nat)(v:Value)(xs:List Int):Prop:=w.ownsRow (b+1) 3 1 v xs.length (xs.map (Value.int .i64))
def Ints.keep(h:Ints w b v xs)(f:cj b w w'):Ints w' b v xs:=by
 refine⟨h.1,?_⟩;rcases h.2 with e|⟨g,cap,a,e,hb,c,i⟩
 . exact .inl e
 . refine .inr ⟨g,cap,a,e,hb,?_,i⟩;rw[f.2 g (Array.getElem?_eq_some_iff.1 c).1 (by omega) (fun d fr=>by rw[c];simp)];exact c
def Bys.other{o:Value}(h:Bys w b v l)(p:Ints w c o xs)(n:w.grownBy w' o.ownBlock):Bys w' b v l:=by
 refine a1U h n ?_;cases f:v.ownBlock with
 | none=>exact .inl rfl
 | some k=>
  refine .inr (fun e=>?_);rcases h.2 with⟨e1,_⟩|⟨g,cap,m,e1,_,d,_⟩
  . subst e1;simp[Value.ownBlock]at f
  .
   rcases p.2 with⟨e2,_⟩|⟨g2,i,j,e2,_,a,_⟩
   . subst e2;simp[Value.ownBlock]at e
   . subst e1 e2;simp only[Value.ownBlock,a0k]at f e;subst f;subst e;rw[d]at a;simp at a
def lu.alloc(h:lu w b V m)(o:Obj):lu (w.alloc o) b V m:=by
 obtain⟨c,v,a,d⟩:=h;exact⟨c,v,a.kept ((a0c _ _).alloc (by have:=a.2.2.2.2;omega) _),a0n d _⟩
def lu.other{o:Value}(h:lu w b V m)(c:Ints w b o xs)(a:w.grownBy w' o.ownBlock):lu w' b V m:=by
 obtain⟨e,v,d,g⟩:=h;exact⟨e,v,d.kept ((a0c _ _).grown a (by have:=d.2.2.2.2;omega) (fun k f=>(a0z c k f).1)),g.other c a⟩
def lu.lt(h:lu w b V m):b<w.heap.size:=by
 obtain⟨c,v,a,d⟩:=h;exact a.2.2.2.2
def Kw(a:Addr)(w:World):(method 480 226 (.pointer (some a)) "loop.example/corbel/impl.pass").run prog w = .ok (315,.pointer (some a)) w:=by kernel_rfl
def Jv(b:Nat)(a:Option Addr)(cap:Nat)(l:List (Int×Int))(w0 w:World)(h:pj w0 a l)(h0:Below b w0 w)(hs:w0.heap.size<=b)(hok:lOk l=true)(hw:lu w b 0 0) :
  Calls prog 157 #[.slice a l.length cap,.func (.method "loop.example/corbel/impl.pass") #[.iface 226 (.pointer b)] #[]] w fun e w'=>
   (∃v,e = .returned v)/\lu w' b (aU l).1 (aU l).2/\Below b w w':=by
 simp only[lOk,a0l,a2h]at hok;obtain⟨hall,h4⟩:=hok;have hall':=af hall;have H4:=af h4;have h4':(l.length:Int)<=4000:=by omega
 clear hall h4;obtain⟨i0,hi,hz0,hz1,hz2⟩:=a0s Tryz.infoInt;have mp:=Kw ⟨b,0,none⟩;go_enter func157,ntmps157;go_wp2_with fail
 go_loopw [5,7,10] (fun o _ i wr=>∃(k:Nat) (xs:List Int),k<=l.length/\i = .int .i64 k/\xs.length=k/\Ints wr b o xs/\lu wr b (aU (l.take k)).1 (aU (l.take k)).2/\Below b w wr) (fun _ _ i _=>l.length-(intOf i).toNat)
 case atStart=>exact⟨0,[],a0g _,rfl,rfl,a1c _ _ _ _,hw,a0c _ _⟩
 case round=>
  obtain⟨k,xs,hk,rfl,hxs,hints,hout,hbel⟩:=hrel;have hltb:=hout.lt;by_cases hlt:k<l.length
  .
   obtain⟨g,o,rfl,hg,hc⟩:=(h.below hs (h0.trans hbel)) (by omega);obtain⟨c0,c1⟩:=hc k hlt;have hmb:=sV (l.take k) (mG hall' k);obtain⟨s0,s1⟩:=GU (mG hall' k);have s2:((l.take k).length:Int)<=4000:=by simp;omega
   have hml:Hid ((aU (l.take k)).2<=64000):=by show(aU (l.take k)).2<=64000;omega
   have hpk:=af (I5 hall' k hlt);have hstep:=af (Lw l k hlt);have HK:=af hk;have HX:=af hxs;clear hmb s0 s1 s2 hc hk hxs hw;generalize (l.getD k (0,0)).1=x,(l.getD k (0,0)).2=y,aU (l.take k)=S at *;go_wp2_with fail;refine(Ou b S.1 S.2 x y _ (hout.alloc _) hpk (by have:=ae hml;omega)).mono ?_;rintro e w1⟨rfl,hout1,hbel1,hkp1⟩;have hints1:Ints w1 b u5 xs:=Ints.keep (a0n hints _) hkp1;have hbel2:=(hbel.alloc (a0r hltb) (.cells #[x,y] 159)).trans hbel1;have hlt1:=hout1.lt;clear hout hints hbel hbel1 hkp1;go_wp2_with (at_builtin;refine a0w _ rfl _ _ 122 rfl (b+1) 3 i0 (.int .i64 0) 1 8 a0F hi hz0 hz1 hz2 rfl (by decide) _ _ _ rfl (a0n hints1 _) ⟨w1.heap.size,0,none⟩ 1 1 [.int .i64 x] rfl rfl (by intro j u hj;match j,hj with | 0,hj=>simp at hj;subst hj;simp[Addr.add]) (by intro u hu;simp at hu;subst hu;rfl) (by have:=ae HX;have:=ae H4;unfold maxLen;omega) (by have:=ae HX;have:=ae H4;omega) (by simp;omega) ?_;intro v' w2 hown hgrow hnil;clear hnil);have hout2:lu w2 b _ _:=(hout1.alloc (.cells #[x] 3)).other (a0n hints1 _) hgrow;have hints2:Ints w2 b v' (xs++[x]):=by
    show World.ownsRow _ _ _ _ _ (xs++[x]).length _;simpa using hown
   have hbel3:Below b w w2:=(hbel2.alloc (a0r hlt1) _).grown hgrow (by simp;omega) (fun j hj=>a0r (a0z hints1 j hj).1);clear hown hgrow hints1 hout1 hbel2;go_wp2;go_roundw
   case rel=>exact⟨k+1,xs++[x],by have:=ae HK;omega,by go_num,by have:=ae HX;simp;omega,hints2,by rw[ae hstep];exact hout2,hbel3⟩
   case measure=>simp[intOf];omega
  .
   have hlk:Hid (l.take k=l):=a0u (by omega);clear h hw;obtain⟨va,vc,rfl⟩:∃va vc,u5 = .slice va xs.length vc:=by
    rcases hints.2 with⟨e,h0⟩|⟨g,cp,_,e,_⟩
    . exact⟨none,0,by rw[e,h0]⟩
    . exact⟨_,cp,e⟩
   go_wp2;go_ret;rw[ae hlk]at hout;exact⟨⟨_,rfl⟩,hout,hbel⟩
def Ly(b:Nat)(a:Option Addr)(cap:Nat)(l:List (Int×Int))(w0 w:World)(h:pj w0 a l)(g:Below b w0 w)(i:w0.heap.size<=b)(f:lOk l=true)(j:lu w b 0 0) :
  Calls prog 125 #[.iface 226 (.pointer b),.slice a l.length cap] w fun e w'=>
   (∃v,e = .returned v)/\lu w' b (aU l).1 (aU l).2/\Below b w w':=by
 go_enter func125,ntmps125;go_wp2_with fail;apply(Jv b a cap l w0 _ h g i f j).mono;rintro e w1⟨⟨v,rfl⟩,d,c⟩;go_wp2;go_ret;exact⟨⟨_,rfl⟩,d,c⟩
def Pz(w:World)(t:TypeId):lu (w.alloc (.cells #[.slice none 0 0,.int .i64 0] t)) w.heap.size 0 0:=
 ⟨by decide,.slice none 0 0,⟨by simp,by simp,by simp,by simp,by simp⟩,a1c _ _ _ _⟩
def gG(a:Option Addr)(cap:Nat)(l:List (Int×Int))(w:World)(h:pj w a l)(m:l.length<=1000000000) :
  Ds 130 #[.slice a l.length cap] w (.string ⟨(oR l).toArray⟩):=by
 cases b:lOk l
 . have i:=af (Ra b);have g:=wg b;go_enter func130,ntmps130;go_wp2_with (go_at_call 124;apply(iL _ _ _ _ h m).mono;rintro e w1⟨rfl,c⟩;rw[g]);go_ret;exact⟨II (a:=[]) i.symm,c⟩
 .
  have i:=af (dQ b);have g:=sy b;have d:aY l=true:=by simp only[lOk,a0l]at b;exact b.1
  obtain⟨s0,_⟩:=GU d;generalize cf l=sb at *;clear d;go_enter func130,ntmps130;go_wp2_with fail;apply(iL _ _ _ _ h m).mono;rintro e w1⟨rfl,c⟩;rw[g];clear g;have o:=h.later c;go_wp2_with fail;apply(Ly w1.heap.size a cap l w1 _ o cC (a0a _) b (Pz w1 _)).mono;rintro e w2⟨⟨v0,rfl⟩,⟨_,v,T,Y⟩,j⟩;have k:=lW Y;obtain⟨va,vc,rfl⟩:=Y.form;obtain⟨k0,q,f0,f1,p⟩:=T;clear q Y;generalize f:(leS (((aU l).2+7)/8) (aU l).1)=res at *;have n:Hid (res=oR l):=by have h:=ae i;rw[h,←f];exact rfl
  clear f;go_wp2;go_ret;exact⟨II n,aj c (cC.trans j)⟩
def yE(q k V W:Nat)(a:V<2 ^ (8*q)):leS (q+k) (V+W*2 ^ (8*q))=leS q V++leS k W:=by
 induction k with
 | zero=>simp[leS,uy q V W (8*q) (a0a _)]
 | succ k ih=>
  rw[show q+(k+1)=(q+k)+1 by omega];simp only[leS];rw[ih,a0K]
  congr 3
  have e:2 ^ (8*(q+k))=2 ^ (8*q)*2 ^ (8*k):=by rw[←a0T];congr 1;omega
  rw[e,←a1Y,Nat.add_mul_div_right _ _ (a1n _),a1Z a,a0H]
def GG(V m:Nat)(l:List (Nat×Nat)):iR (V,m) l=(V+(iR (0,0) l).1*2 ^ m,m+(iR (0,0) l).2):=by
 have key:∀(l:List (Nat×Nat)) (W k:Nat),iR (V+W*2 ^ m,m+k) l=(V+(iR (W,k) l).1*2 ^ m,m+(iR (W,k) l).2):=by
  intro l;induction l with
  | nil=>intro W k;rfl
  | cons p l ih=>
   intro W k;simp only[iR];have e:V+W*2 ^ m+p.1*2 ^ (m+k)=V+(W+p.1*2 ^ k)*2 ^ m:=by
    rw[a1z,a0T,a1O,a1h (2 ^ m)];omega
   rw[e,a19 m k p.2];exact ih _ _
 have:=key l 0 0;simpa using this
def kR(l m:List (Int×Int)):aU (l++m)=((aU l).1+(aU m).1*2 ^ (aU l).2,(aU l).2+(aU m).2):=by
 rw[aU,nF,a0J,nM];exact GG _ _ _
def qd(l m:List (Int×Int)):aY (l++m)=(aY l&&aY m):=by simp[aY]
def Tm(a:List (Int×Int))(j:a.length<=12)(h:lOk a=true)(p:Int)(i:p=(8-oY a%8)%8) :
  lOk (a++[(0,p)])=true/\oR (a++[(0,p)])=oR a/\(aU (a++[(0,p)])).2%8=0:=by
 have b:aY a=true:=by simp only[lOk,a0l]at h;exact h.1
 have c:=sV a b;rw[sy h,←c]at i;have e:0<=p/\p<=7/\((aU a).2+p.toNat)%8=0:=by omega
 have f:pOk 0 p=true:=by
  have:=mr p.toNat
  rw[aS];exact⟨⟨by omega,by omega⟩,by omega,by omega⟩
 have d:lOk (a++[(0,p)])=true:=by
  simp only[lOk,a0l,a2h];refine⟨by simp[aY,f];simpa[aY]using b,by simp;omega⟩
 have g:aU (a++[(0,p)])=((aU a).1,(aU a).2+p.toNat):=by
  rw[kR];simp[aU,nF,iR]
 refine⟨d,?_,by rw[g];exact e.2.2⟩;rw[dQ d,dQ h,cB,cB,g];rw[show((aU a).2+p.toNat+7)/8=((aU a).2+7)/8 by omega]
def IX(f b:List (Int×Int))(d:lOk f=true)(hb:lOk b=true)(l:f.length+b.length<=4000)(i:(aU f).2%8=0):oR (f++b)=oR f++oR b:=by
 have a:aY f=true:=by simp only[lOk,a0l]at d;exact d.1
 have c:aY b=true:=by simp only[lOk,a0l]at hb;exact hb.1
 have h:lOk (f++b)=true:=by
  simp only[lOk,a0l,a2h,qd];exact⟨⟨a,c⟩,by simpa using l⟩
 rw[dQ h,dQ d,dQ hb,cB,cB,cB,kR];have g:=A9 f a;generalize aU f=F,aU b=B at *;obtain⟨V,m⟩:=F;obtain⟨W,k⟩:=B;have j:m%8=0:=i;have e:m=8*(m/8):=by omega
 show leS ((m+k+7)/8) (V+W*2 ^ m)=leS ((m+7)/8) V++leS ((k+7)/8) W;rw[show(m+k+7)/8=m/8+(k+7)/8 by omega,show(m+7)/8=m/8 by omega];have:=yE (m/8) ((k+7)/8) V W (by rw[←e];exact g);rw[←e]at this;exact this
def Nz(V:Nat):leS 4 V=leS 2 (V%65536)++leS 2 (V/65536):=by
 have:=yE 2 2 (V%65536) (V/65536) (a00 _ (by decide));rw[←this]
 congr 1
 show V=V%65536+V/65536*2 ^ 16;omega
def fp(ws:List Nat):List (Int×Int):=ws.map fun(x:Nat)=>(((x:Nat):Int),(16:Int))
def ET{ws:List Nat}(h:∀x∈ws,x<65536)(c:ws.length<=100):lOk (fp ws)=true:=by
 unfold lOk;simp only[a0l,a0t];refine⟨?_,by unfold fp;rw[a0O];omega⟩;unfold aY fp;rw[List.all_map,a08];intro x b;have a:p2 (16:Int).toNat=65536:=by decide
 have:=h x b;show pOk ((x:Nat):Int) 16=true;exact aS.2 ⟨by omega,by omega,by rw[a];omega⟩
def LA{ws:List Nat}(h:∀x∈ws,x<65536)(b:ws.length<=100):oR (fp ws)=ws.flatMap (leS 2):=by
 induction ws with
 | nil=>decide
 | cons x ws ih=>
  have d:x<65536:=h x (by simp);have c:lOk (fp [x])=true:=ET (fun y a=>by rw[a09.1 a];exact d) (by simp);have h2:lOk (fp ws)=true:=ET (fun y a=>h y (by simp[a])) (by simp at b;omega);have e:fp (x :: ws)=fp [x]++fp ws:=rfl;have e1:aU (fp [x])=(x,16):=by simp[aU,nF,iR,fp]
  rw[e,IX _ _ c h2 (by unfold fp;simp at b ⊢;omega) (by rw[e1];exact(by decide:(16:Nat)%8=0)),ih (fun y a=>h y (by simp[a])) (by simp at b;omega),dQ c,cB,e1,a0Y];show leS ((16+7)/8) x++_=_;rw[show(16+7)/8=2 by decide]
def aO(V many:Nat)(w:World)(M:V<1099511627776)(P:many<=10) :
  Ds 82 #[.int .i64 (V:Int),.int .i64 (many:Int)] w (.string ⟨(leS many V).toArray⟩):=by
 obtain⟨i0,H,A,B,C⟩:=a0s Tryz.infoU8;have J:(many:Int)<=10:=by omega
 have p:Hid (bp (w.alloc (.cells #[] 5)) w.heap.size (.slice w.heap.size 0 0) (leS 0 V)):=bp.lit _ _ (a0a _);have j:Hid (Below w.heap.size w (w.alloc (.cells #[] 5))):=cC;go_enter func82,ntmps82;go_wp2_with fail
 go_loopw [0,5,6] (fun x v i wr=>∃k:Nat,k<=many/\i = .int .i64 k/\x = .int .i64 ((V/2 ^ (8*k):Nat):Int)/\bp wr w.heap.size v (leS k V)/\Below w.heap.size w wr) (fun _ _ i _=>many-(intOf i).toNat)
 case atStart=>exact⟨0,a0g _,rfl,by simp,p,j⟩
 case round=>
  obtain⟨k,O,rfl,rfl,hq,a⟩:=hrel;have e:Hid ((leS k V).length=k):=az k V;obtain⟨va,vc,rfl⟩:=hq.formN e;clear p j;by_cases I:k<many
  .
   have n:(k:Int)<(many:Int):=(by omega);have N:V/2 ^ (8*k)<=V:=a10 _ _;have s:Hid (leS k V++[UInt8.ofNat (V/2 ^ (8*k)%256)]=leS (k+1) V):=rfl;have m:Hid (V/2 ^ (8*k)/256=V/2 ^ (8*(k+1))):=by show _=_;rw[a1Y,show 8*(k+1)=8*k+8 by omega,a0T]
   generalize V/2 ^ (8*k)=x at *;have K:(x:Int)<=1099511627776:=(by omega);obtain⟨y,hy⟩:∃y,x%256=y:=⟨_,rfl⟩;have u:(x:Int)%256=(y:Int):=(by omega);have L:Int.tmod (x:Int) 256=(y:Int):=by rw[a13 (by omega)];exact u
   have Q:IntKind.u8.wrap (y:Int)=(y:Int):=by simp only[IntKind.wrap,IntKind.bits,IntKind.signed];simp;omega
   have z:((UInt8.ofNat y).toNat:Int)=(y:Int):=by rw[a3d];omega
   obtain⟨d,hd⟩:∃d,x/256=d:=⟨_,rfl⟩;have G:(x:Int)/256=(d:Int):=(by omega);rw[hy]at s;rw[hd]at m;have D:Hid (k+1<=maxLen/\(k+1)*1<=140737488355328):=by show _/\_;unfold maxLen;omega
   have r:=af (hq.own e);have l:=a.size;have h:=af a;clear hq a hy hd;go_wp2_with (at_builtin;refine a0w _ rfl _ _ 22 rfl w.heap.size 5 i0 (.int .u8 0) 1 1 a0X H A B C rfl (by decide) _ _ _ rfl (a0n r _) ⟨wr.heap.size,0,none⟩ 1 1 [.int .u8 (y:Int)] rfl rfl (cw _ _ rfl _ _) (one_byte _) D.1 D.2 (au l _) ?_;intro v' x2 g c o;clear o);have t:=aJ (v:=.slice va k vc) c r (a0a _) l h;have f:World.ownsRow x2 w.heap.size 5 1 v' (k+1) (df (leS k V)++[.int .u8 ((UInt8.ofNat y).toNat:Int)]):=by rw[z];exact g
   have q:=fK (b:=UInt8.ofNat y) e f;rw[ae s]at q;clear g f c;go_wp2;go_roundw
   case rel=>exact⟨k+1,by omega,by go_num,by rw[←ae m],q,t⟩
   case measure=>simp[intOf];omega
  .
   obtain rfl:k=many:=by omega
   have n:¬ (k:Int)<(k:Int):=(by omega);have F:=hq.text;have E:=af a;clear hq a;go_wp2;go_ret;exact⟨rfl,E⟩
def de(ws:List Nat):List Int:=ws.map fun(x:Nat)=>((x:Nat):Int)
def Lz(ws:List Nat)(k:Nat)(h:k<ws.length):(de ws).getD k 0=((ws.getD k 0:Nat):Int):=by
 unfold de;simp[List.getD,h]
def Hi(ws:List Nat)(k:Nat)(h:k<ws.length):fp (ws.take (k+1))=fp (ws.take k)++[(((ws.getD k 0:Nat):Int),(16:Int))]:=by
 unfold fp;rw[a1f h,a0J];simp[List.getD,h]
def Py(x:Int)(w:World):Ds 131 #[x] w (.agg #[x,.int .i64 16]):=by
 go_enter func131,ntmps131;go_wp2;refine a0x (v:=.agg #[x,.int .i64 16]) (by simp[results,results131,go_sem]) rfl ⟨rfl,?_⟩;exact cC
def FJ(a:Option Addr)(cap n:Nat)(ws:List Nat)(w:World)(B:ws.length=n)(h:br w a (de ws))(I:n<=100) :
  Calls prog 122 #[.slice a n cap,.func (.func 131) #[] #[]] w fun e w'=>∃v,e = .returned v/\Pcs w' w.heap.size v (fp ws)/\Below w.heap.size w w':=by
 have O:(n:Int)<=100:=by omega
 have x:=af B;have M:=af I;have G:Hid ((de ws).length=n):=by show _=_;unfold de;rw[a0O];exact B
 clear B I;obtain⟨i0,N,D,E,F⟩:=a0s Tryz.infoPiece;go_enter func122,ntmps122;go_wp2_with fail
 go_loopw [5,7,10] (fun o _ i wr=>∃k:Nat,k<=n/\i = .int .i64 k/\Pcs wr w.heap.size o (fp (ws.take k))/\Below w.heap.size w wr) (fun _ _ i _=>n-(intOf i).toNat)
 case atStart=>exact⟨0,a0g _,rfl,a1c _ _ _ _,a0c _ _⟩
 case round=>
  obtain⟨k,H,rfl,hq,b⟩:=hrel;by_cases p:k<n
  .
   obtain⟨g,o,rfl,P,r⟩:=(h.later b) (by rw[ae G];omega);have c0:=r k (by rw[ae G];exact p);rw[Lz ws k (by rw[ae x];exact p)]at c0;have C:=af (Hi ws k (by rw[ae x];exact p));have A:Hid ((fp (ws.take k)).length=k):=by show _=_;unfold fp;have:=ae x;simp;omega
   have L:=af H;clear r H h;generalize ((ws.getD k 0:Nat):Int)=y at *;have HP:=af (Py y wr);go_wp2_with fail;apply HP.mono;rintro e x1⟨rfl,m⟩;have q:=Pcs.later hq m (a0a _);have c:=aj b m;have j:=c.size;have f:Hid ((fp (ws.take k)).length+1<=maxLen/\((fp (ws.take k)).length+1)*16<=140737488355328):=by
    show _/\_;rw[ae A];have:=ae M;unfold maxLen;omega
   clear hq b m HP;go_wp2_with (at_builtin;refine a0w _ rfl _ _ 156 rfl w.heap.size 159 i0 (.agg #[.int .i64 0,.int .i64 0]) 2 16 a1x N D E F rfl (by decide) _ _ _ rfl (a0n q _) ⟨x1.heap.size,0,none⟩ 1 1 [.int .i64 y,.int .i64 16] rfl rfl (uF x1 _ _ _) (uE _ _) f.1 f.2 (au j _) ?_;intro v' x2 l d t;clear t);have z:=aJ (v:=u5) d q (a0a _) j c;have u:=nK l;rw[←ae C]at u;clear l d q;go_wp2;go_roundw
   case rel=>exact⟨k+1,by have:=ae L;omega,by go_num,u,z⟩
   case measure=>simp[intOf];omega
  . have s:ws.take k=ws:=a0u (by rw[ae x];omega);rw[s]at hq;have K:=af hq;have J:=af b;clear hq b s;go_wp2;go_ret;exact⟨_,rfl,K,J⟩
def dR(a:Option Addr)(cap n:Nat)(ws:List Nat)(w:World)(l:ws.length=n)(h:br w a (de ws))(k:n<=100)(p:∀x∈ws,x<65536) :
  Ds 98 #[.slice a n cap] w (.string ⟨(ws.flatMap (leS 2)).toArray⟩):=by
 have m:=af (FJ a cap n ws w l h k);have r:=af (LA p (by omega));have o:(fp ws).length=n:=by unfold fp;rw[a0O];exact l
 have d:=af o;have s:=af k;clear l h k p o;go_enter func98,ntmps98;go_wp2_with fail;apply m.mono;rintro e w1⟨v,rfl,j,b⟩;obtain⟨a1,c1,rfl⟩:=j.formN d;have g:=gG a1 c1 (fp ws) w1 (j.rowN d) (by have:=ae d;have:=ae s;omega);rw[ae r,ae d]at g;have i:=af g;have q:=af b;clear j b g m;go_wp2_with fail;apply i.mono;rintro e w2⟨rfl,c⟩;have f:=af (aj q c);clear c;go_wp2;go_ret;exact⟨rfl,f⟩
def dP(V:Nat)(w:World)(k:V<4294967296) :
  Ds 99 #[.int .i64 (V:Int)] w (.string ⟨(leS 4 V).toArray⟩):=by
 have e1:bits .and .i64 (V:Int) 65535=((V%65536:Nat):Int):=by
  have:=Cw (V:Int) (by omega) (by omega);rw[this];omega
 have d:Hid ([V%65536,V/65536].flatMap (leS 2)=leS 4 V):=by
  show _=_;rw[Nz];simp
 have hq:V/65536<65536:=by omega
 have f:Hid (br (w.alloc (.cells #[.int .i64 ((V%65536:Nat):Int),.int .i64 ((V/65536:Nat):Int)] 3)) (some ⟨w.heap.size,0,none⟩) (de [V%65536,V/65536])):=by
  intro _;refine⟨w.heap.size,0,rfl,by simp,fun i j=>?_⟩
  match i,j with
  | 0,_=>simp[de]
  | 1,_=>simp[de]
 have c:=af (dR (some ⟨w.heap.size,0,none⟩) 2 2 [V%65536,V/65536] _ rfl f (by omega) (fun x b=>by
  simp only[a01,List.mem_nil_iff,a1t]at b;rcases b with rfl|rfl
  . exact a00 _ (by decide)
  . exact hq))
 rw[ae d]at c;have g:Hid (Below w.heap.size w (w.alloc (.cells #[.int .i64 ((V%65536:Nat):Int),.int .i64 ((V/65536:Nat):Int)] 3))):=cC;generalize b:V%65536=x,l:V/65536=y at *;have e2:(V:Int)/65536=(y:Int):=by omega
 clear d f b;go_enter func99,ntmps99;go_wp2_with fail;apply c.mono;rintro e w1⟨rfl,a⟩;have h:=af (aj g a);clear a;go_wp2;go_ret;exact⟨rfl,h⟩
def PP(W:World)(g:Nat)(how st crc pk lg:Nat)(nm:ByteArray):Prop:=W.cell? ⟨g,0,none⟩=some (.int .i64 (how:Nat))/\W.cell? ⟨g,1,none⟩=some (.int .i64 (st:Nat))/\W.cell? ⟨g,2,none⟩=some (.int .i64 (crc:Nat))/\W.cell? ⟨g,3,none⟩=some (.int .i64 (pk:Nat))/\W.cell? ⟨g,4,none⟩=some (.int .i64 (lg:Nat))/\W.cell? ⟨g,5,none⟩=some (.string nm)
def xo(w:World)(how st crc pk lg:Nat)(nm:ByteArray)(W:World):Prop:=Below w.heap.size w W/\w.heap.size<W.heap.size/\PP W w.heap.size how st crc pk lg nm
def xo.later{W':World}(h:xo w how st crc pk lg nm W)(hb:Below W.heap.size W W'):xo w how st crc pk lg nm W':=by
 have a:∀j,W'.cell? ⟨w.heap.size,j,none⟩=W.cell? ⟨w.heap.size,j,none⟩:=fun j=>hb.cell (p:=⟨w.heap.size,j,none⟩) h.2.1;exact⟨h.1.trans (hb.mono (a0r h.2.1)),a0h h.2.1 hb.size,(a 0).trans h.2.2.1,(a 1).trans h.2.2.2.1,(a 2).trans h.2.2.2.2.1,(a 3).trans h.2.2.2.2.2.1,(a 4).trans h.2.2.2.2.2.2.1,(a 5).trans h.2.2.2.2.2.2.2⟩
def Lj(W:World)(x y z:Nat):br (W.alloc (.cells #[.int .i64 ((x:Nat):Int),.int .i64 ((y:Nat):Int),.int .i64 ((z:Nat):Int)] 3)) (some ⟨W.heap.size,0,none⟩) (de [x,y,z]):=by
 intro _;refine⟨W.heap.size,0,rfl,by simp,fun i a=>?_⟩
 match i,a with
 | 0,_=>simp[de]
 | 1,_=>simp[de]
 | 2,_=>simp[de]
def Rt(W:World)(x y:Nat):br (W.alloc (.cells #[.int .i64 ((x:Nat):Int),.int .i64 ((y:Nat):Int)] 3)) (some ⟨W.heap.size,0,none⟩) (de [x,y]):=by
 intro _;refine⟨W.heap.size,0,rfl,by simp,fun i a=>?_⟩
 match i,a with
 | 0,_=>simp[de]
 | 1,_=>simp[de]
def xl(w:World)(how st crc pk lg:Nat)(nm:ByteArray)(W:World)(r0 r1:Option Nat):Prop:=xo w how st crc pk lg nm W/\(∀g,r0=some g->br W (some ⟨g,0,none⟩) (de [20,0,how]))/\∀g,r1=some g->br W (some ⟨g,0,none⟩) (de [nm.size,0])
def xl.later{W':World}{a b:Option Nat}(h:xl w how st crc pk lg nm W a b)(hb:Below W.heap.size W W'):xl w how st crc pk lg nm W' a b:=⟨h.1.later hb,fun g e=>(h.2.1 g e).later hb,fun g e=>(h.2.2 g e).later hb⟩
def xl.new0{a:Option Nat}(h:xl w how st crc pk lg nm W none a):xl w how st crc pk lg nm (W.alloc (.cells #[.int .i64 20,.int .i64 0,.int .i64 ((how:Nat):Int)] 3)) (some W.heap.size) a:=by
 have h2:=h.later ((a0c W.heap.size W).alloc (a0a _) (.cells #[.int .i64 20,.int .i64 0,.int .i64 ((how:Nat):Int)] 3));exact⟨h2.1,fun g e=>by cases e;exact Lj W 20 0 how,h2.2.2⟩
def xl.new1{a:Option Nat}(h:xl w how st crc pk lg nm W a none):xl w how st crc pk lg nm (W.alloc (.cells #[.int .i64 ((nm.size:Nat):Int),.int .i64 0] 3)) a (some W.heap.size):=by
 have h2:=h.later ((a0c W.heap.size W).alloc (a0a _) (.cells #[.int .i64 ((nm.size:Nat):Int),.int .i64 0] 3));exact⟨h2.1,h2.2.1,fun g e=>by cases e;exact Rt W nm.size 0⟩
def ax(l:List UInt8):ByteArray:=⟨l.toArray⟩
def eU(how st crc pk lg n:Nat):ByteArray:=ax ([20,0,how].flatMap (leS 2))++ax (leS 4 st)++ax (leS 4 crc)++ax (leS 4 pk)++ax (leS 4 lg)++ax ([n,0].flatMap (leS 2))
def EI(how st crc pk lg:Nat)(nm:ByteArray)(w:World)(A:how<65536)(u:st<4294967296)(h2:crc<4294967296)(y:pk<4294967296)(z:lg<4294967296)(B:nm.size<65536) :
  Ds 128 #[.agg #[how,st,crc,pk,lg,nm]] w (.string (eU how st crc pk lg nm.size)):=by
 have p:=cE
 have q:Hid (∀g W,br W (some ⟨g,0,none⟩) (de [20,0,how])->Ds 98 #[.slice (some ⟨g,0,none⟩) 3 3] W (.string (ax ([20,0,how].flatMap (leS 2))))):=fun g W h=>dR _ 3 3 [20,0,how] W rfl h (by omega) (fun x t=>by simp at t;omega);have r:Hid (∀g W,br W (some ⟨g,0,none⟩) (de [nm.size,0])->Ds 98 #[.slice (some ⟨g,0,none⟩) 2 2] W (.string (ax ([nm.size,0].flatMap (leS 2))))):=fun g W h=>dR _ 2 2 [nm.size,0] W rfl h (by omega) (fun x t=>by simp at t;omega);have k:Hid (∀W,Ds 99 #[.int .i64 (st:Int)] W (.string (ax (leS 4 st)))):=fun W=>dP st W u;have m:Hid (∀W,Ds 99 #[.int .i64 (crc:Int)] W (.string (ax (leS 4 crc)))):=fun W=>dP crc W h2;have n:Hid (∀W,Ds 99 #[.int .i64 (pk:Int)] W (.string (ax (leS 4 pk)))):=fun W=>dP pk W y;have o:Hid (∀W,Ds 99 #[.int .i64 (lg:Int)] W (.string (ax (leS 4 lg)))):=fun W=>dP lg W z;have j:∀l:List UInt8,(ax l).size=l.length:=fun l=>by simp[ax,ByteArray.size]
 have z0:((ax ([20,0,how].flatMap (leS 2))).size:Int)<=100:=by rw[j];simp[az]
 have z5:((ax ([nm.size,0].flatMap (leS 2))).size:Int)<=100:=by rw[j];simp[az]
 have z1:((ax (leS 4 st)).size:Int)<=100:=by rw[j,az];omega
 have z2:((ax (leS 4 crc)).size:Int)<=100:=by rw[j,az];omega
 have z3:((ax (leS 4 pk)).size:Int)<=100:=by rw[j,az];omega
 have z4:((ax (leS 4 lg)).size:Int)<=100:=by rw[j,az];omega
 unfold eU;generalize ax ([20,0,how].flatMap (leS 2))=A0,ax ([nm.size,0].flatMap (leS 2))=A5,ax (leS 4 st)=A1,ax (leS 4 crc)=A2,ax (leS 4 pk)=A3,ax (leS 4 lg)=A4 at *;have C:(nm.size:Int)<65536:=by omega
 have T0':Hid (xo w how st crc pk lg nm (w.alloc (.cells #[how,st,crc,pk,lg,nm] 63))):=⟨cC,by simp,by simp,by simp,by simp,by simp,by simp,by simp⟩;clear A u h2 y z B j;go_enter func128,ntmps128;go_wp2_with fail;obtain⟨W0,hW0⟩:∃x,w.alloc (.cells #[how,st,crc,pk,lg,nm] 63)=x:=⟨_,rfl⟩;rw[hW0]at T0';rw[hW0];have T0:=T0';clear T0' hW0;refine wp_region_held_drew (S:=fun W=>PP W w.heap.size how st crc pk lg nm) p T0.2.2 (fun c=>?_);refine ag 0 (.pointer w.heap.size) rfl (fun W a=>by obtain⟨s0,s1,s2,s3,s4,s5⟩:=a;go_simp) c ?_;refine ag 1 (.int .i64 (how:Nat)) rfl (fun W a=>by obtain⟨s0,s1,s2,s3,s4,s5⟩:=a;go_simp) c ?_;refine ag 4 (.pointer (some ⟨w.heap.size,1,none⟩)) rfl (fun W a=>by obtain⟨s0,s1,s2,s3,s4,s5⟩:=a;go_simp) c ?_;refine ag 5 (.int .i64 (st:Nat)) rfl (fun W a=>by obtain⟨s0,s1,s2,s3,s4,s5⟩:=a;go_simp) c ?_;refine ag 8 (.pointer (some ⟨w.heap.size,2,none⟩)) rfl (fun W a=>by obtain⟨s0,s1,s2,s3,s4,s5⟩:=a;go_simp) c ?_;refine ag 9 (.int .i64 (crc:Nat)) rfl (fun W a=>by obtain⟨s0,s1,s2,s3,s4,s5⟩:=a;go_simp) c ?_;refine ag 12 (.pointer (some ⟨w.heap.size,3,none⟩)) rfl (fun W a=>by obtain⟨s0,s1,s2,s3,s4,s5⟩:=a;go_simp) c ?_;refine ag 13 (.int .i64 (pk:Nat)) rfl (fun W a=>by obtain⟨s0,s1,s2,s3,s4,s5⟩:=a;go_simp) c ?_;refine ag 16 (.pointer (some ⟨w.heap.size,4,none⟩)) rfl (fun W a=>by obtain⟨s0,s1,s2,s3,s4,s5⟩:=a;go_simp) c ?_;refine ag 17 (.int .i64 (lg:Nat)) rfl (fun W a=>by obtain⟨s0,s1,s2,s3,s4,s5⟩:=a;go_simp) c ?_;refine ag 20 (.pointer (some ⟨w.heap.size,5,none⟩)) rfl (fun W a=>by obtain⟨s0,s1,s2,s3,s4,s5⟩:=a;go_simp) c ?_;refine ag 21 (.string nm) rfl (fun W a=>by obtain⟨s0,s1,s2,s3,s4,s5⟩:=a;go_simp) c ?_;refine ag 22 (.int .i64 (nm.size:Nat)) rfl (fun W a=>by obtain⟨s0,s1,s2,s3,s4,s5⟩:=a;go_simp) c ?_;have b:xl w how st crc pk lg nm W0.drew none none:=⟨⟨T0.1.drew,T0.2.1,T0.2.2⟩,nofun,nofun⟩;generalize W0.drew=W at b c ⊢;refine wpAnyH_ready (rs:=[2,23]) (by kernel_rfl) (by simp) ?_;repeat' first
  | exact AllReadyH.nil
  | refine AllReadyH.cons rfl (fun K d=>?_) ?_
  | (refine jK 5 rfl ?_;go_simp;have b:=b.new0;refine Shut.out d _ _ b.1.2.2 (fun c=>?_);clear d K;generalize W.alloc (.cells #[.int .i64 20,.int .i64 0,.int .i64 ((how:Nat):Int)] 3)=V at b c ⊢;generalize W.heap.size=g at b ⊢;revert V;intro W c b;(first|refine wpAnyH_ready (rs:=[3,23]) (by decide +kernel) (by simp) ?_|refine wpAnyH_ready (rs:=[3]) (by decide +kernel) (by simp) ?_))
  | (refine jK 26 rfl ?_;go_simp;have b:=b.new1;refine Shut.out d _ _ b.1.2.2 (fun c=>?_);clear d K;generalize W.alloc (.cells #[.int .i64 ((nm.size:Nat):Int),.int .i64 0] 3)=V at b c ⊢;generalize W.heap.size=g at b ⊢;revert V;intro W c b;(first|refine wpAnyH_ready (rs:=[2]) (by decide +kernel) (by simp) ?_|refine wpAnyH_ready (rs:=[3]) (by decide +kernel) (by simp) ?_|refine wpAnyH_ready (rs:=[6]) (by decide +kernel) (by simp) ?_|refine wpAnyH_ready (rs:=[10]) (by decide +kernel) (by simp) ?_|refine wpAnyH_ready (rs:=[14]) (by decide +kernel) (by simp) ?_|refine wpAnyH_ready (rs:=[18]) (by decide +kernel) (by simp) ?_|refine wpAnyH_ready (rs:=[24]) (by decide +kernel) (by simp) ?_))
  | (refine jK 6 rfl ?_;go_simp;go_at_call 98;apply(q _ _ (b.2.1 _ rfl)).mono;rintro e W⟨rfl,f⟩;have b:=b.later f;refine Shut.out d _ _ b.1.2.2 (fun c=>?_);clear d K f;(first|refine wpAnyH_ready (rs:=[6,23]) (by decide +kernel) (by simp) ?_|refine wpAnyH_ready (rs:=[6]) (by decide +kernel) (by simp) ?_))
  | (refine jK 9 rfl ?_;go_simp;go_at_call 99;apply(k _).mono;rintro e W⟨rfl,f⟩;have b:=b.later f;refine Shut.out d _ _ b.1.2.2 (fun c=>?_);clear d K f;refine ag 7 (.string (A0++A1)) rfl (fun W a=>by go_simp<;>omega) c ?_;(first|refine wpAnyH_ready (rs:=[10,23]) (by decide +kernel) (by simp) ?_|refine wpAnyH_ready (rs:=[10]) (by decide +kernel) (by simp) ?_))
  | (refine jK 13 rfl ?_;go_simp;go_at_call 99;apply(m _).mono;rintro e W⟨rfl,f⟩;have b:=b.later f;refine Shut.out d _ _ b.1.2.2 (fun c=>?_);clear d K f;refine ag 11 (.string (A0++A1++A2)) rfl (fun W a=>by go_simp<;>omega) c ?_;(first|refine wpAnyH_ready (rs:=[14,23]) (by decide +kernel) (by simp) ?_|refine wpAnyH_ready (rs:=[14]) (by decide +kernel) (by simp) ?_))
  | (refine jK 17 rfl ?_;go_simp;go_at_call 99;apply(n _).mono;rintro e W⟨rfl,f⟩;have b:=b.later f;refine Shut.out d _ _ b.1.2.2 (fun c=>?_);clear d K f;refine ag 15 (.string (A0++A1++A2++A3)) rfl (fun W a=>by go_simp<;>omega) c ?_;(first|refine wpAnyH_ready (rs:=[18,23]) (by decide +kernel) (by simp) ?_|refine wpAnyH_ready (rs:=[18]) (by decide +kernel) (by simp) ?_))
  | (refine jK 21 rfl ?_;go_simp;go_at_call 99;apply(o _).mono;rintro e W⟨rfl,f⟩;have b:=b.later f;refine Shut.out d _ _ b.1.2.2 (fun c=>?_);clear d K f;refine ag 19 (.string (A0++A1++A2++A3++A4)) rfl (fun W a=>by go_simp<;>omega) c ?_;(first|refine wpAnyH_ready (rs:=[23]) (by decide +kernel) (by simp) ?_|refine wpAnyH_ready (rs:=[24]) (by decide +kernel) (by simp) ?_))
  | (refine jK 27 rfl ?_;go_simp;go_at_call 98;apply(r _ _ (b.2.2 _ rfl)).mono;rintro e W⟨rfl,f⟩;have b:=b.later f;refine Shut.out d _ _ b.1.2.2 (fun c=>?_);clear d K f;refine ag 25 (.string (A0++A1++A2++A3++A4++A5)) rfl (fun W a=>by go_simp<;>omega) c ?_;refine wpAnyH_ready (rs:=[26]) (by kernel_rfl) (by simp) ?_)
  | (refine jK 2 rfl ?_;go_simp;refine Shut.out d _ _ b.1.2.2 (fun c=>?_);clear d K;refine wpAnyH_done (by kernel_rfl) ?_ _;generalize s:A0++A1++A2++A3++A4++A5=AA;go_wp2;go_ret;exact⟨by subst s;rfl,b.1.1⟩)
def bu(l:List UInt8):(ax l).size=l.length:=by simp[ax,ByteArray.size]
def fE(how st crc pk lg n:Nat):(eU how st crc pk lg n).size=26:=by
 unfold eU;rw[a0G,a0G,a0G,a0G,a0G];simp only[bu,a0Y,a2m,a0j,az,a0U]
def cO(how st crc pk lg:Nat)(nm:ByteArray):ByteArray:=(⟨#[80,75,3,4]⟩:ByteArray)++eU how st crc pk lg nm.size++nm
def Cu(how st crc pk lg:Nat)(nm f:ByteArray)(w:World)(k:how<65536)(l:st<4294967296)(h2:crc<4294967296)(m:pk<4294967296)(n:lg<4294967296)(o:nm.size<65536) :
  Ds 94 #[.agg #[how,st,crc,pk,lg,nm,f]] w (.string (cO how st crc pk lg nm)):=by
 have j:=af (fun W=>EI how st crc pk lg nm W k l h2 m n o);have d:=cE
 obtain⟨A,hA⟩:∃A,eU how st crc pk lg nm.size=A:=⟨_,rfl⟩;have q:(A.size:Int)<=1000:=by
  rw[←hA,fE];omega
 have r:(nm.size:Int)<65536:=by omega
 have p:cO how st crc pk lg nm=(⟨#[80,75,3,4]⟩:ByteArray)++A++nm:=by unfold cO;rw[hA]
 rw[hA]at j;rw[p];have T0':Hid (xo w how st crc pk lg nm (w.alloc (.cells #[how,st,crc,pk,lg,nm,f] 65))):=⟨cC,by simp,by simp,by simp,by simp,by simp,by simp,by simp⟩;clear k l h2 m n o hA p;go_enter func94,ntmps94;go_wp2_with fail;obtain⟨W0,hW0⟩:∃x,w.alloc (.cells #[how,st,crc,pk,lg,nm,f] 65)=x:=⟨_,rfl⟩;rw[hW0]at T0';rw[hW0];have T0:=T0';clear T0' hW0;refine wp_region_held_drew (S:=fun W=>PP W w.heap.size how st crc pk lg nm) d T0.2.2 (fun b=>?_);refine ag 0 (.pointer w.heap.size) rfl (fun W a=>by obtain⟨s0,s1,s2,s3,s4,s5⟩:=a;go_simp) b ?_;refine ag 1 (.agg #[how,st,crc,pk,lg,nm]) rfl (fun W a=>by obtain⟨s0,s1,s2,s3,s4,s5⟩:=a;go_simp) b ?_;refine ag 4 (.pointer w.heap.size) rfl (fun W a=>by obtain⟨s0,s1,s2,s3,s4,s5⟩:=a;go_simp) b ?_;refine ag 5 (.pointer (some ⟨w.heap.size,5,none⟩)) rfl (fun W a=>by obtain⟨s0,s1,s2,s3,s4,s5⟩:=a;go_simp) b ?_;refine ag 6 (.string nm) rfl (fun W a=>by obtain⟨s0,s1,s2,s3,s4,s5⟩:=a;go_simp) b ?_;have T1:Hid (xo w how st crc pk lg nm W0.drew):=⟨T0.1.drew,T0.2.1,T0.2.2⟩;generalize W0.drew=W1 at *;refine ah 2 fun K c=>?_;go_simp;go_at_call 128;apply(j W1).mono;rintro e W2⟨rfl,i⟩;have T2:=af (T1.later i);refine Shut.out c _ _ T2.2.2 (fun b=>?_);clear c K i;refine ag 3 (.string ((⟨#[80,75,3,4]⟩:ByteArray)++A)) rfl (fun W a=>by obtain⟨s0,s1,s2,s3,s4,s5⟩:=a;go_simp<;>omega) b ?_;refine ag 7 (.string ((⟨#[80,75,3,4]⟩:ByteArray)++A++nm)) rfl (fun W a=>by obtain⟨s0,s1,s2,s3,s4,s5⟩:=a;go_simp<;>omega) b ?_;refine ah 8 fun K c=>?_;go_simp;refine Shut.out c _ _ T2.2.2 (fun b=>?_);clear c K;refine wpAnyH_done (by kernel_rfl) ?_ _;generalize g:(⟨#[80,75,3,4]⟩:ByteArray)++A++nm=AA;go_wp2;go_ret;exact⟨by subst g;rfl,T2.1⟩
def vi(how st crc pk lg:Nat)(nm:ByteArray):(cO how st crc pk lg nm).size=30+nm.size:=by
 unfold cO;rw[a0G,a0G,fE];have:(⟨#[80,75,3,4]⟩:ByteArray).size=4:=rfl;omega
def tg(how st crc pk lg:Nat)(nm a:ByteArray)(w:World)(j:how<65536)(k:st<4294967296)(h2:crc<4294967296)(l:pk<4294967296)(m:lg<4294967296)(n:nm.size<65536)(q:a.size<=100000) :
  Ds 59 #[.agg #[how,st,crc,pk,lg,nm,a]] w (.string (cO how st crc pk lg nm++a)):=by
 have f:=cE
 have o:=af (fun W=>Cu how st crc pk lg nm a W j k h2 l m n);have r:((cO how st crc pk lg nm).size:Int)<=70000:=by rw[vi];omega
 have s:(a.size:Int)<=100000:=by omega
 generalize cO how st crc pk lg nm=A at *;have T0':Hid (xo w how st crc pk lg nm (w.alloc (.cells #[how,st,crc,pk,lg,nm,a] 65))/\(w.alloc (.cells #[how,st,crc,pk,lg,nm,a] 65)).cell? ⟨w.heap.size,6,none⟩=some (.string a)):=⟨⟨cC,by simp,by simp,by simp,by simp,by simp,by simp,by simp⟩,by simp⟩;clear j k h2 l m n q;go_enter func59,ntmps59;go_wp2_with fail;obtain⟨W0,hW0⟩:∃x,w.alloc (.cells #[how,st,crc,pk,lg,nm,a] 65)=x:=⟨_,rfl⟩;rw[hW0]at T0';rw[hW0];have T0:=T0';clear T0' hW0;refine wp_region_held_drew (S:=fun W=>PP W w.heap.size how st crc pk lg nm/\W.cell? ⟨w.heap.size,6,none⟩=some (.string a)) f ⟨T0.1.2.2,T0.2⟩ (fun c=>?_);refine ag 0 (.agg #[how,st,crc,pk,lg,nm,a]) rfl (fun W b=>by obtain⟨⟨s0,s1,s2,s3,s4,s5⟩,s6⟩:=b;go_simp) c ?_;refine ag 2 (.pointer (some ⟨w.heap.size,6,none⟩)) rfl (fun W b=>by obtain⟨⟨s0,s1,s2,s3,s4,s5⟩,s6⟩:=b;go_simp) c ?_;refine ag 3 (.string a) rfl (fun W b=>by obtain⟨⟨s0,s1,s2,s3,s4,s5⟩,s6⟩:=b;go_simp) c ?_;have T1:Hid (xo w how st crc pk lg nm W0.drew/\W0.drew.cell? ⟨w.heap.size,6,none⟩=some (.string a)):=⟨⟨T0.1.1.drew,T0.1.2.1,T0.1.2.2⟩,T0.2⟩;generalize W0.drew=W1 at *;refine ah 1 fun K d=>?_;go_simp;go_at_call 94;apply(o W1).mono;rintro e W2⟨rfl,g⟩;have T2:Hid (xo w how st crc pk lg nm W2/\W2.cell? ⟨w.heap.size,6,none⟩=some (.string a)):=⟨T1.1.later g,by rw[g.cell (p:=⟨w.heap.size,6,none⟩) T1.1.2.1];exact T1.2⟩;refine Shut.out d _ _ ⟨T2.1.2.2,T2.2⟩ (fun c=>?_);clear d K g;refine ag 4 (.string (A++a)) rfl (fun W b=>by obtain⟨⟨s0,s1,s2,s3,s4,s5⟩,s6⟩:=b;go_simp<;>omega) c ?_;refine ah 5 fun K d=>?_;go_simp;refine Shut.out d _ _ ⟨T2.1.2.2,T2.2⟩ (fun c=>?_);clear d K;refine wpAnyH_done (by kernel_rfl) ?_ _;generalize i:A++a=AA;go_wp2;go_ret;exact⟨by subst i;rfl,T2.1.1⟩
def Dl(l:List UInt8):leS l.length (cR l)=l:=by
 apply a2i
 . rw[az]
 . intro j a h2;have h:=Iu l.length (cR l) j h2;rw[ER]at h;rw[List.getD_eq_getElem?_getD,List.getElem?_eq_getElem a,List.getD_eq_getElem?_getD,List.getElem?_eq_getElem h2]at h;simpa using h
def xg(k V:Nat):cR (leS k V)=V%2 ^ (8*k):=by
 induction k with
 | zero=>simp[leS,cR,a1p]
 | succ k ih=>
  simp only[leS];rw[jq,ih,az];have e:2 ^ (8*(k+1))=2 ^ (8*k)*256:=by rw[a2q,a0T]
  rw[e,Nat.mod_mul]
  congr 2
  simp[cR]
def qQ(V p k:Nat):V/2 ^ p%2 ^ (k+1)=V/2 ^ p%2 ^ k+V/2 ^ (p+k)%2*2 ^ k:=by
 rw[DC,a1Y,←a0T]
def gE(l:List Int):Nat:=(l.map Int.toNat).sum
def tM(a b:List Int):gE (a++b)=gE a+gE b:=by simp[gE]
def lP(x:Int)(b:List Int):gE (x :: b)=x.toNat+gE b:=by simp[gE]
def ep(V:Nat):Nat->List Int->List Int
 | _,[]=>[]
 | p,b :: bs=>((V/2 ^ p%2 ^ b.toNat:Nat):Int) :: ep V (p+b.toNat) bs
def yP(V p:Nat)(l:List Int):(ep V p l).length=l.length:=by
 induction l generalizing p with
 | nil=>rfl
 | cons b l ih=>simp[ep,ih]
def AO(V p:Nat)(a b:List Int):ep V p (a++b)=ep V p a++ep V (p+gE a) b:=by
 induction a generalizing p with
 | nil=>simp[ep,gE]
 | cons x a ih=>simp[ep,ih,lP,a19]
def fg(l:List Int):Bool:=l.all (fun b=>decide (0<=b)&&decide (b<=16))
def kH(s:List UInt8)(l:List Int):Bool:=fg l&&decide (l.length<=4000)&&decide (s.length=(gE l+7)/8)&&decide (cR s<2 ^ gE l)
def Cp(s:List UInt8)(l:List Int):List Int:=if kH s l=true then ep (cR s) 0 l else []
def Fo{l:List Int}(h:fg l=true)(k:Nat)(a:k<l.length):0<=l.getD k 0/\l.getD k 0<=16:=by
 have:=a08.1 h (l.getD k 0) (by simp[List.getD,a]);simpa using this
def Rr{l:List Int}(h:fg l=true):gE l<=16*l.length:=by
 induction l with
 | nil=>simp[gE]
 | cons b l ih=>
  have a:(0<=b/\b<=16)/\fg l=true:=by simpa[fg]using h
  have:=ih a.2;rw[lP,a0C];omega
def GI(s:List UInt8)(m:Nat)(h:s.length=(m+7)/8):(cR s/2 ^ m%2 ^ ((8-m%8)%8)=0)<->cR s<2 ^ m:=by
 have a:=rq s;have e:8*s.length=m+(8-m%8)%8:=by omega
 rw[e,a0T]at a;have h2:cR s/2 ^ m<2 ^ ((8-m%8)%8):=Nat.div_lt_of_lt_mul a;rw[a1e h2];constructor
 .
  intro b;rcases Nat.div_eq_zero_iff.1 b with h|h
  . have:=a1n m;omega
  . exact h
 . exact a1Z
def wd(l:List UInt8)(i k:Nat):Nat:=cR ((l.drop i).take k)
def IZ(l:List UInt8)(i k:Nat):wd l i k<2 ^ (8*k):=by
 unfold wd;refine a0h (rq _) (a0P (by decide) ?_);rw[a0v];omega
def jz(l:List UInt8)(i:Nat):wd l i 2<65536:=IZ l i 2
def fo(l:List UInt8)(i:Nat):wd l i 4<4294967296:=IZ l i 4
def fx(h:i+k<=l.length):((l.drop i).take k).length=k:=by
 rw[a0v,a04];omega
def iY(h:i+k<=l.length):leS k (wd l i k)=(l.drop i).take k:=by
 have:=Dl ((l.drop i).take k);rw[fx h]at this;exact this
def SZ(k:Nat)(h:i+j<=l.length):wd l i (j+k)=wd l i j+2 ^ (8*j)*wd l (i+j) k:=by
 unfold wd;rw[a3l,jq,fx h,a1W]
def Ty(h:i+2<=l.length):wd l i 4=wd l i 2+65536*wd l (i+2) 2:=SZ (j:=2) 2 h
def tV{v:Nat}(h:i+k<=l.length)(a:v<2 ^ (8*k)):wd l i k=v<->(l.drop i).take k=leS k v:=by
 constructor
 . intro e;rw[←e,iY h]
 . intro e;unfold wd;rw[e,xg,a1e a]
def Lv(h:i+k<=l.length):cR l/2 ^ (8*i)%2 ^ (8*k)=wd l i k:=by
 have e1:cR l=cR (l.take i)+2 ^ (8*i)*cR (l.drop i):=by
  have a:=jq (l.take i) (l.drop i);rw[a1P,a0v,a1w (by omega)]at a;exact a
 have l1:cR (l.take i)<2 ^ (8*i):=by
  have:=rq (l.take i);rw[a0v,a1w (by omega)]at this;exact this
 have e2:cR (l.drop i)=wd l i k+2 ^ (8*k)*cR ((l.drop i).drop k):=by
  have a:=jq ((l.drop i).take k) ((l.drop i).drop k);rw[a1P,fx h]at a;exact a
 rw[e1,Nat.add_mul_div_left _ _ (a1n _),a1Z l1,a0H,e2,Nat.add_mul_mod_self_left,a1e (IZ l i k)]
theorem wJ(V b:Nat):∀(n p j:Nat),j<n->(ep V p (List.replicate n ((b:Nat):Int))).getD j 0=((V/2 ^ (p+b*j)%2 ^ b:Nat):Int)
 | 0,_,_,h=>by omega
 | n+1,p,0,_=>by simp[List.replicate_succ,ep]
 | n+1,p,j+1,h=>by
  rw[List.replicate_succ];simp only[ep,a2F];rw[wJ V b n _ j (by omega),a0o,show p+b+b*j=p+b*(j+1) by rw[a2q];omega]
def Ab(h:30<=l.length):kH (l.take 30) (List.replicate 15 16)=true:=by
 have e1:gE (List.replicate 15 16)=240:=by decide
 have e2:(l.take 30).length=30:=by rw[a0v];omega
 have e3:fg (List.replicate 15 16)=true:=by decide
 have e4:=rq (l.take 30);rw[e2]at e4;unfold kH;rw[e1,e2,e3];simpa using e4
def FY(h:30<=l.length)(j:Nat)(b:j<15):(Cp (l.take 30) (List.replicate 15 16)).getD j 0=((wd l (2*j) 2:Nat):Int):=by
 unfold Cp;rw[a0d (Ab h)];have a:=wJ (cR (l.take 30)) 16 15 0 j b;rw[show((16:Nat):Int)=16 from rfl]at a;rw[a];have e2:(l.take 30).length=30:=by rw[a0v];omega
 have h2:=Lv (l:=l.take 30) (i:=2*j) (k:=2) (by omega);rw[show 0+16*j=8*(2*j) by omega,show(16:Nat)=8*2 from rfl,h2]
 congr 1
 unfold wd;rw[a3V,a2T,a1w (by omega)]
def Nf(h:30<=l.length):(Cp (l.take 30) (List.replicate 15 16)).length=15:=by
 unfold Cp;rw[a0d (Ab h),yP,a0y]
def nh(l:List UInt8):Bool:=decide (wd l 0 4=67324752)&&(decide (wd l 4 2=20)&&(decide (wd l 6 2=0)&&decide (wd l 28 2=0)))
def GC(l:List UInt8)(n:Nat):l.take (30+n)=(l.drop 0).take 4++((l.drop 4).take 2++((l.drop 6).take 2++((l.drop 8).take 2++((l.drop 10).take 4++((l.drop 14).take 4++((l.drop 18).take 4++((l.drop 22).take 4++((l.drop 26).take 2++((l.drop 28).take 2++(l.drop 30).take n))))))))):=by
 have st:∀i k m,(l.drop i).take (k+m)=(l.drop i).take k++(l.drop (i+k)).take m:=fun i k m=>by rw[a3l,a1W]
 rw[←st 28 2 n,←st 26 2 _,←st 22 4 _,←st 18 4 _,←st 14 4 _,←st 10 4 _,←st 8 2 _,←st 6 2 _,←st 4 2 _,←st 0 4 _,a1V]
 congr 1
 omega
def px(how st crc pk lg:Nat)(nm:ByteArray):(cO how st crc pk lg nm).data.toList=leS 4 67324752++(leS 2 20++(leS 2 0++(leS 2 how++(leS 4 st++(leS 4 crc++(leS 4 pk++(leS 4 lg++(leS 2 nm.size++(leS 2 0++nm.data.toList))))))))):=by
 have e:leS 4 67324752=[80,75,3,4]:=by decide +kernel
 rw[e];unfold cO eU ax;simp
def Ng(h:30+wd l 26 2<=l.length)(b:nm.data.toList=(l.drop 30).take (wd l 26 2)) :
  (cO (wd l 8 2) (wd l 10 4) (wd l 14 4) (wd l 18 4) (wd l 22 4) nm).data.toList.isPrefixOf l=nh l:=by
 have c:nm.size=wd l 26 2:=by
  have:=congrArg List.length b;rw[fx h]at this;simpa using this
 have a:(cO (wd l 8 2) (wd l 10 4) (wd l 14 4) (wd l 18 4) (wd l 22 4) nm).data.toList.length=30+wd l 26 2:=by
  rw[px,b];simp only[a0j,az,fx h];omega
 rw[a2g,List.isPrefixOf_iff_prefix,List.prefix_iff_eq_take,a,GC,px,c,b,
  iY (i:=8) (k:=2) (by omega),iY (i:=10) (k:=4) (by omega),iY (i:=14) (k:=4) (by omega),iY (i:=18) (k:=4) (by omega),iY (i:=22) (k:=4) (by omega),iY (i:=26) (k:=2) (by omega)]
 simp only[nh,a0l,a0t];rw[tV (i:=0) (k:=4) (by omega) (by decide),tV (i:=4) (k:=2) (by omega) (by decide),tV (i:=6) (k:=2) (by omega) (by decide),tV (i:=28) (k:=2) (by omega) (by decide)];constructor
 . intro e;obtain⟨e1,e⟩:=a2a e (by rw[az,fx (by omega)]);obtain⟨e2,e⟩:=a2a e (by rw[az,fx (by omega)]);obtain⟨e3,e⟩:=a2a e (by rw[az,fx (by omega)]);have e:=a2n (a2n (a2n (a2n (a2n (a2n e)))));obtain⟨e4,_⟩:=a2a e (by rw[az,fx (by omega)]);exact⟨e1.symm,e2.symm,e3.symm,e4.symm⟩
 . rintro⟨e1,e2,e3,e4⟩;rw[e1,e2,e3,e4]
def Rw(k:Nat)(h:i<l.length):wd l i (k+1)=(l.getD i 0).toNat+256*wd l (i+1) k:=by
 have e:(l.drop i).take (k+1)=l[i] :: (l.drop (i+1)).take k:=by rw[a23 h,List.take_succ_cons]
 unfold wd;rw[e,List.getD_eq_getElem?_getD,List.getElem?_eq_getElem h];simp only[cR,a1G]
def Hh{a b:List UInt8}(k:Nat)(h:a.length=m):wd (a++b) (m+i) k=wd b i k:=by
 unfold wd;rw[←h,a3h,a2U (by omega),a1a,a1q]
def ir(b:List UInt8)(h:V<2 ^ (8*k)):wd (leS k V++b) 0 k=V:=by
 unfold wd;rw[a1V,a1r (by rw[az];exact a0a _),a0u (by rw[az];exact a0a _),xg,a1e h]
def vm(r:List UInt8)(d:how<65536)(e:st<4294967296)(h2:crc<4294967296)(f:pk<4294967296)(g:lg<4294967296)(h:nm.size<65536) :
  nh ((cO how st crc pk lg nm).data.toList++r)=true/\wd ((cO how st crc pk lg nm).data.toList++r) 8 2=how/\wd ((cO how st crc pk lg nm).data.toList++r) 10 4=st/\wd ((cO how st crc pk lg nm).data.toList++r) 14 4=crc/\wd ((cO how st crc pk lg nm).data.toList++r) 18 4=pk/\wd ((cO how st crc pk lg nm).data.toList++r) 22 4=lg/\wd ((cO how st crc pk lg nm).data.toList++r) 26 2=nm.size/\(((cO how st crc pk lg nm).data.toList++r).drop 30).take nm.size=nm.data.toList/\((cO how st crc pk lg nm).data.toList++r).drop (30+nm.size)=r:=by
 rw[px];simp only[a0K];have g4:∀(V:Nat) (b:List UInt8) (i k:Nat),wd (leS 4 V++b) (4+i) k=wd b i k:=fun V b i k=>Hh k (az 4 V);have g2:∀(V:Nat) (b:List UInt8) (i k:Nat),wd (leS 2 V++b) (2+i) k=wd b i k:=fun V b i k=>Hh k (az 2 V);have c:∀(V:Nat) (b:List UInt8) (i:Nat),(leS 4 V++b).drop (4+i)=b.drop i:=fun V b i=>by rw[a3h,a2U (by rw[az];omega),a1a,az,a1q]
 have a:∀(V:Nat) (b:List UInt8) (i:Nat),(leS 2 V++b).drop (2+i)=b.drop i:=fun V b i=>by rw[a3h,a2U (by rw[az];omega),a1a,az,a1q]
 have e30:∀j,30+j=4+(2+(2+(2+(4+(4+(4+(4+(2+(2+j))))))))):=fun j=>by omega
 have l:nm.data.toList.length=nm.size:=by simp
 refine⟨?_,?_,?_,?_,?_,?_,?_,?_,?_⟩
 . unfold nh;rw[ir _ (by decide),show(4:Nat)=4+0 from rfl,g4,ir _ (by decide),show(6:Nat)=4+(2+0)from rfl,g4,g2,ir _ (by decide),show(28:Nat)=4+(2+(2+(2+(4+(4+(4+(4+(2+0))))))))from rfl,g4,g2,g2,g2,g4,g4,g4,g4,g2,ir _ (by decide)];rfl
 . rw[show(8:Nat)=4+(2+(2+0))from rfl,g4,g2,g2,ir _ d]
 . rw[show(10:Nat)=4+(2+(2+(2+0)))from rfl,g4,g2,g2,g2,ir _ e]
 . rw[show(14:Nat)=4+(2+(2+(2+(4+0))))from rfl,g4,g2,g2,g2,g4,ir _ h2]
 . rw[show(18:Nat)=4+(2+(2+(2+(4+(4+0)))))from rfl,g4,g2,g2,g2,g4,g4,ir _ f]
 . rw[show(22:Nat)=4+(2+(2+(2+(4+(4+(4+0))))))from rfl,g4,g2,g2,g2,g4,g4,g4,ir _ g]
 . rw[show(26:Nat)=4+(2+(2+(2+(4+(4+(4+(4+0)))))))from rfl,g4,g2,g2,g2,g4,g4,g4,g4,ir _ h]
 . rw[show(30:Nat)=4+(2+(2+(2+(4+(4+(4+(4+(2+(2+0)))))))))from rfl,c,a,a,a,c,c,c,c,a,a,a1V,a1r (by omega),a0u (by omega)]
 . rw[e30,c,a,a,a,c,c,c,c,a,a,a3h,a2U (by omega),a1a,l,a3U,a1V]
def dX(s:ByteArray)(p k:Nat):Int:=if p+k<=s.size then((wd s.data.toList p k:Nat):Int)else -1
def ip{s:ByteArray}{p:Nat}(h:p+k<=s.size):dX s p k=((wd s.data.toList p k:Nat):Int):=a0d h
def Aw{s:ByteArray}{p:Nat}(h:¬ p+k<=s.size):dX s p k = -1:=a0e h
def Mr(s:ByteArray)(i:Nat)(h:i<s.size):s.data.toList.getD i 0=s[i]:=by
 have a:i<s.data.toList.length:=by simpa using h
 rw[List.getD_eq_getElem?_getD,List.getElem?_eq_getElem a];rfl
def Ry(s:ByteArray)(k:Nat)(h:i<s.size):wd s.data.toList i (k+1)=256*wd s.data.toList (i+1) k+s[i].toNat:=by
 rw[Rw k (by simpa using h),Mr s i h,a2E]
def LB{X:Nat}{b:UInt8}(a:(X:Int)<16777216):wrap64 (256*(X:Int)+wrap64 (b.toNat:Int))=((256*X+b.toNat:Nat):Int):=by
 have:=b.toNat_lt;simp only[wrap64];omega
def dN(s:ByteArray)(p k:Nat)(w:World)(y:p<=4000000)(v:k<=4)(C:(s.size:Int)<=4611686018427387904) :
  Ds 45 #[s,.int .i64 (p:Int),.int .i64 (k:Int)] w (.int .i64 (dX s p k)):=by
 have h:(k:Int)<=4:=by omega
 have z:(0:Int)<=(p:Int):=by omega
 have g:(0:Int)<=(k:Int):=by omega
 by_cases c:p+k<=s.size
 .
  rw[ip c];have d:(p:Int)+(k:Int)<=(s.size:Int):=by omega
  have r:=af c;clear c;go_enter func45,ntmps45;go_wp2_with fail
  go_loopw [7,8] (fun x i wr=>∃q j:Nat,q+j=k/\i = .int .i64 ((q:Int)-1)/\x = .int .i64 ((wd s.data.toList (p+q) j:Nat):Int)/\Below w.heap.size w wr) (fun _ i _=>(intOf i+1).toNat)
  case atStart=>exact⟨k,0,rfl,rfl,by simp[wd,cR],a0c _ _⟩
  case round=>
   obtain⟨q,j,e,rfl,rfl,b⟩:=hrel;have a:=af b;clear b;rcases q with _|q
   .
    obtain rfl:j=k:=by omega
    go_wp2;go_ret;exact⟨rfl,a⟩
   .
    have l:p+q<s.size:=by have:=ae r;omega
    have o:=af (Ry s j l);have u:wd s.data.toList (p+q+1) j<16777216:=a0h (IZ _ _ _) (by
     have:8*j<=24:=by omega
     exact a0E (a0P (by decide) this) (by decide))
    have e1:((q+1:Nat):Int)-1=(q:Int):=(by omega);have e2:p+(q+1)=p+q+1:=rfl;rw[e1,e2];generalize wd s.data.toList (p+q+1) j=X at *;have f:(X:Int)<16777216:=(by omega);have t:=af e;have A:(p:Int)+(q:Int)<(s.size:Int):=(by omega);have m:0<=(p:Int)+(q:Int):=(by omega);have n:(p:Int)+(q:Int)<=4611686018427387904:=(by omega);have B:(q:Int)<=4:=(by omega);clear u e1 e2 e d h g v y;go_wp2;go_roundw
    case rel=>exact⟨q,j+1,by have:=ae t;omega,by go_num,by rw[ae o,LB f],a⟩
    case measure=>simp[intOf]
 .
  rw[Aw c];have d:(s.size:Int)<(p:Int)+(k:Int):=by omega
  clear c;go_enter func45,ntmps45;go_wp2;go_ret;exact⟨rfl,a0c _ _⟩
def J6(s:ByteArray)(p:Int)(w:World)(a:p<0) :
  Ds 45 #[s,p,.int .i64 2] w (.int .i64 (-1)):=by
 go_enter func45,ntmps45;go_wp2;go_ret;exact⟨rfl,a0c _ _⟩
attribute [local go_sem ↓] Go.wp_at_zero Go.wp_at_succ
def N0(V p k:Nat)(h:k<=16):V/2 ^ p%2 ^ k<65536:=by
 have a:V/2 ^ p%2 ^ k<2 ^ k:=a00 _ (a1n k);have h2:2 ^ k<=2 ^ 16:=a0P (by omega) h;omega
def uC(k:Nat)(h:k<=16):p2 k<=65536:=by
 have h2:2 ^ k<=2 ^ 16:=a0P (by omega) h;have a:p2 k=2 ^ k:=rfl;omega
def iS(b p c:Nat)(s:ByteArray)(w:World)(h:Rdr w b s p)(A:s.size<=2000000)(u:c<=16) :
  Calls prog 213 #[.pointer b,.int .i64 (c:Int)] w fun e w'=>e = .returned (.int .i64 (ak s/2 ^ p%2 ^ c:Nat))/\Rdr w' b s (p+c)/\aw b w w':=by
 have D:=af A;have F:(c:Int)<=16:=by omega
 have B:=af u;clear A u;go_enter func213,ntmps213;go_wp2_with fail
 go_loopw [5,6] (fun n i wr=>∃k:Nat,k<=c/\i = .int .i64 k/\n = .int .i64 (ak s/2 ^ p%2 ^ k:Nat)/\Rdr wr b s (p+k)/\aw b w wr) (fun _ i _=>c-(intOf i).toNat)
 case atStart=>exact⟨0,a0g _,rfl,by simp[a1p],h,aw.refl _ _⟩
 case round=>
  obtain⟨k,v,rfl,rfl,q,d⟩:=hrel;clear h;have C:=af v;by_cases H:k<c
  .
   have G:(k:Int)<(c:Int):=(by omega);have a:k<=16:=by have:=ae B;omega
   have t:Hid (ak s/2 ^ p%2 ^ (k+1)=ak s/2 ^ p%2 ^ k+ak s/2 ^ (p+k)%2*p2 k):=qQ (ak s) p k;have m:=N0 (ak s) p k a;have I:ak s/2 ^ (p+k)%2<=1:=(by omega);have o:=uC k a;have f:=af (my b (p+k) s wr q D);have j:=af (fun W=>Q9 k (p2 k) W (by omega) rfl);generalize ak s/2 ^ p%2 ^ k=n,ak s/2 ^ (p+k)%2=x,p2 k=PW at *;have g:x*PW<=65536:=by rcases (show x=0∨x=1 by omega)with e|e<;>subst e<;>omega
   have e1:IntKind.i64.wrap ((x:Int)*(PW:Int))=((x*PW:Nat):Int):=by rw[←a1C];exact bP _ (by omega) (by omega)
   have e1':((x:Int)*(PW:Int))=((x*PW:Nat):Int):=(by rw[←a1C]);have z:(n:Int)<65536:=(by omega);have y:((x*PW:Nat):Int)<=65536:=(by omega);generalize E:x*PW=M at *;clear E a I o m g v q;go_wp2_with fail;apply f.mono;rintro e x1⟨rfl,r,l⟩;go_wp2_with fail;apply(j _).mono;rintro e x2⟨rfl,rfl⟩;go_wp2;go_roundw
   case rel=>exact⟨k+1,by omega,by go_num,by rw[ae t];go_num,r,d.trans l⟩
   case measure=>simp[intOf];omega
  .
   obtain rfl:k=c:=by have:=ae C;omega
   go_wp2;go_ret;exact⟨rfl,q,d⟩
def rest_step(V p j:Nat):(V/2 ^ p%2 ^ (j+1)=0)<->(V/2 ^ p%2 ^ j=0/\V/2 ^ (p+j)%2=0):=by
 rw[qQ];have:=a1n j;constructor
 .
  intro h;have a:=Nat.eq_zero_of_add_eq_zero_right h;have h2:=Nat.eq_zero_of_add_eq_zero_left h;rcases Nat.mul_eq_zero.1 h2 with b|b
  . exact⟨a,b⟩
  . omega
 . rintro⟨a,h2⟩;rw[a,h2];simp
def AP(b p:Nat)(s:ByteArray)(w:World)(h:Rdr w b s p)(J:s.size<=2000000)(T:p<=8*s.size) :
  Calls prog 183 #[.pointer b] w fun e w'=>e = .returned (.bool (decide (ak s/2 ^ p%2 ^ ((8-p%8)%8)=0)))/\Rdr w' b s (p+(8-p%8)%8)/\aw b w w':=by
 have N:=af J;have E:(8-p%8)%8<=7:=by omega
 have F:(p+(8-p%8)%8)%8=0:=by omega
 have y:p+(8-p%8)%8<=8*s.size:=by omega
 have f:∀j,j<(8-p%8)%8->(p+j)%8≠0:=by omega
 have V:(s.size:Int)<=2000000:=by omega
 generalize (8-p%8)%8=c at *;have B:=af y;clear J T y;go_enter func183,ntmps183;go_wp2_with fail
 go_loopw [3] (fun n wr=>∃k m:Nat,k<=c/\n = .int .i64 (m:Nat)/\m<=k/\(m=0<->ak s/2 ^ p%2 ^ k=0)/\Rdr wr b s (p+k)/\aw b w wr) (fun _ wr=>c+p-(match wr.cell? ⟨b,1,none⟩with|some (.int _ i)=>i.toNat|_=>0))
 case atStart=>exact⟨0,0,a0g _,rfl,a0a _,by simp[a1p],h,aw.refl _ _⟩
 case round=>
  obtain⟨k,m,I,rfl,v,u,z,d⟩:=hrel;clear h;have P:=z.at (by have:=ae B;omega);obtain⟨c0,c1,c2,f0,f1,f2,Q⟩:=P;have M:=af I;have r:=af u;have U:((p+k:Nat):Int)<=16000000:=by have:=ae B;omega
  clear u;by_cases g:k<c
  .
   have S:¬ ((p+k:Nat):Int)%8=0:=by have:=f k g;omega
   have G:=af (rest_step (ak s) p k);have K:ak s/2 ^ (p+k)%2<=1:=(by omega);have t:=af (my b (p+k) s wr z N);generalize ak s/2 ^ (p+k)%2=x at *;have W:(x:Int)<=1:=(by omega);have R:(m:Int)<=7:=(by omega);have L:=af K;have A:=af v;have q:=af g;have C:=af (show p+k<8*s.size by have:=ae B;omega);clear f K I v g z F E;generalize a:p+k=pk at *;have o:=af a;clear a;go_wp2_with fail;apply t.mono;rintro e x1⟨rfl,l,D⟩;go_wp2;go_roundw
   case rel=>exact⟨k+1,m+x,q,by go_num,by have:=ae A;have:=ae L;omega,by rw[ae G,←ae r];omega,by rw[←ae o]at l;exact l,d.trans D⟩
   case measure=>
    have O:=(l.at (by have:=ae C;omega)).2.1;rw[O,c1];have:=ae o;have:=ae q;simp;omega
  .
   obtain rfl:k=c:=by have:=ae M;omega
   have X:((p+k:Nat):Int)%8=0:=(by omega);generalize a:p+k=pk at *;go_wp2;go_ret;refine⟨am ?_,by rw[a];exact z,d⟩;rw[show decide (ak s/2 ^ p%2 ^ k=0)=decide (m=0)from decide_eq_decide.2 r.symm];rcases a2l m with H|H
   . subst H;rfl
   . rw[a0m (by omega)];first|(exact a0m (by omega))|(exact beq_false_of_ne (by omega))|(exact(by omega:False).elim)
end Go.Proofs.YtckocaibjciplaaGreatDoor
namespace Go.Proofs.YtckocaibjciplaaGreatDoor
open Go.Proofs.Tryz
open Go.RowKit Corb
variable {b p:Nat}{s:ByteArray}{w w':World}
def Q0(n x k M:Nat)(d:n<p2 k)(g:x<=1)(c:k<=16)(a:x*p2 k=M):bits .or .i64 (n:Int) (M:Int)=((n+M:Nat):Int):=by
 have f:=uC k c;have b:M<=65536:=by
  rcases (show x=0∨x=1 by omega)with e|e<;>subst e<;>omega
 rw[mg n M (by omega) (by omega)]
 congr 1
 rw[Nat.or_comm];rw[nat_join k M n (by rw[←a];exact Nat.mul_mod_left _ _) d];omega
def wI(b p c:Nat)(num:Int)(s:ByteArray)(w:World)(h:Rdr w b s p)(B:s.size<=2000000)(z:c<=16) :
  Calls prog 258 #[.pointer b,.agg #[num,.int .i64 (c:Int)]] w fun e w'=>e = .returned (.int .i64 (ak s/2 ^ p%2 ^ c:Nat))/\Rdr w' b s (p+c)/\aw b w w':=by
 have F:=af B;have G:(c:Int)<=16:=by omega
 have D:=af z;have q:=h.lt;have y:=h.alloc (.cells #[num,.int .i64 (c:Int)] 159);have j:aw b w (w.alloc (.cells #[num,.int .i64 (c:Int)] 159)):=(aw.refl _ _).alloc (by omega) _;clear B z h;go_enter func258,ntmps258;go_wp2_with fail
 go_loopw [5,6,9] (fun n _ i wr=>∃k:Nat,k<=c/\i = .int .i64 k/\n = .int .i64 (ak s/2 ^ p%2 ^ k:Nat)/\Rdr wr b s (p+k)/\aw b w wr) (fun _ _ i _=>c-(intOf i).toNat)
 case atStart=>exact⟨0,a0g _,rfl,by simp[a1p],y,j⟩
 case round=>
  obtain⟨k,A,rfl,rfl,t,d⟩:=hrel;clear y j;have E:=af A;by_cases q:k<c
  .
   have H:(k:Int)<(c:Int):=(by omega);have a:k<=16:=by have:=ae D;omega
   have v:Hid (ak s/2 ^ p%2 ^ (k+1)=ak s/2 ^ p%2 ^ k+ak s/2 ^ (p+k)%2*p2 k):=qQ (ak s) p k;have m:ak s/2 ^ p%2 ^ k<p2 k:=a00 _ (a1n k);have C:ak s/2 ^ (p+k)%2<=1:=(by omega);have r:=uC k a;have g:=af (sE b (p+k) s wr t F);have f:=ll k;generalize ak s/2 ^ p%2 ^ k=n,ak s/2 ^ (p+k)%2=x at *;have I:=Q0 n x k (x*p2 k) m C a rfl;have l:x*p2 k<=65536:=by rcases (show x=0∨x=1 by omega)with e|e<;>rw[e]<;>omega
   have e1':(x:Int)*2 ^ k=((x*p2 k:Nat):Int):=(by rw[a1C,f]);have e1:IntKind.i64.wrap ((x:Int)*2 ^ k)=((x*p2 k:Nat):Int):=by rw[e1'];exact bP _ (by omega) (by omega)
   generalize x*p2 k=M at *;have e2:IntKind.i64.wrap (M:Int)=(M:Int):=bP _ (by omega) (by omega);have J:(k:Int)<=16:=(by omega);clear a C r l A t m f;go_wp2_with fail;apply g.mono;rintro e x1⟨rfl,u,o⟩;go_wp2;go_roundw
   case rel=>exact⟨k+1,by omega,by go_num,by rw[ae v];go_num,u,d.trans o⟩
   case measure=>simp[intOf];omega
  .
   obtain rfl:k=c:=by have:=ae E;omega
   go_wp2;go_ret;exact⟨rfl,t,d⟩
def QZ(m x:Nat)(a:m<=1)(b:x<=1):∃y:Nat,bits .or .i64 (m:Int) (x:Int)=(y:Int)/\y<=1/\(y=0<->m=0/\x=0):=by
 refine⟨m ||| x,mg m x (by omega) (by omega),?_,?_⟩
 . rcases (show m=0∨m=1 by omega)with e|e<;>rcases (show x=0∨x=1 by omega)with f|f<;>subst e<;>subst f<;>decide
 . rcases (show m=0∨m=1 by omega)with e|e<;>rcases (show x=0∨x=1 by omega)with f|f<;>subst e<;>subst f<;>decide
def tI(b p:Nat)(s:ByteArray)(w:World)(h:Rdr w b s p)(M:s.size<=2000000)(W:p<=8*s.size) :
  Calls prog 126 #[.pointer b] w fun e w'=>e = .returned (.bool (decide (ak s/2 ^ p%2 ^ ((8-p%8)%8)=0)))/\Rdr w' b s (p+(8-p%8)%8)/\aw b w w':=by
 have Q:=af M;have H:(8-p%8)%8<=7:=by omega
 have I:(p+(8-p%8)%8)%8=0:=by omega
 have z:p+(8-p%8)%8<=8*s.size:=by omega
 have f:∀j,j<(8-p%8)%8->(p+j)%8≠0:=by omega
 have Y:(s.size:Int)<=2000000:=by omega
 generalize (8-p%8)%8=c at *;have E:=af z;clear M W z;go_enter func126,ntmps126;go_wp2_with fail
 go_loopw [3] (fun n wr=>∃k m:Nat,k<=c/\n = .int .i64 (m:Nat)/\m<=1/\(m=0<->ak s/2 ^ p%2 ^ k=0)/\Rdr wr b s (p+k)/\aw b w wr) (fun _ wr=>c+p-(match wr.cell? ⟨b,1,none⟩with|some (.int _ i)=>i.toNat|_=>0))
 case atStart=>exact⟨0,0,a0g _,rfl,by omega,by simp[a1p],h,aw.refl _ _⟩
 case round=>
  obtain⟨k,m,L,rfl,v,u,C,d⟩:=hrel;clear h;have S:=C.at (by have:=ae E;omega);obtain⟨c0,c1,c2,f0,f1,f2,T⟩:=S;have P:=af L;have r:=af u;have X:((p+k:Nat):Int)<=16000000:=by have:=ae E;omega
  clear u;by_cases g:k<c
  .
   have U:¬ ((p+k:Nat):Int)%8=0:=by have:=f k g;omega
   have J:=af (rest_step (ak s) p k);have N:ak s/2 ^ (p+k)%2<=1:=(by omega);have t:=af (sE b (p+k) s wr C Q);generalize ak s/2 ^ (p+k)%2=x at *;obtain⟨y,V,B,A⟩:=QZ m x v N;have O:=af A;have D:=af B;have q:=af g;have F:=af (show p+k<8*s.size by have:=ae E;omega);clear f N L v g C I H A B;generalize a:p+k=pk at *;have o:=af a;clear a;go_wp2_with fail;apply t.mono;rintro e x1⟨rfl,l,G⟩;go_wp2;go_roundw
   case rel=>exact⟨k+1,y,q,rfl,D,by rw[ae J,←ae r];exact O,by rw[←ae o]at l;exact l,d.trans G⟩
   case measure=>
    have R:=(l.at (by have:=ae F;omega)).2.1;rw[R,c1];have:=ae o;have:=ae q;simp;omega
  .
   obtain rfl:k=c:=by have:=ae P;omega
   have Z:((p+k:Nat):Int)%8=0:=(by omega);generalize a:p+k=pk at *;go_wp2;go_ret;refine⟨am ?_,by rw[a];exact C,d⟩;rw[show decide (ak s/2 ^ p%2 ^ k=0)=decide (m=0)from decide_eq_decide.2 r.symm];rcases a2l m with K|K
   . subst K;rfl
   . rw[a0m (by omega)];first|(exact a0m (by omega))|(exact beq_false_of_ne (by omega))|(exact(by omega:False).elim)
def bS(m:List UInt8):List (Int×Int):=m.map fun b=>((b.toNat:Int),8)
def lV(m:List UInt8):(bS m).length=m.length:=by simp[bS]
def Jh(m:List UInt8):aY (bS m)=true:=by
 simp only[aY,bS,List.all_map,a08];intro b _;have:=a2u b;have a:p2 (8:Int).toNat=256:=by decide
 have c:pOk (b.toNat:Int) 8=true:=aS.2 ⟨by omega,by omega,by rw[a];omega⟩;exact c
def Fx(m:List UInt8):aU (bS m)=(cR m,8*m.length):=by
 induction m with
 | nil=>rfl
 | cons b m ih=>
  have e0:bS (b :: m)=[((b.toNat:Int),(8:Int))]++bS m:=rfl;have e:aU [((b.toNat:Int),(8:Int))]=(b.toNat,8):=by simp[aU,nF,iR]
  have e2:cR (b :: m)=cR [b]+2 ^ (8*1)*cR m:=jq [b] m;have e3:cR [b]=b.toNat:=by simp[cR]
  rw[e0,kR,ih,e,e2,e3];refine Prod.ext ?_ ?_
  . show b.toNat+cR m*2 ^ 8=b.toNat+2 ^ (8*1)*cR m;rw[a1h]
  . show 8+8*m.length=8*(b :: m).length;rw[a0C];omega
def pp(m:List UInt8)(h:m.length<=4000):lOk (bS m)=true:=by
 simp only[lOk,a0l,a2h];exact⟨Jh m,by rw[lV];exact h⟩
def Fw(m:List UInt8)(h:m.length<=4000):oR (bS m)=m:=by
 rw[dQ (pp m h),cB,Fx];show leS ((8*m.length+7)/8) (cR m)=m;rw[show(8*m.length+7)/8=m.length by omega];exact Dl m
def fi(n:Nat):List (Int×Int):=[(1,1),(0,2),(0,5),((n:Int),16),(((65535-n:Nat):Int),16)]
def iz(n:Nat):Nat:=1+n*256+(65535-n)*16777216
def vj(n:Nat)(h:n<=65535):lOk (fi n)=true:=by
 have a:p2 (16:Int).toNat=65536:=by decide
 have a1:pOk 1 1=true:=by decide
 have a2:pOk 0 2=true:=by decide
 have a3:pOk 0 5=true:=by decide
 have a4:pOk (n:Int) 16=true:=aS.2 ⟨by omega,by omega,by rw[a];omega⟩;have a5:pOk ((65535-n:Nat):Int) 16=true:=aS.2 ⟨by omega,by omega,by rw[a];omega⟩;simp only[lOk,aY,fi,a18,a2V,a1,a2,a3,a4,a5];simp
def yo(n:Nat):aU (fi n)=(iz n,40):=by
 simp[aU,nF,fi,iR,iz]
def JP(n:Nat)(h:n<=65535):oR (fi n)=leS 5 (iz n):=by
 rw[dQ (vj n h),cB,yo];simp only[Nat.reduceAdd,Nat.reduceDiv]
def Ct(n:Nat):(aU (fi n)).2%8=0:=by rw[yo];simp only[Nat.reduceMod]
def yV(L:List UInt8)(h:L.length<=300):oR (fi L.length++bS L)=leS 5 (iz L.length)++L:=by
 rw[IX (fi L.length) (bS L) (vj _ (by omega)) (pp L (by omega)) (by rw[lV];simp[fi];omega) (Ct _),JP _ (by omega),Fw L (by omega)]
def gm(L:List UInt8):List UInt8:=if L.length<=300 then leS 5 (iz L.length)++L else []
def PE(n:Nat)(h:n<=300):n ^^^ 65535=65535-n:=by
 apply Nat.eq_of_testBit_eq;intro i;have e1:(65535:Nat)=2 ^ 16-1:=rfl;have e2:65535-n=2 ^ 16-(n+1):=by omega
 rw[e2,Nat.testBit_two_pow_sub_succ (by omega),Nat.testBit_xor,e1,Nat.testBit_two_pow_sub_one];by_cases a:i<16
 . simp[a]
 . have:n.testBit i=false:=Nat.testBit_lt_two_pow (a0h (show n<2 ^ 16 by omega) (a0P (by omega) (by omega)));simp[a,this]
def KB(b:Nat)(w w':World):Prop:=Below b w w'/\cj b w w'
def KB.refl(b:Nat)(w:World):KB b w w:=⟨a0c _ _,cj.refl _ _⟩
def KB.trans{w1 w2:World}(h:KB b w w1)(k:KB b w1 w2):KB b w w2:=⟨h.1.trans k.1,h.2.trans k.2⟩
def KB.drew(h:KB b w w'):KB b w w'.drew:=⟨h.1.drew,h.2.drew⟩
def KB.set(h:KB b w w')(o:Nat)(u:Value):KB b w (w'.setCell ⟨b,o,none⟩ u):=⟨ai h.1 (a0a _) u,h.2.set u⟩
def KB.below{w'':World}(h:KB b w w')(hb:Below w'.heap.size w' w'')(c:b<=w'.heap.size):KB b w w'':=
 ⟨h.1.trans (hb.mono c),h.2.trans ⟨hb.size,fun k a _ _=>hb.block k a⟩⟩
def Ed{W2 WA:World}{v v' v1 v2:Value}{l:List UInt8}{x:UInt8}(T2:Three W2 b v v1 v2)(Y2:Bys W2 b v l)(h:KB b w W2)
  (e:Below (b+1) W2 WA) (d:cj b W2 WA) (f:Bys WA b v l) (c:w'.ownsRow (b+1) 5 1 v' (l.length+1) (df l++[.int .u8 (x.toNat:Int)])) (a:WA.grownBy w' v.ownBlock) :
  (∃g cap,v' = .slice (some ⟨g,0,none⟩) (l.length+1) cap)/\Three w' b v v1 v2/\Bys w' b v' (l++[x])/\KB b w w':=by
 obtain⟨i,h2,j,k⟩:=wG T2 Y2 h.1 e c a;exact⟨i,h2,j,k,h.2.trans (d.grown f a)⟩
def OD(b V m:Nat)(num bits:Int)(w:World)(h:Out w b V m)(n0:0<=num)(n1:num<65536)(b0:0<=bits)(b1:bits<=16)(hm:m<=100000) :
  Calls prog 184 #[.pointer b,num,bits] w fun e w'=>e = .returned (.tuple #[]) /\
   Out w' b (V+num.toNat%p2 bits.toNat*p2 m) (m+bits.toNat)/\KB b w w':=by
 obtain⟨n,rfl⟩:=a0p n0;obtain⟨c,rfl⟩:=a0p b0;rw[a0o,a0o];obtain⟨i0,hi,a9,ba,bb⟩:=a0s Tryz.infoU8;go_enter func184,ntmps184;go_wp2
 go_loopw [1,6] (fun x i wr=>∃k:Nat,k<=c/\i = .int .i64 k/\x = .int .i64 (n/p2 k:Nat)/\Out wr b (V+n%p2 k*p2 m) (m+k)/\KB b w wr) (fun _ i _=>c-(intOf i).toNat)
 case atStart=>exact⟨0,a0g _,rfl,by simp[p2],by simpa[p2,a1p]using h,KB.refl _ _⟩
 case round=>
  obtain⟨k,hk,rfl,rfl,z,a⟩:=hrel;by_cases b5:k<c
  .
   have B:=af (AG V n k m);have g:=af (Cs n k);have a6:n/p2 k<=n:=a10 _ _;obtain⟨hV,v,s,G⟩:=z;obtain⟨sa,scap,rfl⟩:=G.form;have a5:=ux (V+n%p2 k*p2 m) (m+k) hV;generalize V+n%p2 k*p2 m=V1,W:m+k=m1 at *;have hx:n/p2 k%2<=1:=(by omega);have ad:((n/p2 k:Nat):Int)%2=((n/p2 k%2:Nat):Int):=(by omega);have bd:((n/p2 k:Nat):Int)<65536:=(by omega);have a7:p2 (m1%8)<=128:=qT (m1%8) 7 (by omega);have O:n/p2 k%2*p2 (m1%8)<=1*p2 (m1%8):=a2p _ hx;have y:((n/p2 k%2:Nat):Int)*((p2 (m1%8):Nat):Int)=((n/p2 k%2*p2 (m1%8):Nat):Int):=(by simp);have q:=D2 V1 m1 (n/p2 k%2) hV hx;have d:=DZ V1 m1 (n/p2 k%2) hV hx;have ab:m1%8<8:=a00 _ (by omega);have l:m1<=100016:=(by omega);have Q:(leS (m1/8) V1).length=m1/8:=az _ _;generalize n/p2 k=nk at *;generalize a8:nk%2=x,a1:V1/p2 (8*(m1/8))=L,ac:m1%8=r at *;generalize N:p2 r=P at *;generalize a2:x*P=X at *;have ao:=af N;have K:=af W;have a0:=af ac;have E:=af q;have C:=af d;clear W a1 ac N a2 hV q d a8 hx a6;obtain⟨k0,H,I,f0,f1,f2,F⟩:=s;have s:Hid (Three wr b _ _ _):=⟨k0,H,I,f0,f1,f2,F⟩;have b6:(r:Int)<8:=(by omega);have bl:(L:Int)<128:=(by omega);have bs:(X:Int)<=128:=(by omega);have S:(k:Int)<(c:Int):=(by omega);have bk:=af ab;have D:=af l;have Hk:=af hk;have al:Hid (IntKind.i64.wrap ((L:Int)+IntKind.i64.wrap ((nk:Int).tmod 2*(P:Int)))=(L:Int)+(X:Int)):=by
    show IntKind.i64.wrap ((L:Int)+IntKind.i64.wrap ((nk:Int).tmod 2*(P:Int)))=(L:Int)+(X:Int);rw[a13 (by omega),ad,y,bP (X:Int) (by omega) (by omega),bP ((L:Int)+(X:Int)) (by omega) (by omega)]
   clear ab l a7 O a5 hk hm;go_wp2_with fail;go_cut[]from 7 to 62 (fun wc=>wc=(wr.setCell ⟨b,1,none⟩ (.int .i64 ((L:Int)+(X:Int)))).drew)
   case first=>
    go_region_with (go_at_call 217;apply(fR _ _ (by omega)).mono;rintro e w'⟨rfl,rfl⟩;rw[a0o,ae ao])
    all_goals
     go_wp2_with fail
     go_meet
     exact by rw[ae al]
   case rest=>
    have T1:=(s.set1 (.int .i64 ((L:Int)+(X:Int)))).drew;have Y1:=(G.set (o:=1) (.int .i64 ((L:Int)+(X:Int)))).drew;have B1:KB b w _:=(a.set 1 (.int .i64 ((L:Int)+(X:Int)))).drew;rw[←hcut]at T1 Y1 B1;clear hcut G a s k0 H I f0 f1 f2 F y ad;have T1':=af T1;obtain⟨k0,H,I,f0,f1,f2,F⟩:=T1;by_cases aa:(r:Int)=7
    .
     have A:r=7:=(by omega);obtain⟨o1,o2,o3,o4⟩:=ae C A;have O1:=af o1;have O2:=af o2;have O3:=af o3;have O4:=af o4;have M:L+X<256:=(by omega);have a4:=af (qj (L+X) M);have b4:IntKind.u8.wrap ((L:Int)+(X:Int))=(L:Int)+(X:Int):=by
      rw[IntKind.wrap_u8'];omega
     subst A;clear o1 o2 o3 o4 aa M;have T2:=T1'.set2 (.int .i64 8);have Y2:=Y1.set (o:=2) (.int .i64 8);have B2:KB b w _:=B1.set 2 (.int .i64 8);have U:=af Q;clear Q;go_wp2_with fail;generalize wc.setCell ⟨b,2,none⟩ (.int .i64 8)=W2 at *;clear k0 H I f0 f1 f2 T1' Y1 B1;have T2':=af T2;obtain⟨k0,H,I,f0,f1,f2,a3⟩:=T2;have R:Hid (((UInt8.ofNat (L+X)).toNat:Int)=(L:Int)+(X:Int)):=by
      show((UInt8.ofNat (L+X)).toNat:Int)=(L:Int)+(X:Int);rw[ae a4];omega
     have T:(leS (m1/8) V1).length<=20000:=by have:=ae U;have:=ae D;omega
     have J:=af T;clear T;go_cut[]from 7 to 62 (fun wc2=>∃v',Three wc2 b v' (.int .i64 ((L:Int)+(X:Int))) (.int .i64 8)/\Bys wc2 b v' (leS (m1/8) V1++[UInt8.ofNat (L+X)])/\KB b w wc2)
     case first=>
      go_region_law (refine aL rfl (.tmp 47) (.tmp 53) 22 rfl (b+1) 5 i0 (.int .u8 0) 1 1 a0X hi a9 ba bb rfl (by decide) _ _ _ (by simp[Act.eval]) (Y2.alloc _) ⟨W2.heap.size,0,none⟩ 1 1 [.int .u8 ((L:Int)+(X:Int))] (by simp[Act.eval]) rfl (by intro j u hj;match j,hj with | 0,hj=>simp at hj;subst hj;simp[Addr.add]) (by intro u hu;simp at hu;subst hu;rfl) (by have:=ae J;unfold maxLen;omega) (by have:=ae J;omega) (by simp;omega) ?_;intro v' w' p f Z;clear Z;rw[←ae R]at p;obtain⟨⟨g',bc,rfl⟩,T3,Y3,B3⟩:=Ed T2' Y2 B2 (by first|exact(a0c _ _).alloc (by omega) _|exact((a0c _ _).alloc (by omega) _).drew) (by first|exact(cj.refl _ _).alloc _|exact((cj.refl _ _).alloc _).drew) (by first|exact Y2.alloc _|exact(Y2.alloc _).drew) p f;clear p f;have T3':=af T3;obtain⟨q0,q1,q2,e0,e1,e2,b2⟩:=T3)
      all_goals
       go_wp2_with fail
       go_meet
       exact⟨_,T3'.set0 _,Y3.set _,B3.set _ _⟩
     case rest=>
      obtain⟨v',T4,Y4,B4⟩:=hcut;clear k0 H I f0 f1 f2 T2' Y2 B2 a3;obtain⟨va,vc,rfl⟩:=Y4.form;have T4':=af T4;obtain⟨k0,H,I,f0,f1,f2,b3⟩:=T4;go_wp2;go_roundw
      case rel=>
       refine⟨k+1,by have:=ae Hk;omega,by go_num,by rw[←ae g];go_num,?_,(B4.set _ _).set _ _⟩;rw[ae B,show m+(k+1)=m1+1 by have:=ae K;omega];refine⟨O1,.slice va (leS (m1/8) V1++[UInt8.ofNat (L+X)]).length vc,?_,?_⟩
       . rw[ae O2,ae O3];exact(T4'.set1 _).set2 _
       . rw[ae O4];exact(Y4.set _).set _
      case measure=>simp[intOf];omega
    .
     have be:((r:Int)+1 == 8)=false:=by simp;omega
     have t:r<7:=(by omega);obtain⟨o1,o2,o3⟩:=ae E t;have O1:=af o1;have O2:=af o2;have O3:=af o3;have Y:Hid ((m1+1)%8=r+1):=by show(m1+1)%8=r+1;have:=ae a0;omega
     clear o1 o2 o3 t aa;go_wp2;go_roundw
     case rel=>
      refine⟨k+1,by have:=ae Hk;omega,by go_num,by rw[←ae g];go_num,?_,B1.set _ _⟩;rw[ae B,show m+(k+1)=m1+1 by have:=ae K;omega];refine⟨O1,.slice sa (leS (m1/8) V1).length scap,?_,?_⟩
      . rw[ae O2,ae Y];exact T1'.set2 _
      . rw[ae O3];exact Y1.set _
     case measure=>simp[intOf];omega
  .
   have S:k=c:=(by omega);subst S;go_wp2
   go_end0
   exact⟨rfl,z,a⟩
def mD(b V m:Nat)(w:World)(h:Out w b V m)(d:m<=90000) :
  Calls prog 185 #[.pointer b] w fun e w'=>e = .returned (.tuple #[])/\Out w' b V (8*((m+7)/8))/\Below b w w':=by
 have j:=af h;obtain⟨k,v,u,n⟩:=h;obtain⟨k0,o,x,f0,f1,f2,q⟩:=u;by_cases l:m%8=0
 .
  have g:((m%8:Nat):Int)=0:=by omega
  have s:Hid (8*((m+7)/8)=m):=by show _=_;omega
  clear l k n k0 o d;go_enter func185,ntmps185;go_wp2
  go_end0
  exact⟨rfl,by rw[ae s];exact j,a0c _ _⟩
 .
  have g:(0:Int)<((m%8:Nat):Int):=by omega
  have t:((m%8:Nat):Int)<8:=by omega
  have a:Hid (m+(8-m%8)=8*((m+7)/8)):=by show _=_;omega
  have i:Hid ((8-((m%8:Nat):Int)).toNat=8-m%8):=by show(8-((m%8:Nat):Int)).toNat=8-m%8;omega
  have f:=af d;clear l k n k0 o d;generalize ((m%8:Nat):Int)=r at *;go_enter func185,ntmps185;go_wp2_with fail;refine(qV b V m 0 (8-r) _ j (by omega) (by omega) (by omega) (by omega) (by have:=ae f;omega)).mono ?_;rintro e w1⟨rfl,c,hb⟩;rw[ae i]at c;simp only[Int.toNat_zero,Nat.zero_mod,Nat.zero_mul,a1b]at c;rw[ae a]at c;have p:=af c;clear c;go_wp2
  go_end0
  exact⟨rfl,p,hb⟩
def lO(s:ByteArray):s.data.toList.length=s.size:=by simp
def P8(l:List UInt8)(s:ByteArray):(⟨l.toArray⟩:ByteArray)++s=⟨(l++s.data.toList).toArray⟩:=by
 apply ByteArray.ext;rw[a2b];apply Array.ext';simp
def Dg(s:ByteArray)(w:World)(A:s.size<=300) :
  Ds 153 #[s] w (.string ⟨(leS 5 (iz s.size)++s.data.toList).toArray⟩):=by
 have E:(s.size:Int)<=300:=by omega
 have B:=af (AD w 268);have m:Hid (Below w.heap.size w (w.alloc (.cells #[.slice none 0 0,.int .i64 0,.int .i64 0] 268))):=cC;have q:=af A;clear A;go_enter func153,ntmps153;go_wp2_with fail;apply(qV _ 0 0 1 1 _ B (by omega) (by omega) (by omega) (by omega) (by omega)).mono;rintro e x1⟨rfl,r,d⟩;go_wp2_with fail;apply(qV _ _ _ 0 2 _ r (by omega) (by omega) (by omega) (by omega) (by omega)).mono;rintro e x2⟨rfl,h2,f⟩;have a:Out x2 w.heap.size 1 3:=h2;clear r h2;go_wp2_with fail;apply(mD _ _ _ _ a (by omega)).mono;rintro e x3⟨rfl,t,g⟩;have b:Out x3 w.heap.size 1 8:=t;have n:=af ((m.trans d).trans (f.trans g));clear a t d f g;go_wp2_with fail;apply(qV _ _ _ (s.size:Int) 16 _ b (by omega) (by omega) (by omega) (by omega) (by omega)).mono;rintro e x4⟨rfl,u,h⟩;clear b;go_wp2_with fail;apply(qV _ _ _ (65535-(s.size:Int)) 16 _ u (by omega) (by omega) (by omega) (by omega) (by omega)).mono;rintro e x5⟨rfl,x,i⟩;have z:1+((s.size:Int).toNat%p2 (16:Int).toNat*p2 8)+((65535-(s.size:Int)).toNat%p2 (16:Int).toNat*p2 (8+(16:Int).toNat))=iz s.size:=by
  have e16:p2 (16:Int).toNat=65536:=by decide
  have e8:p2 8=256:=by decide
  have e24:p2 (8+(16:Int).toNat)=16777216:=by decide
  rw[e16,e8,e24];unfold iz;have:=ae q;rw[a0o,show(65535-(s.size:Int)).toNat=65535-s.size by omega,a1e (by omega),a1e (by omega)]
 have l:Out x5 w.heap.size (iz s.size) 40:=by rw[←z];exact x
 obtain⟨_,v,T,Y⟩:=l;have j:=lW Y;have o:=af (n.trans (h.trans i));obtain⟨k0,F,G,f0,f1,f2,D⟩:=T;have k:leS (40/8) (iz s.size)=leS 5 (iz s.size):=rfl;rw[k]at j;have p:=af (P8 (leS 5 (iz s.size)) s);clear u x z h i Y F G k;have c:=az 5 (iz s.size);generalize y:leS 5 (iz s.size)=P at j p c;have HP:=af y;have C:¬ 9223372036854775807<P.length+s.size:=by have:=ae q;omega
 clear y c;go_wp2;go_ret;exact⟨by rw[ae HP,←ae p];rfl,o⟩
def lh(k:Int)(w:World) :
  Calls prog 135 #[k] w fun e w'=>e = .returned (.slice w.heap.size 2 2)/\w'=w.alloc (.cells #[.int .i64 1,.int .i64 1,k,.int .i64 2] 159):=by
 go_enter func135,ntmps135;go_wp2;go_ret;exact⟨rfl,rfl⟩
def Rj(w:World)(a b c d e f:Value)(t:TypeId)(g:Nat)(i:w.heap.size=g):∀(j:Nat) (u:Value),[a,b,c,d,e,f][j]?=some u->(w.alloc (.cells #[a,b,c,d,e,f] t)).cell? ((⟨g,0,none⟩:Addr).add j)=some u:=by
 subst i;intro j u h
 match j,h with
 | 0,h=>simp at h;subst h;simp[Addr.add]
 | 1,h=>simp at h;subst h;simp[Addr.add]
 | 2,h=>simp at h;subst h;simp[Addr.add]
 | 3,h=>simp at h;subst h;simp[Addr.add]
 | 4,h=>simp at h;subst h;simp[Addr.add]
 | 5,h=>simp at h;subst h;simp[Addr.add]
def Ri(a b c d e f:Int):∀u∈[Value.int .i64 a,.int .i64 b,.int .i64 c,.int .i64 d,.int .i64 e,.int .i64 f],u.oneCell'=true:=by
 intro u g;simp at g;rcases g with rfl|rfl|rfl|rfl|rfl|rfl<;>rfl
def Pf(s:ByteArray)(i:Nat)(h:i<s.size):s.data.toList.take (i+1)=s.data.toList.take i++[s[i]]:=by
 have a:=lO s;rw[List.take_add_one,List.getElem?_eq_getElem (by omega)];simp;rfl
def BC(m:List UInt8)(b:UInt8):bS m++[((b.toNat:Int),(8:Int))]=bS (m++[b]):=by simp[bS]
def Jm(s:ByteArray)(w:World):∃(c:Nat) (x:World) (cs:Array Value) (f:Nat×Nat),(convert 9 22 (.string s)).run prog w = .ok (.slice w.heap.size s.size c) x/\Below w.heap.size w x/\x.heap[w.heap.size]?=some (.cells cs 5 f)/\∀i (h:i<s.size),cs[i]?=some (.int .u8 (s[i].toNat:Int)):=by
 refine⟨_,_,bytesRow s (grownCap w s.size 0 5),((bytesRow s (grownCap w s.size 0 5)).size,(bytesRow s (grownCap w s.size 0 5)).size+1),run_bytes_of_string w _ _ _ s a16 a0X a15,?_,?_,?_⟩
 . exact((a0c _ w).drew).alloc (by simp) _
 . exact Array.getElem?_push_size
 . intro i h;exact bytesRow_at s (grownCap w s.size 0 5) i h
def OO{i:Nat}{a:Array Value}{t:TypeId}{f:Nat×Nat}{v:Value}(h:w.heap[b]?=some (.cells a t f))(c:a[i]?=some v):w.cell? ⟨b,i,none⟩=some v:=by
 unfold World.cell?;rw[h];exact c
def xA(s:ByteArray)(w:World)(U:s.size<=300) :
  Ds 104 #[s] w (.string ⟨(leS 5 (iz s.size)++s.data.toList).toArray⟩):=by
 obtain⟨i0,C,H,I,J⟩:=a0s Tryz.infoPiece;have ab:(s.size:Int)<=300:=by omega
 have hI:¬ (300:Int)<(s.size:Int):=by omega
 obtain⟨N,hN⟩:∃N:Nat,65535-s.size=N:=⟨_,rfl⟩;have hx:bits .xor .i64 (s.size:Int) 65535=(N:Int):=by
  have:=nr s.size 65535 (by omega) (by omega);rw[PE s.size U,hN]at this;exact this
 have HH:Hid (fi s.size=[(1,1),(0,2)]++[(0,5),((s.size:Int),16),((N:Int),16)]):=by show _=_;unfold fi;rw[hN];rfl
 have P:Hid ((w.alloc (.cells #[.int .i64 1,.int .i64 1,.int .i64 0,.int .i64 2] 159)).ownsRow w.heap.size 159 2 (.slice w.heap.size 2 2) 2 [.int .i64 1,.int .i64 1,.int .i64 0,.int .i64 2]):=a0S w #[.int .i64 1,.int .i64 1,.int .i64 0,.int .i64 2] 2 (a0a _) (by unfold maxLen;omega) rfl;have K:Hid (Below w.heap.size w (w.alloc (.cells #[.int .i64 1,.int .i64 1,.int .i64 0,.int .i64 2] 159))):=cC;have E:=af (yV s.data.toList (by rw[lO];exact U));have O:=af (lO s);have bd:Hid (2+3<=maxLen/\(2+3)*16<=140737488355328):=by show _/\_;unfold maxLen;omega
 clear U hN;go_enter func104,ntmps104;go_wp2_with fail;apply(lh 0 w).mono;rintro e x1⟨rfl,r⟩;have x:=af (show x1.ownsRow w.heap.size 159 2 (.slice w.heap.size 2 2) 2 [.int .i64 1,.int .i64 1,.int .i64 0,.int .i64 2] by rw[r];exact P);have u:=af (show Below w.heap.size w x1 by rw[r];exact K);have n:=u.size;clear r;go_wp2_with (at_builtin;refine a0w _ rfl _ _ 156 rfl w.heap.size 159 i0 (.agg #[.int .i64 0,.int .i64 0]) 2 16 a1x C H I J rfl (by decide) (.slice w.heap.size 2 2) _ _ rfl (a0n x _) ⟨x1.heap.size,0,none⟩ 3 3 [.int .i64 0,.int .i64 5,.int .i64 (s.size:Nat),.int .i64 16,.int .i64 (N:Nat),.int .i64 16] rfl rfl (Rj _ _ _ _ _ _ _ _ _ rfl) (Ri _ _ _ _ _ _) bd.1 bd.2 (au n _) ?_;intro v' x2 c a f;clear f;obtain⟨c3,x3,cs,fz,R,o,B,A⟩:=Jm s x2);have j:Below w.heap.size w x2:=aJ (v:=.slice w.heap.size 2 2) a x (a0a _) n u;have g:Pcs x2 w.heap.size v' (fi s.size):=by rw[ae HH];exact c
 have F:=af (g.later o (a0a _));have L:=af (aj j o);have M:Hid (∀W,bG 5 x3 W->∀i (C:i<s.size),W.cell? ⟨x2.heap.size,i,none⟩=some (.int .u8 (s[i].toNat:Int))):=fun W h i C=>OO (h _ _ _ B) (A i C);generalize x2.heap.size=G at *;obtain⟨va,vc,rfl⟩:=F.form;have S:Hid ((fi s.size).length=5):=rfl;clear c a j g R o A B
 go_loopw [4,6,23] (fun v _ i wr=>∃k:Nat,k<=s.size/\i = .int .i64 k/\Pcs wr w.heap.size v (fi s.size++bS (s.data.toList.take k))/\bG 5 x3 wr/\Below w.heap.size w wr) (fun _ _ i _=>s.size-(intOf i).toNat)
 case atStart=>exact⟨0,a0g _,rfl,by simpa[bS]using ae F,bG.refl _ _,L⟩
 case round=>
  obtain⟨k,hk,rfl,hq,l,d⟩:=hrel;have b:Hid ((fi s.size++bS (s.data.toList.take k)).length=5+k):=by
   show _=_;rw[a0j,ae S,lV,a0v,ae O];omega
  obtain⟨Y,Z,rfl⟩:=hq.formN b;by_cases p:k<s.size
  .
   have aa:(k:Int)<(s.size:Int):=(by omega);have Q:=ae M wr l k p;have X:(s[k].toNat:Int)<256:=by have:=a2u s[k];omega
   have V:Hid (fi s.size++bS (s.data.toList.take k)++[((s[k].toNat:Int),(8:Int))]=fi s.size++bS (s.data.toList.take (k+1))):=by show _=_;rw[a0K,BC,Pf s k p]
   have t:Hid (5+k+1<=maxLen/\(5+k+1)*16<=140737488355328):=by show _/\_;unfold maxLen;omega
   have q:=af (hq.own b);have z:=d.size;have m:=af (a0b d l);clear hq d l;go_wp2_with (at_builtin;refine a0w _ rfl _ _ 156 rfl w.heap.size 159 i0 (.agg #[.int .i64 0,.int .i64 0]) 2 16 a1x C H I J rfl (by decide) (.slice Y (5+k) Z) _ _ rfl (a0n q _) ⟨wr.heap.size,0,none⟩ 1 1 [.int .i64 (s[k].toNat:Int),.int .i64 8] rfl rfl (uF _ _ _ _) (uE _ _) t.1 t.2 (au z _) ?_;intro v' y2 c a f;clear f);have j:=aJ (v:=.slice Y (5+k) Z) a q (a0a _) z m.1;have g:=KT b c;rw[ae V]at g;have D:=(m.2.alloc (.cells #[.int .i64 (s[k].toNat:Int),.int .i64 8] 159)).grown (a0n q _) (by decide) a;clear c a;go_wp2;go_roundw
   case rel=>exact⟨k+1,by omega,by go_num,g,D,j⟩
   case measure=>simp[intOf];omega
  .
   obtain rfl:k=s.size:=by omega
   have y:Hid (s.data.toList.take s.size=s.data.toList):=a0u (by rw[ae O];exact a0a _);rw[ae y]at hq b;have T:Hid (oR (fi s.size++bS s.data.toList)=leS 5 (iz s.size)++s.data.toList):=by have:=ae E;rw[ae O]at this;exact this
   have HP:=af (gG Y Z (fi s.size++bS s.data.toList) wr (hq.rowN b) (by rw[ae b];omega));rw[ae b,ae T]at HP;clear hq hk p l;go_wp2_with fail;apply HP.mono;rintro e y1⟨rfl,hy⟩;go_wp2;go_ret;exact⟨rfl,aj d hy⟩
def r9(s:ByteArray)(w:World)(b:s.size<=1048576) :
  Ds 104 #[s] w (.string ⟨(gm s.data.toList).toArray⟩):=by
 by_cases a:s.size<=300
 .
  have e:gm s.data.toList=leS 5 (iz s.size)++s.data.toList:=by unfold gm;rw[lO,a0d a]
  rw[e];exact xA s w a
 .
  have c:(300:Int)<(s.size:Int):=by omega
  have e:gm s.data.toList=[]:=by unfold gm;rw[lO,a0e a]
  rw[e];clear b a e;go_enter func104,ntmps104;go_wp2;go_ret;exact⟨rfl,a0c _ _⟩
def js(w:World)(b:Nat)(s:ByteArray)(p:Nat):Prop:=Three w b (.string s) (.int .i64 (min p (8*s.size):Nat)) (.bool true)
def js.before(h:js w b s p)(a:p<8*s.size):Three w b (.string s) (.int .i64 (p:Int)) (.bool true):=by
 unfold js at h;rwa[a1w (by omega)]at h
def js.next(h:Three w b (.string s) (.int .i64 ((p:Int)+1)) (.bool true))(a:p<8*s.size):js w b s (p+1):=by
 unfold js;rwa[a1w (by omega)]
def js.past(h:js w b s p)(a:8*s.size<=p):Three w b (.string s) (.int .i64 (8*s.size:Nat)) (.bool true):=by
 unfold js at h;rwa[a3E (by omega)]at h
def js.bad(h:Three w b (.string s) (.int .i64 (8*s.size:Nat)) (.bool true))(a:8*s.size<=p):js w b s (p+1):=by
 unfold js;rwa[a3E (by omega)]
def js.at(h:js w b s p)(a:p<=8*s.size):Three w b (.string s) (.int .i64 (p:Int)) (.bool true):=by
 unfold js at h;rwa[a1w (by omega)]at h
attribute [local go_sem ↓] Go.wp_at_zero Go.wp_at_succ
def uM(b p:Nat)(s:ByteArray)(w:World)(h:js w b s p)(r:s.size<=2000000) :
  Calls prog 212 #[.pointer b] w fun e w'=>e = .returned (.int .i64 (ak s/2 ^ p%2:Nat))/\js w' b s (p+1)/\aw b w w':=by
 have u:(s.size:Int)<=2000000:=by omega
 by_cases g:p<8*s.size
 .
  have d:=h.before g;have hq:p/8<s.size:=by omega
  have hb:=wo s p hq;generalize m:ak s/2 ^ p%2=N at *;have l:=af g;have t:(p:Int)<8*(s.size:Int):=by omega
  have j:p2 (p%8)<=128:=qT (p%8) 7 (by omega);have i:=mr (p%8);have a:=af d;obtain⟨c0,c1,c2,f0,f1,f2,n⟩:=d;have c:(s[p/8]).toNat/p2 (p%8)%2=N:=hb;clear h m hb;obtain⟨Q,hQ⟩:∃Q,p/8=Q:=⟨_,rfl⟩;obtain⟨R,hR⟩:∃R,p%8=R:=⟨_,rfl⟩;simp only[hQ,hR]at c j i hq;have o:=(s[Q]).toNat_lt;generalize f:p2 R=PW at *;have k:=af (fun W=>Q9 R PW W (by omega) f);have e1:IntKind.i64.wrap (Q:Int)=(Q:Int):=bP _ (by omega) (by omega);have e2:(p:Int)/8=(Q:Int):=by omega
  have e3:(p:Int)%8=(R:Int):=by omega
  have e4:Int.tmod (p:Int) 8=(R:Int):=by rw[a13 (by omega)];exact e3
  have e5:(Q:Int)<(s.size:Int):=by omega
  have e6:(0:Int)<=(Q:Int):=by omega
  have q:(s[Q]).toNat/PW<=(s[Q]).toNat:=a10 _ _;have e7:((s[Q]).toNat:Int)/(PW:Int)=(((s[Q]).toNat/PW:Nat):Int):=by simp
  have e0:(0:Int)<=((s[Q]).toNat:Int)/(PW:Int)/\((s[Q]).toNat:Int)/(PW:Int)<=255:=by rw[e7];exact⟨a3F _,by omega⟩
  have e8:IntKind.i64.wrap (((s[Q]).toNat:Int)/(PW:Int))=((s[Q]).toNat:Int)/(PW:Int):=bP _ (by omega) (by omega);have e10:((s[Q]).toNat:Int)/(PW:Int)%2=(N:Int):=by rw[e7];exact_mod_cast c
  have e9:Int.tmod (((s[Q]).toNat:Int)/(PW:Int)) 2=(N:Int):=by rw[a13 e0.1];exact e10
  have e14:IntKind.i64.wrap ((s[Q]).toNat:Int)=((s[Q]).toNat:Int):=bP _ (by omega) (by omega);have e12:¬ PW=0:=by omega
  clear r g hQ hR f c q o j i e7 e0;go_enter a3G,a3H;go_wp2
  go_quiet (fail)
  go_wp2
  go_region_held3 (fun W=>W.cell? ⟨b,0,none⟩=some (.string s)/\W.cell? ⟨b,1,none⟩=some (.int .i64 (p:Int))) (first|exact⟨c0,c1⟩|assumption) (first|(go_at_call 217;apply(k _).mono;rintro e w'⟨rfl,rfl⟩))
  all_goals
   go_wp2;go_ret;exact⟨rfl,js.next (by exact a.set1 _) l,jX _ _ _ _ _⟩
 .
  have d:=h.past (by omega);have a:=af d;have l:=af g;have m:=af (oD s p (by omega));obtain⟨c0,c1,c2,f0,f1,f2,n⟩:=d;rw[a1C]at c1;clear h g r;go_enter a3G,a3H;go_wp2
  go_quiet (fail)
  go_wp2;go_ret;exact⟨aK (by rw[ae m];rfl),js.bad (a.set2 _) (by have:=ae l;omega),jX _ _ _ _ _⟩
def Fj(b p c:Nat)(s:ByteArray)(w:World)(h:js w b s p)(A:s.size<=2000000)(u:c<=16) :
  Calls prog 213 #[.pointer b,.int .i64 (c:Int)] w fun e w'=>e = .returned (.int .i64 (ak s/2 ^ p%2 ^ c:Nat))/\js w' b s (p+c)/\aw b w w':=by
 have D:=af A;have F:(c:Int)<=16:=by omega
 have B:=af u;clear A u;go_enter func213,ntmps213;go_wp2_with fail
 go_loopw [5,6] (fun n i wr=>∃k:Nat,k<=c/\i = .int .i64 k/\n = .int .i64 (ak s/2 ^ p%2 ^ k:Nat)/\js wr b s (p+k)/\aw b w wr) (fun _ i _=>c-(intOf i).toNat)
 case atStart=>exact⟨0,a0g _,rfl,by simp[a1p],h,aw.refl _ _⟩
 case round=>
  obtain⟨k,v,rfl,rfl,q,d⟩:=hrel;clear h;have C:=af v;by_cases H:k<c
  .
   have G:(k:Int)<(c:Int):=(by omega);have a:k<=16:=by have:=ae B;omega
   have t:Hid (ak s/2 ^ p%2 ^ (k+1)=ak s/2 ^ p%2 ^ k+ak s/2 ^ (p+k)%2*p2 k):=qQ (ak s) p k;have m:=N0 (ak s) p k a;have I:ak s/2 ^ (p+k)%2<=1:=(by omega);have o:=uC k a;have f:=af (uM b (p+k) s wr q D);have j:=af (fun W=>Q9 k (p2 k) W (by omega) rfl);generalize ak s/2 ^ p%2 ^ k=n,ak s/2 ^ (p+k)%2=x,p2 k=PW at *;have g:x*PW<=65536:=by rcases (show x=0∨x=1 by omega)with e|e<;>subst e<;>omega
   have e1:IntKind.i64.wrap ((x:Int)*(PW:Int))=((x*PW:Nat):Int):=by rw[←a1C];exact bP _ (by omega) (by omega)
   have e1':((x:Int)*(PW:Int))=((x*PW:Nat):Int):=(by rw[←a1C]);have z:(n:Int)<65536:=(by omega);have y:((x*PW:Nat):Int)<=65536:=(by omega);generalize E:x*PW=M at *;clear E a I o m g v q;go_wp2_with fail;apply f.mono;rintro e x1⟨rfl,r,l⟩;go_wp2_with fail;apply(j _).mono;rintro e x2⟨rfl,rfl⟩;go_wp2;go_roundw
   case rel=>exact⟨k+1,by omega,by go_num,by rw[ae t];go_num,r,d.trans l⟩
   case measure=>simp[intOf];omega
  .
   obtain rfl:k=c:=by have:=ae C;omega
   go_wp2;go_ret;exact⟨rfl,q,d⟩
def zy(b p:Nat)(s:ByteArray)(w:World)(h:js w b s p)(J:s.size<=2000000)(T:p<=8*s.size) :
  Calls prog 183 #[.pointer b] w fun e w'=>e = .returned (.bool (decide (ak s/2 ^ p%2 ^ ((8-p%8)%8)=0)))/\js w' b s (p+(8-p%8)%8)/\aw b w w':=by
 have N:=af J;have E:(8-p%8)%8<=7:=by omega
 have F:(p+(8-p%8)%8)%8=0:=by omega
 have y:p+(8-p%8)%8<=8*s.size:=by omega
 have f:∀j,j<(8-p%8)%8->(p+j)%8≠0:=by omega
 have V:(s.size:Int)<=2000000:=by omega
 generalize (8-p%8)%8=c at *;have B:=af y;clear J T y;go_enter func183,ntmps183;go_wp2_with fail
 go_loopw [3] (fun n wr=>∃k m:Nat,k<=c/\n = .int .i64 (m:Nat)/\m<=k/\(m=0<->ak s/2 ^ p%2 ^ k=0)/\js wr b s (p+k)/\aw b w wr) (fun _ wr=>c+p-(match wr.cell? ⟨b,1,none⟩with|some (.int _ i)=>i.toNat|_=>0))
 case atStart=>exact⟨0,0,a0g _,rfl,a0a _,by simp[a1p],h,aw.refl _ _⟩
 case round=>
  obtain⟨k,m,I,rfl,v,u,z,d⟩:=hrel;clear h;have P:=z.at (by have:=ae B;omega);obtain⟨c0,c1,c2,f0,f1,f2,Q⟩:=P;have M:=af I;have r:=af u;have U:((p+k:Nat):Int)<=16000000:=by have:=ae B;omega
  clear u;by_cases g:k<c
  .
   have S:¬ ((p+k:Nat):Int)%8=0:=by have:=f k g;omega
   have G:=af (rest_step (ak s) p k);have K:ak s/2 ^ (p+k)%2<=1:=(by omega);have t:=af (uM b (p+k) s wr z N);generalize ak s/2 ^ (p+k)%2=x at *;have W:(x:Int)<=1:=(by omega);have R:(m:Int)<=7:=(by omega);have L:=af K;have A:=af v;have q:=af g;have C:=af (show p+k<8*s.size by have:=ae B;omega);clear f K I v g z F E;generalize a:p+k=pk at *;have o:=af a;clear a;go_wp2_with fail;apply t.mono;rintro e x1⟨rfl,l,D⟩;go_wp2;go_roundw
   case rel=>exact⟨k+1,m+x,q,by go_num,by have:=ae A;have:=ae L;omega,by rw[ae G,←ae r];omega,by rw[←ae o]at l;exact l,d.trans D⟩
   case measure=>
    have O:=(l.at (by have:=ae C;omega)).2.1;rw[O,c1];have:=ae o;have:=ae q;simp;omega
  .
   obtain rfl:k=c:=by have:=ae M;omega
   have X:((p+k:Nat):Int)%8=0:=(by omega);generalize a:p+k=pk at *;go_wp2;go_ret;refine⟨am ?_,by rw[a];exact z,d⟩;rw[show decide (ak s/2 ^ p%2 ^ k=0)=decide (m=0)from decide_eq_decide.2 r.symm];rcases a2l m with H|H
   . subst H;rfl
   . rw[a0m (by omega)];first|(exact a0m (by omega))|(exact beq_false_of_ne (by omega))|(exact(by omega:False).elim)
end Go.Proofs.YtckocaibjciplaaGreatDoor
namespace Go.Proofs.YtckocaibjciplaaGreatDoor
open Go.Proofs.Tryz
open Corb
variable {l:List Int}{s:List UInt8}
def bitsOf(l:List (Int×Int)):List Int:=l.map (·.2)
def numsOf(l:List (Int×Int)):List Int:=l.map (·.1)
def Ee(V p q:Nat)(l:List Int):ep V (p+q) l=ep (V/2 ^ p) q l:=by
 induction l generalizing q with
 | nil=>rfl
 | cons b l ih=>
  simp only[ep];rw[a1Y,←a0T,←ih,a19]
def KV(l:List (Int×Int))(W:Nat)(h:aY l=true):ep ((aU l).1+W*2 ^ (aU l).2) 0 (bitsOf l)=numsOf l:=by
 induction l generalizing W with
 | nil=>rfl
 | cons p l ih=>
  have a:pOk p.1 p.2=true/\aY l=true:=by simpa[aY]using h
  obtain⟨⟨d,e⟩,n0,n1⟩:=aS.1 a.1;have e1:aU [p]=(p.1.toNat,p.2.toNat):=by simp[aU,nF,iR]
  have e2:aU (p :: l)=(p.1.toNat+(aU l).1*2 ^ p.2.toNat,p.2.toNat+(aU l).2):=by
   rw[show p :: l=[p]++l from rfl,kR,e1]
  have b:p.1.toNat<2 ^ p.2.toNat:=by
   have:((p2 p.2.toNat:Nat):Int)=((2 ^ p.2.toNat:Nat):Int):=rfl;omega
  have c:(aU (p :: l)).1+W*2 ^ (aU (p :: l)).2=p.1.toNat+((aU l).1+W*2 ^ (aU l).2)*2 ^ p.2.toNat:=by
   rw[e2];simp only;rw[a0T,a1z,a19]
   congr 2
   rw[a1h (2 ^ p.2.toNat),a1O]
  rw[c];show((((p.1.toNat+((aU l).1+W*2 ^ (aU l).2)*2 ^ p.2.toNat)/2 ^ 0%2 ^ p.2.toNat:Nat):Int)) :: ep _ (0+p.2.toNat) (bitsOf l)=p.1 :: numsOf l;rw[Nat.pow_zero,Nat.div_one,Nat.add_mul_mod_self_right,a1e b];rw[show 0+p.2.toNat=p.2.toNat+0 by omega,Ee,Nat.add_mul_div_right _ _ (a1n _),a1Z b,a0H,ih W a.2]
  congr 1
  omega
def Lf{l:List (Int×Int)}(h:aY l=true):gE (bitsOf l)=(aU l).2:=by
 have b:=sV l h;have h2:(gE (bitsOf l):Int)=cf l:=by
  clear b;induction l with
  | nil=>rfl
  | cons p l ih=>
   have a:pOk p.1 p.2=true/\aY l=true:=by simpa[aY]using h
   obtain⟨⟨c,d⟩,_⟩:=aS.1 a.1;have:=ih a.2;simp only[bitsOf,a0D,cf,a0N]at this ⊢;rw[lP];omega
 omega
def Pw{l:List (Int×Int)}(h:lOk l=true):cR (oR l)=(aU l).1:=by
 have a:aY l=true:=by simp only[lOk,a0l]at h;exact h.1
 rw[dQ h,cB,xg,a1e];exact a0h (A9 l a) (a0P (by omega) (by omega))
open Go.RowKit
def vp(a:Option Addr)(cap n:Nat)(l:List (Int×Int))(w:World)(c:l.length=n)(h:pj w a l)(b:n<=1000000000) :
  Ds 124 #[.slice a n cap] w (.int .i64 (oY l)):=by
 subst c;exact iL a cap l w h b
def Cq(h:fg l=false∨4000<l.length):kH s l=false/\Cp s l=[]:=by
 have a:kH s l=false:=by
  unfold kH;rcases h with h|h
  . simp[h]
  . simp;omega
 exact⟨a,a0e (by simp[a])⟩
def Na(h:fg l=true)(a:l.length<=4000):kH s l=(decide (s.length=(gE l+7)/8)&&decide (cR s<2 ^ gE l)):=by
 simp[kH,h,a]
def Qt(h:kH s l=false):Cp s l=[]:=a0e (by simp[h])
def M9(h:kH s l=true):Cp s l=ep (cR s) 0 l:=a0d h
def qX{v:Value}{a b:Bool}(h:a=b):Ending.returned (.tuple #[v,.bool a]) = .returned (.tuple #[v,.bool b]):=by rw[h]
def blank(l:List Int):List (Int×Int):=l.map fun b=>(0,b)
def oc(l:List Int):(blank l).length=l.length:=by simp[blank]
def KH(b:Int):pOk 0 b=inB b 0 16:=by
 rw[a2g,aS,aI];have:=mr b.toNat
 constructor
 . exact fun h=>h.1
 . exact fun h=>⟨h,by omega,by omega⟩
def Mm(l:List Int):aY (blank l)=fg l:=by
 simp only[aY,fg,blank,List.all_map]
 congr 1
 funext b
 exact KH b
def Jc(l:List Int)(h:fg l=true):cf (blank l)=(gE l:Int):=by
 induction l with
 | nil=>rfl
 | cons b l ih=>
  have a:(0<=b/\b<=16)/\fg l=true:=by simpa[fg]using h
  have:=ih a.2;simp only[cf,blank,a0D,a0N]at this ⊢;rw[lP,this];omega
def Fp(l:List Int)(a:l.length<=4000):oY (blank l)=if fg l=true then(gE l:Int)else -1:=by
 unfold oY lOk;rw[Mm,oc];rcases hb:fg l with _|_
 . simp
 . simp[a,Jc l hb]
def Fq(l:List Int)(b:Int):blank (l++[b])=blank l++[(0,b)]:=by simp[blank]
def Jb(l:List Int)(k:Nat)(h:k<l.length):(blank l).getD k (0,0)=(0,l.getD k 0):=by
 simp[blank,List.getD,h]
def Bu(b:Int)(w:World) :
  Ds 123 #[b] w (.agg #[.int .i64 0,b]):=by
 go_enter func123,ntmps123;go_wp2;exact a0x (v:=.agg #[.int .i64 0,b]) (by simp[results,results123,go_sem]) rfl ⟨rfl,cC⟩
def Js(a:Option Addr)(cap:Nat)(l:List Int)(w:World)(h:br w a l)(G:l.length<=4000) :
  Calls prog 122 #[.slice a l.length cap,.func (.func 123) #[] #[]] w fun e w'=>∃v,e = .returned v/\Pcs w' w.heap.size v (blank l)/\Below w.heap.size w w':=by
 have F:=af G;have L:(l.length:Int)<=4000:=by omega
 clear G;obtain⟨i0,M,C,D,E⟩:=a0s Tryz.infoPiece;go_enter func122,ntmps122;go_wp2_with fail
 go_loopw [5,7,10] (fun o _ i wr=>∃k:Nat,k<=l.length/\i = .int .i64 k/\Pcs wr w.heap.size o (blank (l.take k))/\Below w.heap.size w wr) (fun _ _ i _=>l.length-(intOf i).toNat)
 case atStart=>exact⟨0,a0g _,rfl,a1c _ _ _ _,a0c _ _⟩
 case round=>
  obtain⟨k,I,rfl,hq,b⟩:=hrel;by_cases t:k<l.length
  .
   obtain⟨g,o,rfl,N,H⟩:=(h.later b) (by omega);have c0:=H k t;have B:=af (cz l k t);have s:Hid ((blank (l.take k)).length=k):=by show(blank (l.take k)).length=k;rw[oc];simp;omega
   have K:=af I;clear H I h;generalize l.getD k 0=y at *;go_wp2_with fail;apply(Bu y _).mono;rintro e x1⟨rfl,n⟩;have q:=Pcs.later hq n (a0a _);have c:=aj b n;have r:=c.size;clear hq b n;go_wp2_with (at_builtin;refine a0w _ rfl _ _ 156 rfl w.heap.size 159 i0 (.agg #[.int .i64 0,.int .i64 0]) 2 16 a1x M C D E rfl (by decide) _ _ _ rfl (a0n q _) ⟨x1.heap.size,0,none⟩ 1 1 [.int .i64 0,.int .i64 y] rfl rfl (by intro j u p;match j,p with | 0,p=>simp at p;subst p;simp[Addr.add] | 1,p=>simp at p;subst p;simp[Addr.add]) (by intro u J;simp at J;rcases J with rfl|rfl<;>rfl) (by have:=ae s;have:=ae F;unfold maxLen;omega) (by have:=ae s;have:=ae F;omega) (by simp;omega) ?_;intro v' x2 m d x;clear x);have A:=aJ (v:=u5) d q (a0a _) r c;have z:=nK m;rw[←Fq,←ae B]at z;clear m d q;go_wp2;go_roundw
   case rel=>exact⟨k+1,by have:=ae K;omega,by go_num,z,A⟩
   case measure=>simp[intOf];omega
  . have f:l.take k=l:=a0u (by omega);rw[f]at hq;obtain⟨va,vc,rfl⟩:=hq.form;clear f h;go_wp2;go_ret;exact⟨_,rfl,hq,b⟩
def Kv(a:Addr)(w:World):(method 480 162 (.pointer (some a)) "loop.example/corbel/impl.pass").run prog w = .ok (258,.pointer (some a)) w:=by kernel_rfl
def Ju(b:Nat)(s:ByteArray)(a:Option Addr)(cap:Nat)(l:List Int)(w:World)(h:pj w a (blank l))(hbo:fg l=true)(h4:l.length<=4000)(hs:s.size<=2000000)(hr:Rdr w b s 0)(hb:∀g o,a=some ⟨g,o,none⟩->0<l.length->g<b) :
  Calls prog 157 #[.slice a l.length cap,.func (.method "loop.example/corbel/impl.pass") #[.iface 162 (.pointer b)] #[]] w fun e w'=>
   ∃v,e = .returned v/\an w' (b+1) v (ep (ak s) 0 l)/\Rdr w' b s (gE l)/\Below b w w':=by
 have Hbo:=af hbo;have H4:=af h4;have Hs:=af hs;have h4':(l.length:Int)<=4000:=by omega
 have hbl:=oc l;clear hbo h4 hs;obtain⟨i0,hi,hz0,hz1,hz2⟩:=a0s Tryz.infoInt;have mp:=Kv ⟨b,0,none⟩;have Hb:=af hb;clear hb;go_enter func157,ntmps157;go_wp2_with fail
 go_loopw [5,7,10] (fun o _ i wr=>∃k:Nat,k<=l.length/\i = .int .i64 k/\an wr (b+1) o (ep (ak s) 0 (l.take k))/\Rdr wr b s (gE (l.take k))/\Below b w wr) (fun _ _ i _=>l.length-(intOf i).toNat)
 case atStart=>exact⟨0,a0g _,rfl,an.nil _ _,hr,a0c _ _⟩
 case round=>
  obtain⟨k,hk,rfl,hown,hrr,hbel⟩:=hrel;have hrl:=hrr.lt;by_cases hlt:k<l.length
  .
   obtain⟨g,o,rfl,hg,hc⟩:=h (by omega);have hgb:=ae Hb g o rfl (by omega);have hck:=hc k (by omega);rw[Jb l k hlt]at hck;have c0:=(hbel.cell (p:=⟨g,o+k*2,none⟩) hgb).trans hck.1;have c1:=(hbel.cell (p:=⟨g,o+k*2+1,none⟩) hgb).trans hck.2;have htk:=af (cz l k hlt);have hrd:=af (AO (ak s) 0 (l.take k) [l.getD k 0]);have hsu:=af (tM (l.take k) [l.getD k 0]);have hlk:Hid ((ep (ak s) 0 (l.take k)).length=k):=by show(ep (ak s) 0 (l.take k)).length=k;rw[yP];simp;omega
   obtain⟨y0,y1⟩:=Fo Hbo k hlt;have HK:=af hk;clear hc hk h hr hck hbl;generalize l.getD k 0=y at *;obtain⟨c,rfl⟩:=a0p y0;go_wp2_with fail;apply(wI b (gE (l.take k)) c 0 s _ (hrr.alloc _) Hs (by omega)).mono;rintro e x1⟨rfl,hr1,hk1⟩;have hown1:an x1 (b+1) u5 (ep (ak s) 0 (l.take k)):=hk1.own (a0n hown _) (a0i _);have hbel1:=(hbel.alloc (a0r hrl) (.cells #[.int .i64 0,.int .i64 (c:Int)] 159)).trans hk1.1;have hr1l:=hr1.lt;generalize hX:ak s/2 ^ gE (l.take k)%2 ^ c=X at *;have HX:=af hX;clear hX hown hrr hbel hk1;go_wp2_with (at_builtin;refine a0w _ rfl _ _ 122 rfl (b+1) 3 i0 (.int .i64 0) 1 8 a0F hi hz0 hz1 hz2 rfl (by decide) _ _ _ rfl (a0n hown1 _) ⟨x1.heap.size,0,none⟩ 1 1 [.int .i64 (X:Int)] rfl rfl (by intro j u hj;match j,hj with | 0,hj=>simp at hj;subst hj;simp[Addr.add]) (by intro u hu;simp at hu;subst hu;rfl) (by have:=ae hlk;have:=ae H4;unfold maxLen;omega) (by have:=ae hlk;have:=ae H4;omega) (by simp;omega) ?_;intro v' x3 hown hgrow hnil;clear hnil);have hr3:Rdr x3 b s (gE (l.take k)+c):=hr1.kept (aJ (v:=u5) hgrow hown1 (a0a _) (by omega) (a0c _ _));have hbel3:Below b w x3:=aJ (v:=u5) hgrow hown1 (a05 _) (by omega) hbel1;have hown3:=ox hown;clear hown hgrow hown1 hr1 hbel1;go_wp2;go_roundw
   case rel=>
    refine⟨k+1,by have:=ae HK;omega,by go_num,?_,?_,hbel3⟩
    . rw[ae htk,ae hrd];simp only[ep,a0H,a0o];rw[ae HX];exact hown3
    . rw[ae htk,ae hsu];simp only[gE,a0D,a1E,a0N,a3g,a0o,a1b];exact hr3
   case measure=>simp[intOf];omega
  . have hlk2:l.take k=l:=a0u (by omega);rw[hlk2]at hown hrr;obtain⟨va,vc,rfl⟩:=hown.form;clear hlk2 h hr;go_wp2;go_ret;exact⟨_,rfl,hown,hrr,hbel⟩
def Lx(b:Nat)(s:ByteArray)(a:Option Addr)(cap:Nat)(l:List Int)(w:World)(h:pj w a (blank l))(f:fg l=true)(j:l.length<=4000)(m:s.size<=2000000)(k:Rdr w b s 0)(hb:∀g o,a=some ⟨g,o,none⟩->0<l.length->g<b) :
  Calls prog 125 #[.iface 162 (.pointer b),.slice a l.length cap] w fun e w'=>
   ∃v,e = .returned v/\an w' (b+1) v (ep (ak s) 0 l)/\Rdr w' b s (gE l)/\Below b w w':=by
 go_enter func125,ntmps125;go_wp2_with fail;apply(Ju b s a cap l _ h f j m k hb).mono;rintro e w1⟨v,rfl,c,i,d⟩;obtain⟨va,vc,rfl⟩:=c.form;go_wp2;go_ret;exact⟨_,rfl,c,i,d⟩
def ue(s:ByteArray)(a:Option Addr)(cap:Nat)(l:List Int)(w:World)(h:br w a l)(hs:s.size<=2000000)(hl:l.length<=2000000) :
  Calls prog 91 #[s,.slice a l.length cap] w fun e w'=>∃v,e = .returned (.tuple #[v,.bool (kH s.data.toList l)])/\an w' w.heap.size v (Cp s.data.toList l)/\Below w.heap.size w w':=by
 have ac:(l.length:Int)<=2000000:=by omega
 have Y:=af hs;clear hs hl;by_cases S:l.length<=4000
 .
  have V:(l.length:Int)<=4000:=by omega
  have G:=af S;have C:=af (Fp l S);have j:=af (oc l);go_enter func91,ntmps91;go_wp2_with fail;apply(Js a cap l _ h G).mono;rintro e x1⟨v,rfl,hq,J⟩;obtain⟨va,vc,rfl⟩:=hq.formN j;have u:=hq.rowN j;clear h S;go_wp2_with fail;refine(vp va vc l.length (blank l) _ j u (by have:=ae G;omega)).mono ?_;rintro e x2⟨rfl,A⟩;rw[ae C];have O:=hq.later A (a0a _);have d:=O.rowN j;have c:=aj J A;have Q:=af c.size;clear u J A hq;rcases k:fg l with _|_
  .
   have b:=af (Cq (s:=s.data.toList) (a0I k));rw[a0e (by simp)];go_wp2
   go_ret2
   refine⟨_,qX b.1.symm,?_,c⟩;rw[b.2];exact an.nil _ _
  .
   have U:=af k;have n:=af (Na (s:=s.data.toList) k G);have P:s.data.toList.length=s.size:=(by simp);have X:=Rr k;have hS:(gE l:Int)<=64000:=by have:=ae G;omega
   have aa:(0:Int)<=(gE l:Int):=(by omega);have r:=af (GI s.data.toList (gE l));rw[P]at n r;rw[a0d rfl];have x:=af (M9 (s:=s.data.toList) (l:=l));have t:=af (Qt (s:=s.data.toList) (l:=l));have Z:cR s.data.toList=ak s:=rfl;rw[Z]at n r x;clear k X P Z;generalize hm:gE l=m at *;have Hm:=af hm;clear hm;by_cases he:(s.size:Int)=((m:Int)+7)/8
   .
    have L:s.size=(m+7)/8:=(by omega);have I:=Rb x2 s 164;have z:Below x2.heap.size x2 (x2.alloc (.cells #[s,.int .i64 0,.bool false] 164)):=cC;have q:=d.later z;have M:∀g o,va=some ⟨g,o,none⟩->0<l.length->g<x2.heap.size:=by
     intro g o e h0;obtain⟨g',o',e',ab,_⟩:=d (by rw[ae j];exact h0);rw[e]at e';simp only[a0k,a0A,a0Q]at e';omega
    have R:=af L;have HG:=af M;clear L M d;go_wp2_with fail;apply(Lx x2.heap.size s va vc l _ q U G Y I HG).mono;rintro e x3⟨v,rfl,p,E,K⟩;have f:=aj c (z.trans K);rw[ae Hm]at E;clear I z q K c O;obtain⟨va',vc',rfl⟩:=p.form;go_wp2_with fail;refine(tI x2.heap.size m s _ E Y (by have:=ae R;omega)).mono ?_;rintro e x4⟨rfl,W,B⟩;have D:=B.own p (a0i _);have i:=f.trans (B.1.mono Q);clear p E W B f;by_cases F:ak s/2 ^ m%2 ^ ((8-m%8)%8)=0
    .
     rw[a0B F];have N:kH s.data.toList l=true:=by
      rw[ae n,a0B (ae R),a0B ((r (ae R)).1 F)];rfl
     have H:=af N;clear N F;go_wp2
     go_ret2
     refine⟨_,qX H.symm,?_,i⟩;rw[ae x (ae H)];exact an.mono D (Nat.le_succ_of_le Q)
    .
     rw[a0m F];have b:kH s.data.toList l=false:=by
      rw[ae n,a0m (fun h=>F ((r (ae R)).2 h))];simp
     have y:=af b;have T:=af (ae t b);clear b F;go_wp2
     go_ret2
     refine⟨_,qX y.symm,?_,i⟩;rw[ae T];exact an.nil _ _
   .
    have b:kH s.data.toList l=false:=by
     rw[ae n,a0m (by omega)];rfl
    have ad:((s.size:Int) != ((m:Int)+7)/8)=true:=by simpa using he
    have y:=af b;have T:=af (ae t b);clear b;go_wp2
    go_ret2
    refine⟨_,qX y.symm,?_,c⟩;rw[ae T];exact an.nil _ _
 .
  have b:=af (Cq (s:=s.data.toList) (l:=l) (Or.inr (by omega)));have V:4000<(l.length:Int):=by omega
  clear S;go_enter func91,ntmps91;go_wp2
  go_ret2
  refine⟨_,qX b.1.symm,?_,a0c _ _⟩;rw[b.2];exact an.nil _ _
