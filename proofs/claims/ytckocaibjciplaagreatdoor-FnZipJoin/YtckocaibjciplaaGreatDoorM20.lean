/- Texts. -/
import Derived.Test.YtckocaibjciplaaGreatDoorM9
import Derived.Test.YtckocaibjciplaaGreatDoorM4
set_option linter.all false
set_option maxRecDepth 100000
set_option maxHeartbeats 6400000
namespace Go.Proofs.YtckocaibjciplaaGreatDoor
open Go.Proofs.Tryz
open Go.RowKit Corb
variable {P V b c crc g how i j k lg m o pk st:Nat}{W w w':World}{l:List UInt8}{nm:ByteArray}{v v1:Value}{x y:Int}{xs:List Int}
def Bys(w:World)(b:Nat)(v:Value)(l:List UInt8):Prop:=w.ownsRow (b+1) 5 1 v l.length (dc l)
def Bys.form(h:Bys w b v l):∃a cap,v = .slice a l.length cap:=by
 rcases h.2 with⟨e,c⟩|⟨g,cap,_,e,_⟩
 . exact⟨none,0,by rw[e,c]⟩
 . exact⟨_,cap,e⟩
def Bys.set(h:Bys w b v l)(u:Value):Bys (w.setCell ⟨b,o,none⟩ u) b v l:=
 a3N h (a:=⟨b,o,none⟩) (a0h b) u
def Bys.drew(h:Bys w b v l):Bys w.drew b v l:=h
def Out(w:World)(b V m:Nat):Prop:=
 V<p2 m/\∃v,Three w b v (.int .i64 (V/p2 (8*(m/8)):Nat)) (.int .i64 (m%8:Nat))/\Bys w b v (leS (m/8) V)
def Cm(V m x:Nat)(a:V<p2 m)(b:x<=1)(c:m%8<7) :
  V+x*p2 m<p2 (m+1)/\(V+x*p2 m)/p2 (8*((m+1)/8))=V/p2 (8*(m/8))+x*p2 (m%8)/\leS ((m+1)/8) (V+x*p2 m)=leS (m/8) V:=by
 refine⟨add_lt V x m a b,?_,?_⟩
 . rw[show(m+1)/8=m/8 by omega];have:=yH V x m (m/8) (by omega);rw[show m-8*(m/8)=m%8 by omega]at this;exact this
 . rw[show(m+1)/8=m/8 by omega];exact tC (m/8) V x m (by omega)
def Cl(V m x:Nat)(e:V<p2 m)(f:x<=1)(g:m%8=7) :
  V+x*p2 m<p2 (m+1)/\(V+x*p2 m)/p2 (8*((m+1)/8))=0/\(m+1)%8=0 /\
   leS ((m+1)/8) (V+x*p2 m)=leS (m/8) V++[UInt8.ofNat (V/p2 (8*(m/8))+x*p2 (m%8))]:=by
 have b:=add_lt V x m e f;refine⟨b,?_,by omega,?_⟩
 .
  apply a1U;have:p2 (8*((m+1)/8))=2 ^ (m+1):=by unfold p2;rw[show 8*((m+1)/8)=m+1 by omega]
  rw[this];exact b
 . rw[show(m+1)/8=m/8+1 by omega];have a:=tC (m/8) V x m (by omega);have d:=yH V x m (m/8) (by omega);rw[show m-8*(m/8)=m%8 by omega]at d;have c:=yX (V+x*2 ^ m) (m+1) (m/8) b (by omega);rw[show m+1-8*(m/8)=8 by omega]at c;show leS (m/8) (V+x*2 ^ m)++[UInt8.ofNat ((V+x*2 ^ m)/2 ^ (8*(m/8))%256)]=_;rw[a1d c,a,d];rfl
def tB(V m:Nat)(a:V<p2 m):V/p2 (8*(m/8))<p2 (m%8):=by
 have:=yX V m (m/8) a (by omega);rw[show m-8*(m/8)=m%8 by omega]at this;exact this
def pD(k:Nat)(h:k<256):(UInt8.ofNat k).toNat=k:=by
 have:k%256=k:=a1d h;simp[this]
def vH{W2 WA:World}{v' v2:Value}{x:UInt8}(T2:Three W2 b v v1 v2)(Y2:Bys W2 b v l)(j:Below b w W2)
  (d:Below (b+1) W2 WA) (a:w'.ownsRow (b+1) 5 1 v' (l.length+1) (dc l++[.int .u8 (x.toNat:Int)])) (c:WA.grownBy w' v.ownBlock) :
  (∃g cap,v' = .slice (some ⟨g,0,none⟩) (l.length+1) cap)/\Three w' b v v1 v2/\Bys w' b v' (l++[x])/\Below b w w':=by
 have h:=T2.2.2.2.2.2.2;have i:=a0l h d.size;have f:∀k,v.ownBlock=some k->b+1<=k:=fun k m=>(Y2.lt k m).1;have hb:Below (b+1) W2 w':=d.grown c (by omega) f;refine⟨?_,T2.kept hb,?_,j.trans (hb.mono (by omega))⟩
 .
  rcases a.2 with⟨_,n⟩|⟨g,cap,_,e,_⟩
  . omega
  . exact⟨g,cap,e⟩
 . show w'.ownsRow (b+1) 5 1 v' (l++[x]).length (dc (l++[x]));simpa[dc]using a
def M9(n k:Nat):n%p2 (k+1)=n%p2 k+n/p2 k%2*p2 k:=BS n k
def zv(V n k m:Nat):V+n%p2 (k+1)*p2 m=V+n%p2 k*p2 m+n/p2 k%2*p2 (m+k):=by
 rw[M9,a1H,a1J,show p2 k*p2 m=p2 (m+k) by unfold p2;rw[←a0S,a2X]];omega
def AZ(n k:Nat):n/p2 k/2=n/p2 (k+1):=lG n k
def qi(b V m:Nat)(num bits:Int)(w:World)(h:Out w b V m)(n0:0<=num)(n1:num<65536)(b0:0<=bits)(b1:bits<=16)(hm:m<=100000) :
  Calls prog 184 #[.pointer b,num,bits] w fun e w'=>e = .returned (.tuple #[]) /\
   Out w' b (V+num.toNat%p2 bits.toNat*p2 m) (m+bits.toNat)/\Below b w w':=by
 obtain⟨n,rfl⟩:=a0p n0;obtain⟨c,rfl⟩:=a0p b0;rw[a0o,a0o];obtain⟨i0,hi,a9,ba,bb⟩:=a0r Tryz.infoU8;go_enter func184,ntmps184;go_wp2
 go_loopw [1,6] (fun x i wr=>∃k:Nat,k<=c/\i = .int .i64 k/\x = .int .i64 (n/p2 k:Nat)/\Out wr b (V+n%p2 k*p2 m) (m+k)/\Below b w wr) (fun _ i _=>c-(intOf i).toNat)
 case atStart=>exact⟨0,a0g _,rfl,by simp[p2],by simpa[p2,a1n]using h,a0c _ _⟩
 case round=>
  obtain⟨k,hk,rfl,rfl,z,a⟩:=hrel;by_cases b5:k<c
  .
   have B:=af (zv V n k m);have g:=af (AZ n k);have a6:n/p2 k<=n:=a1X _ _;obtain⟨hV,v,s,G⟩:=z;obtain⟨sa,scap,rfl⟩:=G.form;have a5:=tB (V+n%p2 k*p2 m) (m+k) hV;generalize V+n%p2 k*p2 m=V1 at *
   generalize W:m+k=m1 at *
   have hx:n/p2 k%2<=1:=by omega
   have ad:((n/p2 k:Nat):Int)%2=((n/p2 k%2:Nat):Int):=by omega
   have bd:((n/p2 k:Nat):Int)<65536:=by omega
   have a7:p2 (m1%8)<=128:=qg (m1%8) 7 (by omega);have O:n/p2 k%2*p2 (m1%8)<=1*p2 (m1%8):=a2l _ hx;have y:((n/p2 k%2:Nat):Int)*((p2 (m1%8):Nat):Int)=((n/p2 k%2*p2 (m1%8):Nat):Int):=by simp
   have q:=Cm V1 m1 (n/p2 k%2) hV hx;have d:=Cl V1 m1 (n/p2 k%2) hV hx;have ab:m1%8<8:=a0Y _ (by omega);have l:m1<=100016:=by omega
   have Q:(leS (m1/8) V1).length=m1/8:=az _ _;generalize n/p2 k=nk at *
   generalize a8:nk%2=x at *
   generalize a1:V1/p2 (8*(m1/8))=L at *
   generalize ac:m1%8=r at *
   generalize N:p2 r=P at *
   generalize a2:x*P=X at *
   have ao:=af N;have K:=af W;have a0:=af ac;have E:=af q;have C:=af d;clear W a1 ac N a2 hV q d a8 hx a6;obtain⟨k0,H,I,f0,f1,f2,F⟩:=s;have s:Hid (Three wr b _ _ _):=⟨k0,H,I,f0,f1,f2,F⟩;have b6:(r:Int)<8:=by omega
   have bl:(L:Int)<128:=by omega
   have bs:(X:Int)<=128:=by omega
   have S:(k:Int)<(c:Int):=by omega
   have bk:=af ab;have D:=af l;have Hk:=af hk;have al:Hid (IntKind.i64.wrap ((L:Int)+IntKind.i64.wrap ((nk:Int).tmod 2*(P:Int)))=(L:Int)+(X:Int)):=by
    show IntKind.i64.wrap ((L:Int)+IntKind.i64.wrap ((nk:Int).tmod 2*(P:Int)))=(L:Int)+(X:Int);rw[a10 (by omega),ad,y,bK (X:Int) (by omega) (by omega),bK ((L:Int)+(X:Int)) (by omega) (by omega)]
   clear ab l a7 O a5 hk hm;go_wp2_with fail;go_cut[]from 7 to 62 (fun wc=>wc=(wr.setCell ⟨b,1,none⟩ (.int .i64 ((L:Int)+(X:Int)))).drew)
   case first=>
    go_region_with (go_at_call 217;refine(fF _ _ (by omega)).mono ?_;rintro e w'⟨rfl,rfl⟩;rw[a0o,ae ao])
    all_goals
     go_wp2_with fail
     go_meet
     exact by rw[ae al]
   case rest=>
    have T1:=(s.set1 (.int .i64 ((L:Int)+(X:Int)))).drew;have Y1:=(G.set (o:=1) (.int .i64 ((L:Int)+(X:Int)))).drew;have B1:Below b w _:=(ai a (o:=1) (a0a _) (.int .i64 ((L:Int)+(X:Int)))).drew;rw[←hcut]at T1 Y1 B1;clear hcut G a s k0 H I f0 f1 f2 F y ad;have T1':=af T1;obtain⟨k0,H,I,f0,f1,f2,F⟩:=T1;by_cases aa:(r:Int)=7
    .
     have A:r=7:=by omega
     obtain⟨o1,o2,o3,o4⟩:=ae C A;have O1:=af o1;have O2:=af o2;have O3:=af o3;have O4:=af o4;have M:L+X<256:=by omega
     have a4:=af (pD (L+X) M);have b4:IntKind.u8.wrap ((L:Int)+(X:Int))=(L:Int)+(X:Int):=by
      rw[IntKind.wrap_u8'];omega
     subst A;clear o1 o2 o3 o4 aa M;have T2:=T1'.set2 (.int .i64 8);have Y2:=Y1.set (o:=2) (.int .i64 8);have B2:Below b w _:=ai B1 (o:=2) (a0a _) (.int .i64 8);have U:=af Q;clear Q;go_wp2_with fail;generalize wc.setCell ⟨b,2,none⟩ (.int .i64 8)=W2 at *
     clear k0 H I f0 f1 f2 T1' Y1 B1;have T2':=af T2;obtain⟨k0,H,I,f0,f1,f2,a3⟩:=T2;have R:Hid (((UInt8.ofNat (L+X)).toNat:Int)=(L:Int)+(X:Int)):=by
      show((UInt8.ofNat (L+X)).toNat:Int)=(L:Int)+(X:Int);rw[ae a4];omega
     have T:(leS (m1/8) V1).length<=20000:=by have:=ae U;have:=ae D;omega
     have J:=af T;clear T;go_cut[]from 7 to 62 (fun wc2=>∃v',Three wc2 b v' (.int .i64 ((L:Int)+(X:Int))) (.int .i64 8)/\Bys wc2 b v' (leS (m1/8) V1++[UInt8.ofNat (L+X)])/\Below b w wc2)
     case first=>
      go_region_law (refine aP rfl (.tmp 47) (.tmp 53) 22 rfl (b+1) 5 i0 (.int .u8 0) 1 1 a0X hi a9 ba bb rfl (by decide) _ _ _ (by simp[Act.eval]) (Y2.alloc _) ⟨W2.heap.size,0,none⟩ 1 1 [.int .u8 ((L:Int)+(X:Int))] (by simp[Act.eval]) rfl (by intro j u hj;match j,hj with | 0,hj=>simp at hj;subst hj;simp[Addr.add]) (by intro u hu;simp at hu;subst hu;rfl) (by have:=ae J;unfold maxLen;omega) (by have:=ae J;omega) (by simp;omega) ?_;intro v' w' p f Z;clear Z;rw[←ae R]at p;obtain⟨⟨g',bc,rfl⟩,T3,Y3,B3⟩:=vH T2' Y2 B2 (by first|exact(a0c _ _).alloc (by omega) _|exact((a0c _ _).alloc (by omega) _).drew) p f;clear p f;have T3':=af T3;obtain⟨q0,q1,q2,e0,e1,e2,b2⟩:=T3)
      all_goals
       go_wp2_with fail
       go_meet
       exact⟨_,T3'.set0 _,Y3.set _,ai B3 (a0a _) _⟩
     case rest=>
      obtain⟨v',T4,Y4,B4⟩:=hcut;clear k0 H I f0 f1 f2 T2' Y2 B2 a3;obtain⟨va,vc,rfl⟩:=Y4.form;have T4':=af T4;obtain⟨k0,H,I,f0,f1,f2,b3⟩:=T4;go_wp2;go_roundw
      case rel=>
       refine⟨k+1,by have:=ae Hk;omega,by go_num,by rw[←ae g];go_num,?_,ai (ai B4 (a0a _) _) (a0a _) _⟩;rw[ae B,show m+(k+1)=m1+1 by have:=ae K;omega];refine⟨O1,.slice va (leS (m1/8) V1++[UInt8.ofNat (L+X)]).length vc,?_,?_⟩
       . rw[ae O2,ae O3];exact(T4'.set1 _).set2 _
       . rw[ae O4];exact(Y4.set _).set _
      case measure=>simp[intOf];omega
    .
     have be:((r:Int)+1 == 8)=false:=by simp;omega
     have t:r<7:=by omega
     obtain⟨o1,o2,o3⟩:=ae E t;have O1:=af o1;have O2:=af o2;have O3:=af o3;have Y:Hid ((m1+1)%8=r+1):=by show(m1+1)%8=r+1;have:=ae a0;omega
     clear o1 o2 o3 t aa;go_wp2;go_roundw
     case rel=>
      refine⟨k+1,by have:=ae Hk;omega,by go_num,by rw[←ae g];go_num,?_,ai B1 (a0a _) _⟩;rw[ae B,show m+(k+1)=m1+1 by have:=ae K;omega];refine⟨O1,.slice sa (leS (m1/8) V1).length scap,?_,?_⟩
      . rw[ae O2,ae Y];exact T1'.set2 _
      . rw[ae O3];exact Y1.set _
     case measure=>simp[intOf];omega
  .
   have S:k=c:=by omega
   subst S;go_wp2
   go_end0
   exact⟨rfl,z,a⟩
def mU(l:List (Int×Int)):List (Nat×Nat):=l.map (fun p=>(p.1.toNat,p.2.toNat))
def aU(l:List (Int×Int)):Nat×Nat:=iD (0,0) (mU l)
def cq(l:List (Int×Int)):List UInt8:=leS (((aU l).2+7)/8) (aU l).1
def oj(l:List (Int×Int)):List UInt8:=if lOk l=true then cq l else []
def dJ{l:List (Int×Int)}(h:lOk l=true):oj l=cq l:=a0d h
def PP{l:List (Int×Int)}(h:lOk l=false):oj l=[]:=a0e (by simp[h])
def J6(l:List (Int×Int))(k:Nat)(h:k<l.length):aU (l.take (k+1)) =
  ((aU (l.take k)).1+(l.getD k (0,0)).1.toNat*p2 (aU (l.take k)).2,(aU (l.take k)).2+(l.getD k (0,0)).2.toNat):=by
 rw[a1e h,aU,mU,a0J,mZ];simp only[a0C,a1L,iD];have e:l.getD k (0,0)=l[k]:=by simp[List.getD,h]
 rw[e];rfl
def rS(l:List (Int×Int))(h:aY l=true):((aU l).2:Int)=bX l:=by
 have key:∀(m:List (Int×Int)) (s:Nat×Nat),aY m=true->((iD s (mU m)).2:Int)=(s.2:Int)+bX m:=by
  intro m;induction m with
  | nil=>intro s _;simp[mU,iD,bX]
  | cons p m ih=>
   intro s a;simp only[aY,a17,a0k]at a;have b:=aR.1 a.1;have:=ih (s.1+p.1.toNat*2 ^ s.2,s.2+p.2.toNat) a.2;simp only[mU,a0C,iD]at this ⊢;rw[this];simp only[bX,a0C,a0P];omega
 have:=key l (0,0) h;simpa[aU]using this
def zL(l:List (Int×Int))(h:aY l=true):(aU l).1<p2 (aU l).2:=by
 have key:∀(m:List (Int×Int)) (s:Nat×Nat),s.1<p2 s.2->aY m=true->(iD s (mU m)).1<p2 (iD s (mU m)).2:=by
  intro m;induction m with
  | nil=>intro s b _;exact b
  | cons p m ih=>
   intro s b a;simp only[aY,a17,a0k]at a;have d:=aR.1 a.1;have c:p.1.toNat<p2 p.2.toNat:=by omega
   exact ih _ (M0 s.1 s.2 p.1.toNat p.2.toNat b c) a.2
 exact key l (0,0) (by decide) h
def zr(w:World)(t:TypeId):Out (w.alloc (.cells #[.slice none 0 0,.int .i64 0,.int .i64 0] t)) w.heap.size 0 0:=by
 refine⟨by decide,.slice none 0 0,⟨by simp,by simp,by simp,by simp,by simp,by simp,by simp⟩,?_⟩;exact a1a _ _ _ _
def GG{a b:List UInt8}(h:a=b):Ending.returned (.string ⟨a.toArray⟩) = .returned (.string ⟨b.toArray⟩):=by rw[h]
def lF(h:Bys w b v l) :
  (convert 22 9 v).run prog w = .ok (.string ⟨l.toArray⟩) w:=by
 rcases h.2 with⟨e,a⟩|⟨g,cap,_,e,_⟩
 . subst e;have d:l=[]:=a2p a;subst d;rw[run_convert_bytes_string w _ _ _ none 0 0 a0X a14 a15];rfl
 .
  subst e;exact a27 w _ _ _ ⟨g,0,none⟩ cap l a0X a14 a15 (fun j c=>by
   have:=h.cells (g:=g) rfl j (.int .u8 (l[j].toNat:Int)) (by simp[dc,c]);exact this)
def oF.below{a:Option Addr}{l:List (Int×Int)}{B:Nat}(h:oF w a l)(b:w.heap.size<=B)(hb:Below B w w'):oF w' a l:=h.later (hb.mono b)
def Two.kept{v0:Value}(h:Two w b v0 v1)(hb:Below (b+1) w w'):Two w' b v0 v1:=by
 obtain⟨c0,c1,f0,f1,c⟩:=h;have a:=a0h b;exact⟨(hb.cell (p:=⟨b,0,none⟩) a).trans c0,(hb.cell (p:=⟨b,1,none⟩) a).trans c1,(hb.frozen (p:=⟨b,0,none⟩) a).trans f0,(hb.frozen (p:=⟨b,1,none⟩) a).trans f1,a0l c hb.size⟩
def kW(w:World)(b V m:Nat):Prop:=
 V<p2 m/\∃v,Two w b v (.int .i64 (m:Int))/\Bys w b v (leS ((m+7)/8) V)
def M4{W2 WA:World}{v':Value}{x:UInt8}(T2:Two W2 b v v1)(Y2:Bys W2 b v l)(j:Below b w W2)
  (d:Below (b+1) W2 WA) (a:w'.ownsRow (b+1) 5 1 v' (l.length+1) (dc l++[.int .u8 (x.toNat:Int)])) (c:WA.grownBy w' v.ownBlock) :
  (∃g cap,v' = .slice (some ⟨g,0,none⟩) (l.length+1) cap)/\Two w' b v v1/\Bys w' b v' (l++[x])/\Below b w w':=by
 have h:=T2.2.2.2.2;have i:=a0l h d.size;have f:∀k,v.ownBlock=some k->b+1<=k:=fun k m=>(Y2.lt k m).1;have hb:Below (b+1) W2 w':=d.grown c (by omega) f;refine⟨?_,T2.kept hb,?_,j.trans (hb.mono (by omega))⟩
 .
  rcases a.2 with⟨_,n⟩|⟨g,cap,_,e,_⟩
  . omega
  . exact⟨g,cap,e⟩
 . show w'.ownsRow (b+1) 5 1 v' (l++[x]).length (dc (l++[x]));simpa[dc]using a
def Bys.at{cap:Nat}(h:Bys w b (.slice g l.length cap) l)(a:j<l.length) :
  w.cell? ⟨g,j,none⟩=some (.int .u8 ((l.getD j 0).toNat:Int))/\w.frozen? ⟨g,j,none⟩=false/\b<g:=by
 refine⟨?_,a3H h j,(a0z h g rfl).1⟩;rw[a1g h j (by omega)];simp[dc,a,List.getD]
def Bys.put{cap:Nat}(h:Bys w b (.slice g l.length cap) l)(x:UInt8) :
  Bys (w.setCell ⟨g,j,none⟩ (.int .u8 (x.toNat:Int))) b (.slice g l.length cap) (l.set j x):=by
 have:=a26 h j (.int .u8 (x.toNat:Int));show World.ownsRow _ _ _ _ _ (l.set j x).length (dc (l.set j x));rw[a13];have e:dc (l.set j x)=(dc l).set j (.int .u8 (x.toNat:Int)):=by simp[dc,List.map_set]
 rw[e];exact this.1
def Sg(V m x:Nat)(a:V<p2 m)(b:x<=1) :
  V+x*p2 m<p2 (m+1)/\leS ((m+1+7)/8) (V+x*p2 m)=(leS (m/8+1) V).set (m/8) (UInt8.ofNat (V/p2 (8*(m/8))+x*p2 (m%8))):=by
 refine⟨add_lt V x m a b,?_⟩;rw[show(m+1+7)/8=m/8+1 by omega];exact Pm (m/8) V x m rfl b a
def Sf(V m:Nat)(a:V<p2 m)(b:m%8=0):leS ((m+7)/8) V++[0]=leS (m/8+1) V:=by
 rw[show(m+7)/8=m/8 by omega];exact(Pl (m/8) V (by rw[show 8*(m/8)=m by omega];exact a)).symm
def Sb(V m:Nat)(a:m%8≠0):leS ((m+7)/8) V=leS (m/8+1) V:=by
 rw[show(m+7)/8=m/8+1 by omega]
def RY(V m:Nat)(a:V<p2 m):((leS (m/8+1) V).getD (m/8) 0).toNat=V/p2 (8*(m/8)):=by
 rw[Gr _ _ _ (by omega)];have b:=tB V m a;have h2:=qg (m%8) 7 (by omega);have c:p2 7=128:=rfl;have e:V/2 ^ (8*(m/8))%256=V/p2 (8*(m/8)):=a1d (by show V/p2 (8*(m/8))<256;omega);rw[e,pD _ (by omega)]
def Box(w:World)(P:Nat)(x y:Int):Prop:=w.heap[P]?=some (.cells #[x,y] 159)
def Ow(w:World)(x y:Int):Box (w.alloc (.cells #[x,y] 159)) w.heap.size x y:=by
 show(w.heap.push _)[w.heap.size]?=_;simp
def Box.cells(h:Box w P x y):w.cell? ⟨P,0,none⟩=some (.int .i64 x)/\w.cell? ⟨P,1,none⟩=some (.int .i64 y)/\P<w.heap.size:=by
 refine⟨by simp[World.cell?,show w.heap[P]?=_ from h],by simp[World.cell?,show w.heap[P]?=_ from h],?_⟩;have a:w.heap[P]?=some _:=h;exact(Array.getElem?_eq_some_iff.1 a).1
def Box.ne(h:Box w P x y)(i:Bys w b v l)(k:Nat)(a:v.ownBlock=some k):k≠P:=by
 rintro rfl;rcases i.2 with⟨e,_⟩|⟨g,cap,d,e,_,c,_⟩
 . subst e;simp[Value.ownBlock]at a
 . subst e;simp only[Value.ownBlock,a0j]at a;subst a;have f:w.heap[g]?=some (.cells #[x,y] 159):=h;rw[f]at c;simp at c
def Box.set(h:Box w P x y)(hb:b≠P)(u:Value):Box (w.setCell ⟨b,o,none⟩ u) P x y:=by
 show(w.setCell ⟨b,o,none⟩ u).heap[P]?=_;rw[a0N w ⟨b,o,none⟩ u P (fun e=>hb e.symm)];exact h
def Box.drew(h:Box w P x y):Box w.drew P x y:=h
def Box.alloc(h:Box w P x y)(o:Obj):Box (w.alloc o) P x y:=by
 show(w.alloc o).heap[P]?=_;rw[a1i w o P h.cells.2.2];exact h
def Box.grown(h:Box w P x y)(c:Bys w b v l)(a:w.grownBy w' v.ownBlock):Box w' P x y:=by
 show w'.heap[P]?=_;rw[a.block P h.cells.2.2 (fun e=>h.ne c P e.symm rfl)];exact h
def bZ(b:Nat)(w w':World):Prop:=w.heap.size<=w'.heap.size/\∀k,k<w.heap.size->k≠b->(∀cur fr,w.heap[k]?≠some (.cells cur 5 fr))->w'.heap[k]?=w.heap[k]?
def bZ.refl(b:Nat)(w:World):bZ b w w:=⟨a0a _,fun _ _ _ _=>rfl⟩
def bZ.trans{w1 w2:World}(h:bZ b w w1)(k:bZ b w1 w2):bZ b w w2:=
 ⟨a0E h.1 k.1,fun j c hb d=>by
  have e:=h.2 j c hb d;rw[k.2 j (a0l c h.1) hb (fun a fr=>by rw[e];exact d a fr),e]⟩
def bZ.drew(h:bZ b w w'):bZ b w w'.drew:=h
def bZ.alloc(h:bZ b w w')(o:Obj):bZ b w (w'.alloc o):=
 h.trans ⟨by simp,fun j a _ _=>a1i w' o j a⟩
def bZ.set(h:bZ b w w')(u:Value):bZ b w (w'.setCell ⟨b,o,none⟩ u):=
 h.trans ⟨by simp,fun j _ hb _=>a0N w' ⟨b,o,none⟩ u j hb⟩
def bZ.setRow{cap:Nat}(h:bZ b w w')(m:Bys w' c (.slice g l.length cap) l)(u:Value):bZ b w (w'.setCell ⟨g,j,none⟩ u):=by
 refine h.trans ⟨by simp,fun k _ _ i=>?_⟩;by_cases e:k=g
 .
  subst e;rcases m.2 with⟨e,_⟩|⟨g',d,a,e,_,f,_⟩
  . simp at e
  . simp only[a0L,a0j,a0A,a0O,a1t]at e;obtain⟨rfl,_⟩:=e;exact absurd f (i a (0,0))
 . exact a0N w' ⟨g,j,none⟩ u k e
def bZ.grown{w'':World}(h:bZ b w w')(m:Bys w' c v l)(g:w'.grownBy w'' v.ownBlock):bZ b w w'':=by
 refine h.trans ⟨g.size,fun k i _ j=>?_⟩;refine g.block k i (fun e=>?_);rcases m.2 with⟨e',_⟩|⟨g',f,a,e',_,d,_⟩
 . subst e';simp[Value.ownBlock]at e
 . subst e';simp only[Value.ownBlock,a0j]at e;subst e;exact j a (0,0) d
def FY(B X r:Nat)(a:B<p2 r)(e:r<8)(b:X=0∨X=p2 r):bits .or .u8 (B:Int) (X:Int)=((B+X:Nat):Int):=by
 have d:=qg r 7 (by omega);have c:p2 7=128:=rfl;rw[u8_or_nat B X (by omega) (by omega)]
 congr 1
 rw[Nat.or_comm];rcases b with rfl|rfl
 . simp
 . rw[nat_join r (p2 r) B (by unfold p2;simp) a];omega
def Two.other{v0:Value}(h:Two w b v0 v1)(a:g≠b)(u:Value):Two (w.setCell ⟨g,o,none⟩ u) b v0 v1:=by
 obtain⟨c0,c1,f0,f1,hb⟩:=h;refine⟨?_,?_,by simpa using f0,by simpa using f1,by simpa using hb⟩
 . rw[World.cell?_setCell_other _ _ _ _ (by simp only[ne_eq,a0A];omega)];exact c0
 . rw[World.cell?_setCell_other _ _ _ _ (by simp only[ne_eq,a0A];omega)];exact c1
def yj{wr:World}{cap V1 m1 x L X:Nat}{p q:Int}(j:Two wr b (.slice g (leS (m1/8+1) V1).length cap) (.int .i64 (m1:Int)))
  (a:Bys (wr.setCell ⟨g,m1/8,none⟩ (.int .u8 ((UInt8.ofNat (L+X)).toNat:Int))) b (.slice g (leS (m1/8+1) V1).length cap) ((leS (m1/8+1) V1).set (m1/8) (UInt8.ofNat (L+X))))
  (k:V1+x*p2 m1<p2 (m1+1)) (l:leS ((m1+1+7)/8) (V1+x*p2 m1)=(leS (m1/8+1) V1).set (m1/8) (UInt8.ofNat (L+X)))
  (h:(UInt8.ofNat (L+X)).toNat=L+X) (o:b<g) (n:g≠P) (m:P≠b) (d:Box wr P p q) (c:Below b w wr) (f:Bys wr b (.slice g (leS (m1/8+1) V1).length cap) (leS (m1/8+1) V1)) (i:bZ b w wr) :
  kW ((wr.setCell ⟨g,m1/8,none⟩ (.int .u8 ((L:Int)+(X:Int)))).setCell ⟨b,1,none⟩ (.int .i64 ((m1:Int)+1))).drew b (V1+x*p2 m1) (m1+1) /\
  Box ((wr.setCell ⟨g,m1/8,none⟩ (.int .u8 ((L:Int)+(X:Int)))).setCell ⟨b,1,none⟩ (.int .i64 ((m1:Int)+1))).drew P p q /\
  Below b w ((wr.setCell ⟨g,m1/8,none⟩ (.int .u8 ((L:Int)+(X:Int)))).setCell ⟨b,1,none⟩ (.int .i64 ((m1:Int)+1))).drew /\
  bZ b w ((wr.setCell ⟨g,m1/8,none⟩ (.int .u8 ((L:Int)+(X:Int)))).setCell ⟨b,1,none⟩ (.int .i64 ((m1:Int)+1))).drew:=by
 have e:((UInt8.ofNat (L+X)).toNat:Int)=(L:Int)+(X:Int):=by rw[h];omega
 rw[e]at a;refine⟨⟨k,.slice g (leS (m1/8+1) V1).length cap,?_,?_⟩,?_,?_,?_⟩
 . exact((j.other (by omega) _).set1 _).drew
 . rw[l];exact(a.set _).drew
 . exact((d.set (by omega) _).set (by omega) _).drew
 . exact(ai (ai c (by omega) _) (a0a _) _).drew
 . exact((i.setRow f _).set _).drew
def MX(b V m:Nat)(num bits:Int)(w:World)(h:kW w b V m)(hp:pOk num bits=true)(hm:m<=100000) :
  Calls prog 315 #[.pointer b,.agg #[num,bits]] w fun e w'=>e = .returned (.int .i64 num) /\
   kW w' b (V+num.toNat*p2 m) (m+bits.toNat)/\Below b w w'/\bZ b w w':=by
 obtain⟨⟨b0,b1⟩,n0,n1⟩:=aR.1 hp;have hq:=(Fw bits b1).2;obtain⟨n,rfl⟩:=a0p n0;obtain⟨c,rfl⟩:=a0p b0;rw[a0o,a0o];rw[a0o]at n1 hq;have Z:Hid (n%p2 c=n):=a1d (by omega);have cv:(n:Int)<65536:=by omega
 obtain⟨i0,hi,b9,ca,cc⟩:=a0r Tryz.infoU8;have cu:b<w.heap.size:=by obtain⟨_,v,ht,_⟩:=h;exact ht.2.2.2.2
 have C:=Ow w (n:Int) (c:Int);have h0:kW (w.alloc (.cells #[.int .i64 (n:Int),.int .i64 (c:Int)] 159)) b V m:=by
  obtain⟨W,v,ht,hy⟩:=h;exact⟨W,v,ht.kept ((a0c _ _).alloc (by omega) _),a0n hy _⟩
 have A:Below b w (w.alloc (.cells #[.int .i64 (n:Int),.int .i64 (c:Int)] 159)):=(a0c _ _).alloc (by omega) _;clear n1 hq h hp;go_enter func315,ntmps315;go_wp2_with fail
 go_loopw [5,8] (fun _ i wr=>∃k:Nat,k<=c/\i = .int .i64 k/\kW wr b (V+n%p2 k*p2 m) (m+k)/\Box wr w.heap.size n c/\Below b w wr/\bZ b w wr) (fun _ i _=>c-(intOf i).toNat)
 case atStart=>exact⟨0,a0g _,rfl,by simpa[p2,a1n]using h0,C,A,(bZ.refl _ _).alloc _⟩
 case round=>
  obtain⟨k,hk,rfl,G,d,p,t⟩:=hrel;clear h0 C A;obtain⟨bc0,bc1,J⟩:=d.cells;by_cases b5:k<c
  .
   have Q:=af (zv V n k m);have b6:n/p2 k<=n:=a1X _ _;have ad:Hid ((n:Int)/2 ^ k=((n/p2 k:Nat):Int)):=(Int.natCast_ediv n (2 ^ k)).symm;obtain⟨W,v,bl,a⟩:=G;obtain⟨sa,scap,rfl⟩:=a.form;have a8:=tB (V+n%p2 k*p2 m) (m+k) W;generalize V+n%p2 k*p2 m=V1 at *
   generalize a9:m+k=m1 at *
   have hx:n/p2 k%2<=1:=by omega
   have bb:((n/p2 k:Nat):Int)<65536:=by omega
   have bc:=mM ((n/p2 k:Nat):Int) (a3B _) (Int.lt_trans bb (by omega));have b4:((n/p2 k:Nat):Int)%2=((n/p2 k%2:Nat):Int):=by omega
   rw[b4]at bc;have b7:p2 (m1%8)<=128:=qg (m1%8) 7 (by omega);have a2:n/p2 k%2*p2 (m1%8)<=1*p2 (m1%8):=a2l _ hx;have cp:((n/p2 k%2:Nat):Int)*(2:Int) ^ (m1%8)=((n/p2 k%2*p2 (m1%8):Nat):Int):=by rw[a1z,kR]
   have K:n/p2 k%2*p2 (m1%8)=0∨n/p2 k%2*p2 (m1%8)=p2 (m1%8):=by
    rcases (show n/p2 k%2=0∨n/p2 k%2=1 by omega)with e|e<;>rw[e]<;>simp
   obtain⟨bs,b2⟩:=Sg V1 m1 (n/p2 k%2) W hx;have b3:=RY V1 m1 W;have cy:=FY (V1/p2 (8*(m1/8))) (n/p2 k%2*p2 (m1%8)) (m1%8) a8 (by omega) K;have H:=af (Sf V1 m1 W);have y:=af (Sb V1 m1);have O:(leS (m1/8+1) V1).length=m1/8+1:=az _ _;have D:(leS ((m1+7)/8) V1).length=(m1+7)/8:=az _ _;have F:m1<=100016:=by omega
   have z:V1/p2 (8*(m1/8))+n/p2 k%2*p2 (m1%8)<256:=by omega
   have a4:=pD _ z;have a6:(k:Int)<(c:Int):=by omega
   have ch:(k:Int)<=16:=by omega
   have be:(m1:Int)%8<8:=by omega
   have co:(m1:Int)<=100016:=by omega
   have cs:((n/p2 k%2*p2 (m1%8):Nat):Int)<=128:=by omega
   have cr:((n/p2 k%2:Nat):Int)<=1:=by omega
   have ac:=af a9;have HK:=af hk;have s:=af O;have T:=af D;have U:=af F;have al:=af bs;have ao:=af b2;have a0:=af b3;have aa:=af a4;have c5:=ae ad;clear ad b4 K a8 b7 a2 bs b2 b3 O D F z a4 b6 hx a9 hk W b5;generalize n/p2 k=nk at *
   generalize nk%2=x at *
   generalize x*p2 (m1%8)=X at *
   generalize V1/p2 (8*(m1/8))=L at *
   have l:=af bl;obtain⟨k0,k1,f0,f1,cg⟩:=bl;have a1:w.heap.size≠b:=by omega
   by_cases hr:m1%8=0
   .
    have b8:((m1:Int)%8 == 0)=true:=by simp;omega
    have bd:=af (ae H hr);clear hr H y be hm;have a7:(leS ((m1+7)/8) V1).length<=20000:=by have:=ae T;have:=ae U;omega
    have ab:=af a7;clear a7;go_wp2_with (at_builtin;refine a0v _ rfl _ _ 22 rfl (b+1) 5 i0 (.int .u8 0) 1 1 a0X hi b9 ca cc rfl (by decide) _ _ _ rfl (a0n a _) ⟨wr.heap.size,0,none⟩ 1 1 [.int .u8 0] rfl rfl (by intro j u hj;match j,hj with | 0,hj=>simp at hj;subst hj;simp[Addr.add]) (by intro u hu;simp at hu;subst hu;rfl) (by have:=ae ab;unfold maxLen;omega) (by have:=ae ab;omega) (by simp;omega) ?_;intro v' w' P q ba;clear ba;have B:=(d.alloc _).grown (a0n a _) q;have M:=(t.alloc (.cells #[.int .u8 0] 5)).grown (a0n a _) q;obtain⟨⟨g,cap,rfl⟩,T3,Y3,B3⟩:=M4 (x:=0) l a p ((a0c _ _).alloc (by omega) _) P q;clear P q a d p t l k0 k1 f0 f1;have T3':=af T3;obtain⟨k0,k1,f0,f1,a3⟩:=T3);have E:(leS ((m1+7)/8) V1).length+1=(leS (m1/8+1) V1).length:=by rw[←ae bd,a0i];rfl
    rw[E]at Y3 ⊢;have T4:=T3'.set0 (.slice g (leS (m1/8+1) V1).length cap);have a:=Y3.set (o:=0) (.slice g (leS (m1/8+1) V1).length cap);rw[ae bd]at a;have d:=B.set (b:=b) (o:=0) (by omega) (.slice g (leS (m1/8+1) V1).length cap);have t:=M.set (o:=0) (.slice g (leS (m1/8+1) V1).length cap);have p:Below b w _:=ai B3 (o:=0) (a0a _) (.slice g (leS (m1/8+1) V1).length cap);clear Y3 B3 T3' k0 k1 f0 f1 B M bc0 bc1 J E a3;generalize w'.setCell ⟨b,0,none⟩ (.slice g (leS (m1/8+1) V1).length cap)=wA at *
    have l:=af T4;obtain⟨k0,k1,f0,f1,a3⟩:=T4;obtain⟨bc0,bc1,J⟩:=d.cells;obtain⟨gc,gf,gb⟩:=a.at (j:=m1/8) (by have:=ae s;omega);rw[ae a0]at gc;have I:=af (a.put (j:=m1/8) (UInt8.ofNat (L+X)));have Y:g≠w.heap.size:=d.ne a g rfl;have R:=af a;have S:=af t;clear t;have f:=ae s;rw[f]at k0;generalize hN:m1/8+1=N at k0;have a5:(m1:Int)/8<(N:Int):=by omega
    clear hN f a
    go_region
    all_goals
     go_wp2;go_roundw
     case rel=>
      have r:=yj l I al ao aa gb Y a1 d p R S;refine⟨k+1,by have:=ae HK;omega,by go_num,?_,r.2.1,r.2.2.1,r.2.2.2⟩;rw[ae Q,show m+(k+1)=m1+1 by have:=ae ac;omega];exact r.1
     case measure=>simp[intOf];omega
   .
    have b8:((m1:Int)%8 == 0)=false:=by simp;omega
    have bk:=ae y hr;rw[bk]at a k0 l;obtain⟨g,cap,hform⟩:∃g cap,Value.slice sa (leS (m1/8+1) V1).length scap = .slice (some ⟨g,0,none⟩) (leS (m1/8+1) V1).length cap:=by
     rcases a.2 with⟨_,h0⟩|⟨g,cap,_,e,_⟩
     . have:=ae s;omega
     . exact⟨g,cap,e⟩
    rw[hform]at a k0 l;obtain⟨gc,gf,gb⟩:=a.at (j:=m1/8) (by have:=ae s;omega);rw[ae a0]at gc;have I:=af (a.put (j:=m1/8) (UInt8.ofNat (L+X)));have Y:g≠w.heap.size:=d.ne a g rfl;have R:=af a;have S:=af t;clear t;have f:=ae s;rw[f]at k0;generalize hN:m1/8+1=N at k0;have a5:(m1:Int)/8<(N:Int):=by omega
    clear hN f hform bk hr H y a hm be;go_wp2_with fail
    go_region
    all_goals
     go_wp2;go_roundw
     case rel=>
      have r:=yj l I al ao aa gb Y a1 d p R S;refine⟨k+1,by have:=ae HK;omega,by go_num,?_,r.2.1,r.2.2.1,r.2.2.2⟩;rw[ae Q,show m+(k+1)=m1+1 by have:=ae ac;omega];exact r.1
     case measure=>simp[intOf];omega
  .
   have a6:k=c:=by omega
   subst a6;rw[ae Z]at G;go_wp2;go_ret;exact⟨rfl,G,p,t⟩
def Ints(w:World)(b:Nat)(v:Value)(xs:List Int):Prop:=w.ownsRow (b+1) 3 1 v xs.length (xs.map (Value.int .i64))
def Ints.keep(h:Ints w b v xs)(f:bZ b w w'):Ints w' b v xs:=by
 refine⟨h.1,?_⟩;rcases h.2 with e|⟨g,cap,a,e,hb,c,i⟩
 . exact .inl e
 . refine .inr ⟨g,cap,a,e,hb,?_,i⟩;rw[f.2 g (Array.getElem?_eq_some_iff.1 c).1 (by omega) (fun d fr=>by rw[c];simp)];exact c
def Bys.other{o:Value}(h:Bys w b v l)(p:Ints w c o xs)(n:w.grownBy w' o.ownBlock):Bys w' b v l:=by
 refine a1M h n ?_;cases f:v.ownBlock with
 | none=>exact .inl rfl
 | some k=>
  refine .inr (fun e=>?_);rcases h.2 with⟨e1,_⟩|⟨g,cap,m,e1,_,d,_⟩
  . subst e1;simp[Value.ownBlock]at f
  .
   rcases p.2 with⟨e2,_⟩|⟨g2,i,j,e2,_,a,_⟩
   . subst e2;simp[Value.ownBlock]at e
   . subst e1 e2;simp only[Value.ownBlock,a0j]at f e;subst f;subst e;rw[d]at a;simp at a
def kW.alloc(h:kW w b V m)(o:Obj):kW (w.alloc o) b V m:=by
 obtain⟨c,v,a,d⟩:=h;exact⟨c,v,a.kept ((a0c _ _).alloc (by have:=a.2.2.2.2;omega) _),a0n d _⟩
def kW.other{o:Value}(h:kW w b V m)(c:Ints w b o xs)(a:w.grownBy w' o.ownBlock):kW w' b V m:=by
 obtain⟨e,v,d,g⟩:=h;exact⟨e,v,d.kept ((a0c _ _).grown a (by have:=d.2.2.2.2;omega) (fun k f=>(a0z c k f).1)),g.other c a⟩
def kW.lt(h:kW w b V m):b<w.heap.size:=by
 obtain⟨c,v,a,d⟩:=h;exact a.2.2.2.2
def Jd(a:Addr)(w:World):(method 480 226 (.pointer (some a)) "loop.example/corbel/impl.pass").run prog w = .ok (315,.pointer (some a)) w:=by kernel_rfl
def Il(b:Nat)(a:Option Addr)(cap:Nat)(l:List (Int×Int))(w0 w:World)(h:oF w0 a l)(h0:Below b w0 w)(hs:w0.heap.size<=b)(hok:lOk l=true)(hw:kW w b 0 0) :
  Calls prog 157 #[.slice a l.length cap,.func (.method "loop.example/corbel/impl.pass") #[.iface 226 (.pointer b)] #[]] w fun e w'=>
   (∃v,e = .returned v)/\kW w' b (aU l).1 (aU l).2/\Below b w w':=by
 simp only[lOk,a0k,a2e]at hok;obtain⟨hall,h4⟩:=hok;have hall':=af hall;have H4:=af h4;have h4':(l.length:Int)<=4000:=by omega
 clear hall h4;obtain⟨i0,hi,hz0,hz1,hz2⟩:=a0r Tryz.infoInt;have mp:=Jd ⟨b,0,none⟩;go_enter func157,ntmps157;go_wp2_with fail
 go_loopw [5,7,10] (fun o _ i wr=>∃(k:Nat) (xs:List Int),k<=l.length/\i = .int .i64 k/\xs.length=k/\Ints wr b o xs/\kW wr b (aU (l.take k)).1 (aU (l.take k)).2/\Below b w wr) (fun _ _ i _=>l.length-(intOf i).toNat)
 case atStart=>exact⟨0,[],a0g _,rfl,rfl,a1a _ _ _ _,hw,a0c _ _⟩
 case round=>
  obtain⟨k,xs,hk,rfl,hxs,hints,hout,hbel⟩:=hrel;have hltb:=hout.lt;by_cases hlt:k<l.length
  .
   obtain⟨g,o,rfl,hg,hc⟩:=(h.below hs (h0.trans hbel)) (by omega);obtain⟨c0,c1⟩:=hc k hlt;have hmb:=rS (l.take k) (mg hall' k);obtain⟨s0,s1⟩:=FI (mg hall' k);have s2:((l.take k).length:Int)<=4000:=by simp;omega
   have hml:Hid ((aU (l.take k)).2<=64000):=by show(aU (l.take k)).2<=64000;omega
   have hpk:=af (G4 hall' k hlt);have hstep:=af (J6 l k hlt);have HK:=af hk;have HX:=af hxs;clear hmb s0 s1 s2 hc hk hxs hw;generalize (l.getD k (0,0)).1=x at *
   generalize (l.getD k (0,0)).2=y at *
   generalize aU (l.take k)=S at *
   go_wp2_with fail;refine(MX b S.1 S.2 x y _ (hout.alloc _) hpk (by have:=ae hml;omega)).mono ?_;rintro e w1⟨rfl,hout1,hbel1,hkp1⟩;have hints1:Ints w1 b u5 xs:=Ints.keep (a0n hints _) hkp1;have hbel2:=(hbel.alloc (a0s hltb) (.cells #[x,y] 159)).trans hbel1;have hlt1:=hout1.lt;clear hout hints hbel hbel1 hkp1;go_wp2_with (at_builtin;refine a0v _ rfl _ _ 122 rfl (b+1) 3 i0 (.int .i64 0) 1 8 a0D hi hz0 hz1 hz2 rfl (by decide) _ _ _ rfl (a0n hints1 _) ⟨w1.heap.size,0,none⟩ 1 1 [.int .i64 x] rfl rfl (by intro j u hj;match j,hj with | 0,hj=>simp at hj;subst hj;simp[Addr.add]) (by intro u hu;simp at hu;subst hu;rfl) (by have:=ae HX;have:=ae H4;unfold maxLen;omega) (by have:=ae HX;have:=ae H4;omega) (by simp;omega) ?_;intro v' w2 hown hgrow hnil;clear hnil);have hout2:kW w2 b _ _:=(hout1.alloc (.cells #[x] 3)).other (a0n hints1 _) hgrow;have hints2:Ints w2 b v' (xs++[x]):=by
    show World.ownsRow _ _ _ _ _ (xs++[x]).length _;simpa using hown
   have hbel3:Below b w w2:=(hbel2.alloc (a0s hlt1) _).grown hgrow (by simp;omega) (fun j hj=>a0s (a0z hints1 j hj).1);clear hown hgrow hints1 hout1 hbel2;go_wp2;go_roundw
   case rel=>exact⟨k+1,xs++[x],by have:=ae HK;omega,by go_num,by have:=ae HX;simp;omega,hints2,by rw[ae hstep];exact hout2,hbel3⟩
   case measure=>simp[intOf];omega
  .
   have hlk:Hid (l.take k=l):=a0u (by omega);clear h hw;obtain⟨va,vc,rfl⟩:∃va vc,u5 = .slice va xs.length vc:=by
    rcases hints.2 with⟨e,h0⟩|⟨g,cp,_,e,_⟩
    . exact⟨none,0,by rw[e,h0]⟩
    . exact⟨_,cp,e⟩
   go_wp2;go_ret;rw[ae hlk]at hout;exact⟨⟨_,rfl⟩,hout,hbel⟩
def J9(b:Nat)(a:Option Addr)(cap:Nat)(l:List (Int×Int))(w0 w:World)(h:oF w0 a l)(g:Below b w0 w)(i:w0.heap.size<=b)(f:lOk l=true)(j:kW w b 0 0) :
  Calls prog 125 #[.iface 226 (.pointer b),.slice a l.length cap] w fun e w'=>
   (∃v,e = .returned v)/\kW w' b (aU l).1 (aU l).2/\Below b w w':=by
 go_enter func125,ntmps125;go_wp2_with fail;refine(Il b a cap l w0 _ h g i f j).mono ?_;rintro e w1⟨⟨v,rfl⟩,d,c⟩;go_wp2;go_ret;exact⟨⟨_,rfl⟩,d,c⟩
def NZ(w:World)(t:TypeId):kW (w.alloc (.cells #[.slice none 0 0,.int .i64 0] t)) w.heap.size 0 0:=
 ⟨by decide,.slice none 0 0,⟨by simp,by simp,by simp,by simp,by simp⟩,a1a _ _ _ _⟩
def gq(a:Option Addr)(cap:Nat)(l:List (Int×Int))(w:World)(h:oF w a l)(m:l.length<=1000000000) :
  Ds 130 #[.slice a l.length cap] w (.string ⟨(oj l).toArray⟩):=by
 cases b:lOk l
 . have i:=af (PP b);have g:=vn b;go_enter func130,ntmps130;go_wp2_with (go_at_call 124;refine(iv _ _ _ _ h m).mono ?_;rintro e w1⟨rfl,c⟩;rw[g]);go_ret;exact⟨GG (a:=[]) i.symm,c⟩
 .
  have i:=af (dJ b);have g:=rx b;have d:aY l=true:=by simp only[lOk,a0k]at b;exact b.1
  obtain⟨s0,_⟩:=FI d;generalize bX l=sb at *
  clear d;go_enter func130,ntmps130;go_wp2_with fail;refine(iv _ _ _ _ h m).mono ?_;rintro e w1⟨rfl,c⟩;rw[g];clear g;have o:=h.later c;go_wp2_with fail;refine(J9 w1.heap.size a cap l w1 _ o cC (a0a _) b (NZ w1 _)).mono ?_;rintro e w2⟨⟨v0,rfl⟩,⟨_,v,T,Y⟩,j⟩;have k:=lF Y;obtain⟨va,vc,rfl⟩:=Y.form;obtain⟨k0,q,f0,f1,p⟩:=T;clear q Y;generalize f:(leS (((aU l).2+7)/8) (aU l).1)=res at *
  have n:Hid (res=oj l):=by have h:=ae i;rw[h,←f];exact rfl
  clear f;go_wp2;go_ret;exact⟨GG n,aj c (cC.trans j)⟩
def xA(q k V W:Nat)(a:V<2 ^ (8*q)):leS (q+k) (V+W*2 ^ (8*q))=leS q V++leS k W:=by
 induction k with
 | zero=>simp[leS,tC q V W (8*q) (a0a _)]
 | succ k ih=>
  rw[show q+(k+1)=(q+k)+1 by omega];simp only[leS];rw[ih,a0K]
  congr 3
  have e:2 ^ (8*(q+k))=2 ^ (8*q)*2 ^ (8*k):=by rw[←a0S];congr 1;omega
  rw[e,←a1T,Nat.add_mul_div_right _ _ (a1l _),a1U a,a0H]
def Fx(V m:Nat)(l:List (Nat×Nat)):iD (V,m) l=(V+(iD (0,0) l).1*2 ^ m,m+(iD (0,0) l).2):=by
 have key:∀(l:List (Nat×Nat)) (W k:Nat),iD (V+W*2 ^ m,m+k) l=(V+(iD (W,k) l).1*2 ^ m,m+(iD (W,k) l).2):=by
  intro l;induction l with
  | nil=>intro W k;rfl
  | cons p l ih=>
   intro W k;simp only[iD];have e:V+W*2 ^ m+p.1*2 ^ (m+k)=V+(W+p.1*2 ^ k)*2 ^ m:=by
    rw[a1H,a0S,a1J,a1h (2 ^ m)];omega
   rw[e,a18 m k p.2];exact ih _ _
 have:=key l 0 0;simpa using this
def kC(l m:List (Int×Int)):aU (l++m)=((aU l).1+(aU m).1*2 ^ (aU l).2,(aU l).2+(aU m).2):=by
 rw[aU,mU,a0J,mZ];exact Fx _ _ _
def px(l m:List (Int×Int)):aY (l++m)=(aY l&&aY m):=by simp[aY]
def RE(a:List (Int×Int))(j:a.length<=12)(h:lOk a=true)(p:Int)(i:p=(8-ow a%8)%8) :
  lOk (a++[(0,p)])=true/\oj (a++[(0,p)])=oj a/\(aU (a++[(0,p)])).2%8=0:=by
 have b:aY a=true:=by simp only[lOk,a0k]at h;exact h.1
 have c:=rS a b;rw[rx h,←c]at i;have e:0<=p/\p<=7/\((aU a).2+p.toNat)%8=0:=by omega
 have f:pOk 0 p=true:=by
  have:=lT p.toNat
  rw[aR];exact⟨⟨by omega,by omega⟩,by omega,by omega⟩
 have d:lOk (a++[(0,p)])=true:=by
  simp only[lOk,a0k,a2e];refine⟨by simp[aY,f];simpa[aY]using b,by simp;omega⟩
 have g:aU (a++[(0,p)])=((aU a).1,(aU a).2+p.toNat):=by
  rw[kC];simp[aU,mU,iD]
 refine⟨d,?_,by rw[g];exact e.2.2⟩;rw[dJ d,dJ h,cq,cq,g];rw[show((aU a).2+p.toNat+7)/8=((aU a).2+7)/8 by omega]
def GR(f b:List (Int×Int))(d:lOk f=true)(hb:lOk b=true)(l:f.length+b.length<=4000)(i:(aU f).2%8=0):oj (f++b)=oj f++oj b:=by
 have a:aY f=true:=by simp only[lOk,a0k]at d;exact d.1
 have c:aY b=true:=by simp only[lOk,a0k]at hb;exact hb.1
 have h:lOk (f++b)=true:=by
  simp only[lOk,a0k,a2e,px];exact⟨⟨a,c⟩,by simpa using l⟩
 rw[dJ h,dJ d,dJ hb,cq,cq,cq,kC];have g:=zL f a;generalize aU f=F at *
 generalize aU b=B at *
 obtain⟨V,m⟩:=F;obtain⟨W,k⟩:=B;have j:m%8=0:=i;have e:m=8*(m/8):=by omega
 show leS ((m+k+7)/8) (V+W*2 ^ m)=leS ((m+7)/8) V++leS ((k+7)/8) W;rw[show(m+k+7)/8=m/8+(k+7)/8 by omega,show(m+7)/8=m/8 by omega];have:=xA (m/8) ((k+7)/8) V W (by rw[←e];exact g);rw[←e]at this;exact this
def Mg(V:Nat):leS 4 V=leS 2 (V%65536)++leS 2 (V/65536):=by
 have:=xA 2 2 (V%65536) (V/65536) (a0Y _ (by decide));rw[←this]
 congr 1
 show V=V%65536+V/65536*2 ^ 16;omega
def eZ(ws:List Nat):List (Int×Int):=ws.map fun(x:Nat)=>(((x:Nat):Int),(16:Int))
def DI{ws:List Nat}(h:∀x∈ws,x<65536)(c:ws.length<=100):lOk (eZ ws)=true:=by
 unfold lOk;simp only[a0k,a0t];refine⟨?_,by unfold eZ;rw[a0M];omega⟩;unfold aY eZ;rw[List.all_map,a1b];intro x b;have a:p2 (16:Int).toNat=65536:=by decide
 have:=h x b;show pOk ((x:Nat):Int) 16=true;exact aR.2 ⟨by omega,by omega,by rw[a];omega⟩
def Kc{ws:List Nat}(h:∀x∈ws,x<65536)(b:ws.length<=100):oj (eZ ws)=ws.flatMap (leS 2):=by
 induction ws with
 | nil=>decide
 | cons x ws ih=>
  have d:x<65536:=h x (by simp);have c:lOk (eZ [x])=true:=DI (fun y a=>by rw[a06.1 a];exact d) (by simp);have h2:lOk (eZ ws)=true:=DI (fun y a=>h y (by simp[a])) (by simp at b;omega);have e:eZ (x :: ws)=eZ [x]++eZ ws:=rfl;have e1:aU (eZ [x])=(x,16):=by simp[aU,mU,iD,eZ]
  rw[e,GR _ _ c h2 (by unfold eZ;simp at b ⊢;omega) (by rw[e1];exact(by decide:(16:Nat)%8=0)),ih (fun y a=>h y (by simp[a])) (by simp at b;omega),dJ c,cq,e1,a00];show leS ((16+7)/8) x++_=_;rw[show(16+7)/8=2 by decide]
def aM(V many:Nat)(w:World)(M:V<1099511627776)(P:many<=10) :
  Ds 82 #[.int .i64 (V:Int),.int .i64 (many:Int)] w (.string ⟨(leS many V).toArray⟩):=by
 obtain⟨i0,H,A,B,C⟩:=a0r Tryz.infoU8;have J:(many:Int)<=10:=by omega
 have p:Hid (bp (w.alloc (.cells #[] 5)) w.heap.size (.slice w.heap.size 0 0) (leS 0 V)):=bp.lit _ _ (a0a _);have j:Hid (Below w.heap.size w (w.alloc (.cells #[] 5))):=cC;go_enter func82,ntmps82;go_wp2_with fail
 go_loopw [0,5,6] (fun x v i wr=>∃k:Nat,k<=many/\i = .int .i64 k/\x = .int .i64 ((V/2 ^ (8*k):Nat):Int)/\bp wr w.heap.size v (leS k V)/\Below w.heap.size w wr) (fun _ _ i _=>many-(intOf i).toNat)
 case atStart=>exact⟨0,a0g _,rfl,by simp,p,j⟩
 case round=>
  obtain⟨k,O,rfl,rfl,hq,a⟩:=hrel;have e:Hid ((leS k V).length=k):=az k V;obtain⟨va,vc,rfl⟩:=hq.formN e;clear p j;by_cases I:k<many
  .
   have n:(k:Int)<(many:Int):=by omega
   have N:V/2 ^ (8*k)<=V:=a1X _ _;have s:Hid (leS k V++[UInt8.ofNat (V/2 ^ (8*k)%256)]=leS (k+1) V):=rfl;have m:Hid (V/2 ^ (8*k)/256=V/2 ^ (8*(k+1))):=by show _=_;rw[a1T,show 8*(k+1)=8*k+8 by omega,a0S]
   generalize V/2 ^ (8*k)=x at *
   have K:(x:Int)<=1099511627776:=by omega
   obtain⟨y,hy⟩:∃y,x%256=y:=⟨_,rfl⟩;have u:(x:Int)%256=(y:Int):=by omega
   have L:Int.tmod (x:Int) 256=(y:Int):=by rw[a10 (by omega)];exact u
   have Q:IntKind.u8.wrap (y:Int)=(y:Int):=by simp only[IntKind.wrap,IntKind.bits,IntKind.signed];simp;omega
   have z:((UInt8.ofNat y).toNat:Int)=(y:Int):=by rw[a3a];omega
   obtain⟨d,hd⟩:∃d,x/256=d:=⟨_,rfl⟩;have G:(x:Int)/256=(d:Int):=by omega
   rw[hy]at s;rw[hd]at m;have D:Hid (k+1<=maxLen/\(k+1)*1<=140737488355328):=by show _/\_;unfold maxLen;omega
   have r:=af (hq.own e);have l:=a.size;have h:=af a;clear hq a hy hd;go_wp2_with (at_builtin;refine a0v _ rfl _ _ 22 rfl w.heap.size 5 i0 (.int .u8 0) 1 1 a0X H A B C rfl (by decide) _ _ _ rfl (a0n r _) ⟨wr.heap.size,0,none⟩ 1 1 [.int .u8 (y:Int)] rfl rfl (ck _ _ rfl _ _) (one_byte _) D.1 D.2 (au l _) ?_;intro v' x2 g c o;clear o);have t:=aH (v:=.slice va k vc) c r (a0a _) l h;have f:World.ownsRow x2 w.heap.size 5 1 v' (k+1) (dc (leS k V)++[.int .u8 ((UInt8.ofNat y).toNat:Int)]):=by rw[z];exact g
   have q:=fB (b:=UInt8.ofNat y) e f;rw[ae s]at q;clear g f c;go_wp2;go_roundw
   case rel=>exact⟨k+1,by omega,by go_num,by rw[←ae m],q,t⟩
   case measure=>simp[intOf];omega
  .
   obtain rfl:k=many:=by omega
   have n:¬ (k:Int)<(k:Int):=by omega
   have F:=hq.text;have E:=af a;clear hq a;go_wp2;go_ret;exact⟨rfl,E⟩
def db(ws:List Nat):List Int:=ws.map fun(x:Nat)=>((x:Nat):Int)
def Ka(ws:List Nat)(k:Nat)(h:k<ws.length):(db ws).getD k 0=((ws.getD k 0:Nat):Int):=by
 unfold db;simp[List.getD,h]
def F3(ws:List Nat)(k:Nat)(h:k<ws.length):eZ (ws.take (k+1))=eZ (ws.take k)++[(((ws.getD k 0:Nat):Int),(16:Int))]:=by
 unfold eZ;rw[a1e h,a0J];simp[List.getD,h]
def NY(x:Int)(w:World):Ds 131 #[x] w (.agg #[x,.int .i64 16]):=by
 go_enter func131,ntmps131;go_wp2;refine a0F (v:=.agg #[x,.int .i64 16]) (by simp[results,results131,go_sem]) rfl ⟨rfl,?_⟩;exact cC
def Ep(a:Option Addr)(cap n:Nat)(ws:List Nat)(w:World)(B:ws.length=n)(h:br w a (db ws))(I:n<=100) :
  Calls prog 122 #[.slice a n cap,.func (.func 131) #[] #[]] w fun e w'=>∃v,e = .returned v/\Pcs w' w.heap.size v (eZ ws)/\Below w.heap.size w w':=by
 have O:(n:Int)<=100:=by omega
 have x:=af B;have M:=af I;have G:Hid ((db ws).length=n):=by show _=_;unfold db;rw[a0M];exact B
 clear B I;obtain⟨i0,N,D,E,F⟩:=a0r Tryz.infoPiece;go_enter func122,ntmps122;go_wp2_with fail
 go_loopw [5,7,10] (fun o _ i wr=>∃k:Nat,k<=n/\i = .int .i64 k/\Pcs wr w.heap.size o (eZ (ws.take k))/\Below w.heap.size w wr) (fun _ _ i _=>n-(intOf i).toNat)
 case atStart=>exact⟨0,a0g _,rfl,a1a _ _ _ _,a0c _ _⟩
 case round=>
  obtain⟨k,H,rfl,hq,b⟩:=hrel;by_cases p:k<n
  .
   obtain⟨g,o,rfl,P,r⟩:=(h.later b) (by rw[ae G];omega);have c0:=r k (by rw[ae G];exact p);rw[Ka ws k (by rw[ae x];exact p)]at c0;have C:=af (F3 ws k (by rw[ae x];exact p));have A:Hid ((eZ (ws.take k)).length=k):=by show _=_;unfold eZ;have:=ae x;simp;omega
   have L:=af H;clear r H h;generalize ((ws.getD k 0:Nat):Int)=y at *
   have HP:=af (NY y wr);go_wp2_with fail;refine HP.mono ?_;rintro e x1⟨rfl,m⟩;have q:=Pcs.later hq m (a0a _);have c:=aj b m;have j:=c.size;have f:Hid ((eZ (ws.take k)).length+1<=maxLen/\((eZ (ws.take k)).length+1)*16<=140737488355328):=by
    show _/\_;rw[ae A];have:=ae M;unfold maxLen;omega
   clear hq b m HP;go_wp2_with (at_builtin;refine a0v _ rfl _ _ 156 rfl w.heap.size 159 i0 (.agg #[.int .i64 0,.int .i64 0]) 2 16 a1w N D E F rfl (by decide) _ _ _ rfl (a0n q _) ⟨x1.heap.size,0,none⟩ 1 1 [.int .i64 y,.int .i64 16] rfl rfl (tK x1 _ _ _) (tJ _ _) f.1 f.2 (au j _) ?_;intro v' x2 l d t;clear t);have z:=aH (v:=u5) d q (a0a _) j c;have u:=mY l;rw[←ae C]at u;clear l d q;go_wp2;go_roundw
   case rel=>exact⟨k+1,by have:=ae L;omega,by go_num,u,z⟩
   case measure=>simp[intOf];omega
  . have s:ws.take k=ws:=a0u (by rw[ae x];omega);rw[s]at hq;have K:=af hq;have J:=af b;clear hq b s;go_wp2;go_ret;exact⟨_,rfl,K,J⟩
def dK(a:Option Addr)(cap n:Nat)(ws:List Nat)(w:World)(l:ws.length=n)(h:br w a (db ws))(k:n<=100)(p:∀x∈ws,x<65536) :
  Ds 98 #[.slice a n cap] w (.string ⟨(ws.flatMap (leS 2)).toArray⟩):=by
 have m:=af (Ep a cap n ws w l h k);have r:=af (Kc p (by omega));have o:(eZ ws).length=n:=by unfold eZ;rw[a0M];exact l
 have d:=af o;have s:=af k;clear l h k p o;go_enter func98,ntmps98;go_wp2_with fail;refine m.mono ?_;rintro e w1⟨v,rfl,j,b⟩;obtain⟨a1,c1,rfl⟩:=j.formN d;have g:=gq a1 c1 (eZ ws) w1 (j.rowN d) (by have:=ae d;have:=ae s;omega);rw[ae r,ae d]at g;have i:=af g;have q:=af b;clear j b g m;go_wp2_with fail;refine i.mono ?_;rintro e w2⟨rfl,c⟩;have f:=af (aj q c);clear c;go_wp2;go_ret;exact⟨rfl,f⟩
def dI(V:Nat)(w:World)(k:V<4294967296) :
  Ds 99 #[.int .i64 (V:Int)] w (.string ⟨(leS 4 V).toArray⟩):=by
 have e1:bits .and .i64 (V:Int) 65535=((V%65536:Nat):Int):=by
  have:=Bc (V:Int) (by omega) (by omega);rw[this];omega
 have d:Hid ([V%65536,V/65536].flatMap (leS 2)=leS 4 V):=by
  show _=_;rw[Mg];simp
 have hq:V/65536<65536:=by omega
 have f:Hid (br (w.alloc (.cells #[.int .i64 ((V%65536:Nat):Int),.int .i64 ((V/65536:Nat):Int)] 3)) (some ⟨w.heap.size,0,none⟩) (db [V%65536,V/65536])):=by
  intro _;refine⟨w.heap.size,0,rfl,by simp,fun i j=>?_⟩
  match i,j with
  | 0,_=>simp[db]
  | 1,_=>simp[db]
 have c:=af (dK (some ⟨w.heap.size,0,none⟩) 2 2 [V%65536,V/65536] _ rfl f (by omega) (fun x b=>by
  simp only[a0Z,List.mem_nil_iff,a1q]at b;rcases b with rfl|rfl
  . exact a0Y _ (by decide)
  . exact hq))
 rw[ae d]at c;have g:Hid (Below w.heap.size w (w.alloc (.cells #[.int .i64 ((V%65536:Nat):Int),.int .i64 ((V/65536:Nat):Int)] 3))):=cC;generalize b:V%65536=x at *
 generalize l:V/65536=y at *
 have e2:(V:Int)/65536=(y:Int):=by omega
 clear d f b;go_enter func99,ntmps99;go_wp2_with fail;refine c.mono ?_;rintro e w1⟨rfl,a⟩;have h:=af (aj g a);clear a;go_wp2;go_ret;exact⟨rfl,h⟩
def Og(W:World)(g:Nat)(how st crc pk lg:Nat)(nm:ByteArray):Prop:=W.cell? ⟨g,0,none⟩=some (.int .i64 (how:Nat))/\W.cell? ⟨g,1,none⟩=some (.int .i64 (st:Nat))/\W.cell? ⟨g,2,none⟩=some (.int .i64 (crc:Nat))/\W.cell? ⟨g,3,none⟩=some (.int .i64 (pk:Nat))/\W.cell? ⟨g,4,none⟩=some (.int .i64 (lg:Nat))/\W.cell? ⟨g,5,none⟩=some (.string nm)
def wi(w:World)(how st crc pk lg:Nat)(nm:ByteArray)(W:World):Prop:=Below w.heap.size w W/\w.heap.size<W.heap.size/\Og W w.heap.size how st crc pk lg nm
def wi.later{W':World}(h:wi w how st crc pk lg nm W)(hb:Below W.heap.size W W'):wi w how st crc pk lg nm W':=by
 have a:∀j,W'.cell? ⟨w.heap.size,j,none⟩=W.cell? ⟨w.heap.size,j,none⟩:=fun j=>hb.cell (p:=⟨w.heap.size,j,none⟩) h.2.1;exact⟨h.1.trans (hb.mono (a0s h.2.1)),a0l h.2.1 hb.size,(a 0).trans h.2.2.1,(a 1).trans h.2.2.2.1,(a 2).trans h.2.2.2.2.1,(a 3).trans h.2.2.2.2.2.1,(a 4).trans h.2.2.2.2.2.2.1,(a 5).trans h.2.2.2.2.2.2.2⟩
def JP(W:World)(x y z:Nat):br (W.alloc (.cells #[.int .i64 ((x:Nat):Int),.int .i64 ((y:Nat):Int),.int .i64 ((z:Nat):Int)] 3)) (some ⟨W.heap.size,0,none⟩) (db [x,y,z]):=by
 intro _;refine⟨W.heap.size,0,rfl,by simp,fun i a=>?_⟩
 match i,a with
 | 0,_=>simp[db]
 | 1,_=>simp[db]
 | 2,_=>simp[db]
def P9(W:World)(x y:Nat):br (W.alloc (.cells #[.int .i64 ((x:Nat):Int),.int .i64 ((y:Nat):Int)] 3)) (some ⟨W.heap.size,0,none⟩) (db [x,y]):=by
 intro _;refine⟨W.heap.size,0,rfl,by simp,fun i a=>?_⟩
 match i,a with
 | 0,_=>simp[db]
 | 1,_=>simp[db]
def wh(w:World)(how st crc pk lg:Nat)(nm:ByteArray)(W:World)(r0 r1:Option Nat):Prop:=wi w how st crc pk lg nm W/\(∀g,r0=some g->br W (some ⟨g,0,none⟩) (db [20,0,how]))/\∀g,r1=some g->br W (some ⟨g,0,none⟩) (db [nm.size,0])
def wh.later{W':World}{a b:Option Nat}(h:wh w how st crc pk lg nm W a b)(hb:Below W.heap.size W W'):wh w how st crc pk lg nm W' a b:=⟨h.1.later hb,fun g e=>(h.2.1 g e).later hb,fun g e=>(h.2.2 g e).later hb⟩
def wh.new0{a:Option Nat}(h:wh w how st crc pk lg nm W none a):wh w how st crc pk lg nm (W.alloc (.cells #[.int .i64 20,.int .i64 0,.int .i64 ((how:Nat):Int)] 3)) (some W.heap.size) a:=by
 have h2:=h.later ((a0c W.heap.size W).alloc (a0a _) (.cells #[.int .i64 20,.int .i64 0,.int .i64 ((how:Nat):Int)] 3));exact⟨h2.1,fun g e=>by cases e;exact JP W 20 0 how,h2.2.2⟩
def wh.new1{a:Option Nat}(h:wh w how st crc pk lg nm W a none):wh w how st crc pk lg nm (W.alloc (.cells #[.int .i64 ((nm.size:Nat):Int),.int .i64 0] 3)) a (some W.heap.size):=by
 have h2:=h.later ((a0c W.heap.size W).alloc (a0a _) (.cells #[.int .i64 ((nm.size:Nat):Int),.int .i64 0] 3));exact⟨h2.1,h2.2.1,fun g e=>by cases e;exact P9 W nm.size 0⟩
def ax(l:List UInt8):ByteArray:=⟨l.toArray⟩
def eG(how st crc pk lg n:Nat):ByteArray:=ax ([20,0,how].flatMap (leS 2))++ax (leS 4 st)++ax (leS 4 crc)++ax (leS 4 pk)++ax (leS 4 lg)++ax ([n,0].flatMap (leS 2))
def Dv(how st crc pk lg:Nat)(nm:ByteArray)(w:World)(A:how<65536)(u:st<4294967296)(h2:crc<4294967296)(y:pk<4294967296)(z:lg<4294967296)(B:nm.size<65536) :
  Ds 128 #[.agg #[how,st,crc,pk,lg,nm]] w (.string (eG how st crc pk lg nm.size)):=by
 have p:=cE
 have q:Hid (∀g W,br W (some ⟨g,0,none⟩) (db [20,0,how])->Ds 98 #[.slice (some ⟨g,0,none⟩) 3 3] W (.string (ax ([20,0,how].flatMap (leS 2))))):=fun g W h=>dK _ 3 3 [20,0,how] W rfl h (by omega) (fun x t=>by simp at t;omega);have r:Hid (∀g W,br W (some ⟨g,0,none⟩) (db [nm.size,0])->Ds 98 #[.slice (some ⟨g,0,none⟩) 2 2] W (.string (ax ([nm.size,0].flatMap (leS 2))))):=fun g W h=>dK _ 2 2 [nm.size,0] W rfl h (by omega) (fun x t=>by simp at t;omega);have k:Hid (∀W,Ds 99 #[.int .i64 (st:Int)] W (.string (ax (leS 4 st)))):=fun W=>dI st W u;have m:Hid (∀W,Ds 99 #[.int .i64 (crc:Int)] W (.string (ax (leS 4 crc)))):=fun W=>dI crc W h2;have n:Hid (∀W,Ds 99 #[.int .i64 (pk:Int)] W (.string (ax (leS 4 pk)))):=fun W=>dI pk W y;have o:Hid (∀W,Ds 99 #[.int .i64 (lg:Int)] W (.string (ax (leS 4 lg)))):=fun W=>dI lg W z;have j:∀l:List UInt8,(ax l).size=l.length:=fun l=>by simp[ax,ByteArray.size]
 have z0:((ax ([20,0,how].flatMap (leS 2))).size:Int)<=100:=by rw[j];simp[az]
 have z5:((ax ([nm.size,0].flatMap (leS 2))).size:Int)<=100:=by rw[j];simp[az]
 have z1:((ax (leS 4 st)).size:Int)<=100:=by rw[j,az];omega
 have z2:((ax (leS 4 crc)).size:Int)<=100:=by rw[j,az];omega
 have z3:((ax (leS 4 pk)).size:Int)<=100:=by rw[j,az];omega
 have z4:((ax (leS 4 lg)).size:Int)<=100:=by rw[j,az];omega
 unfold eG;generalize ax ([20,0,how].flatMap (leS 2))=A0 at *
 generalize ax ([nm.size,0].flatMap (leS 2))=A5 at *
 generalize ax (leS 4 st)=A1 at *
 generalize ax (leS 4 crc)=A2 at *
 generalize ax (leS 4 pk)=A3 at *
 generalize ax (leS 4 lg)=A4 at *
 have C:(nm.size:Int)<65536:=by omega
 have T0':Hid (wi w how st crc pk lg nm (w.alloc (.cells #[how,st,crc,pk,lg,nm] 63))):=⟨cC,by simp,by simp,by simp,by simp,by simp,by simp,by simp⟩;clear A u h2 y z B j;go_enter func128,ntmps128;go_wp2_with fail;obtain⟨W0,hW0⟩:∃x,w.alloc (.cells #[how,st,crc,pk,lg,nm] 63)=x:=⟨_,rfl⟩;rw[hW0]at T0';rw[hW0];have T0:=T0';clear T0' hW0;refine wp_region_held_drew (S:=fun W=>Og W w.heap.size how st crc pk lg nm) p T0.2.2 (fun c=>?_);refine ag 0 (.pointer w.heap.size) rfl (fun W a=>by obtain⟨s0,s1,s2,s3,s4,s5⟩:=a;go_simp) c ?_;refine ag 1 (.int .i64 (how:Nat)) rfl (fun W a=>by obtain⟨s0,s1,s2,s3,s4,s5⟩:=a;go_simp) c ?_;refine ag 4 (.pointer (some ⟨w.heap.size,1,none⟩)) rfl (fun W a=>by obtain⟨s0,s1,s2,s3,s4,s5⟩:=a;go_simp) c ?_;refine ag 5 (.int .i64 (st:Nat)) rfl (fun W a=>by obtain⟨s0,s1,s2,s3,s4,s5⟩:=a;go_simp) c ?_;refine ag 8 (.pointer (some ⟨w.heap.size,2,none⟩)) rfl (fun W a=>by obtain⟨s0,s1,s2,s3,s4,s5⟩:=a;go_simp) c ?_;refine ag 9 (.int .i64 (crc:Nat)) rfl (fun W a=>by obtain⟨s0,s1,s2,s3,s4,s5⟩:=a;go_simp) c ?_;refine ag 12 (.pointer (some ⟨w.heap.size,3,none⟩)) rfl (fun W a=>by obtain⟨s0,s1,s2,s3,s4,s5⟩:=a;go_simp) c ?_;refine ag 13 (.int .i64 (pk:Nat)) rfl (fun W a=>by obtain⟨s0,s1,s2,s3,s4,s5⟩:=a;go_simp) c ?_;refine ag 16 (.pointer (some ⟨w.heap.size,4,none⟩)) rfl (fun W a=>by obtain⟨s0,s1,s2,s3,s4,s5⟩:=a;go_simp) c ?_;refine ag 17 (.int .i64 (lg:Nat)) rfl (fun W a=>by obtain⟨s0,s1,s2,s3,s4,s5⟩:=a;go_simp) c ?_;refine ag 20 (.pointer (some ⟨w.heap.size,5,none⟩)) rfl (fun W a=>by obtain⟨s0,s1,s2,s3,s4,s5⟩:=a;go_simp) c ?_;refine ag 21 (.string nm) rfl (fun W a=>by obtain⟨s0,s1,s2,s3,s4,s5⟩:=a;go_simp) c ?_;refine ag 22 (.int .i64 (nm.size:Nat)) rfl (fun W a=>by obtain⟨s0,s1,s2,s3,s4,s5⟩:=a;go_simp) c ?_;have b:wh w how st crc pk lg nm W0.drew none none:=⟨⟨T0.1.drew,T0.2.1,T0.2.2⟩,nofun,nofun⟩;generalize W0.drew=W at b c ⊢;refine wpAnyH_ready (rs:=[2,23]) (by kernel_rfl) (by simp) ?_;repeat' first
  | exact AllReadyH.nil
  | refine AllReadyH.cons rfl (fun K d=>?_) ?_
  | (refine ju 5 rfl ?_;go_simp;have b:=b.new0;refine Shut.out d _ _ b.1.2.2 (fun c=>?_);clear d K;generalize W.alloc (.cells #[.int .i64 20,.int .i64 0,.int .i64 ((how:Nat):Int)] 3)=V at b c ⊢;generalize W.heap.size=g at b ⊢;revert V;intro W c b;(first|refine wpAnyH_ready (rs:=[3,23]) (by decide +kernel) (by simp) ?_|refine wpAnyH_ready (rs:=[3]) (by decide +kernel) (by simp) ?_))
  | (refine ju 26 rfl ?_;go_simp;have b:=b.new1;refine Shut.out d _ _ b.1.2.2 (fun c=>?_);clear d K;generalize W.alloc (.cells #[.int .i64 ((nm.size:Nat):Int),.int .i64 0] 3)=V at b c ⊢;generalize W.heap.size=g at b ⊢;revert V;intro W c b;(first|refine wpAnyH_ready (rs:=[2]) (by decide +kernel) (by simp) ?_|refine wpAnyH_ready (rs:=[3]) (by decide +kernel) (by simp) ?_|refine wpAnyH_ready (rs:=[6]) (by decide +kernel) (by simp) ?_|refine wpAnyH_ready (rs:=[10]) (by decide +kernel) (by simp) ?_|refine wpAnyH_ready (rs:=[14]) (by decide +kernel) (by simp) ?_|refine wpAnyH_ready (rs:=[18]) (by decide +kernel) (by simp) ?_|refine wpAnyH_ready (rs:=[24]) (by decide +kernel) (by simp) ?_))
  | (refine ju 6 rfl ?_;go_simp;go_at_call 98;refine(q _ _ (b.2.1 _ rfl)).mono ?_;rintro e W⟨rfl,f⟩;have b:=b.later f;refine Shut.out d _ _ b.1.2.2 (fun c=>?_);clear d K f;(first|refine wpAnyH_ready (rs:=[6,23]) (by decide +kernel) (by simp) ?_|refine wpAnyH_ready (rs:=[6]) (by decide +kernel) (by simp) ?_))
  | (refine ju 9 rfl ?_;go_simp;go_at_call 99;refine(k _).mono ?_;rintro e W⟨rfl,f⟩;have b:=b.later f;refine Shut.out d _ _ b.1.2.2 (fun c=>?_);clear d K f;refine ag 7 (.string (A0++A1)) rfl (fun W a=>by go_simp<;>omega) c ?_;(first|refine wpAnyH_ready (rs:=[10,23]) (by decide +kernel) (by simp) ?_|refine wpAnyH_ready (rs:=[10]) (by decide +kernel) (by simp) ?_))
  | (refine ju 13 rfl ?_;go_simp;go_at_call 99;refine(m _).mono ?_;rintro e W⟨rfl,f⟩;have b:=b.later f;refine Shut.out d _ _ b.1.2.2 (fun c=>?_);clear d K f;refine ag 11 (.string (A0++A1++A2)) rfl (fun W a=>by go_simp<;>omega) c ?_;(first|refine wpAnyH_ready (rs:=[14,23]) (by decide +kernel) (by simp) ?_|refine wpAnyH_ready (rs:=[14]) (by decide +kernel) (by simp) ?_))
  | (refine ju 17 rfl ?_;go_simp;go_at_call 99;refine(n _).mono ?_;rintro e W⟨rfl,f⟩;have b:=b.later f;refine Shut.out d _ _ b.1.2.2 (fun c=>?_);clear d K f;refine ag 15 (.string (A0++A1++A2++A3)) rfl (fun W a=>by go_simp<;>omega) c ?_;(first|refine wpAnyH_ready (rs:=[18,23]) (by decide +kernel) (by simp) ?_|refine wpAnyH_ready (rs:=[18]) (by decide +kernel) (by simp) ?_))
  | (refine ju 21 rfl ?_;go_simp;go_at_call 99;refine(o _).mono ?_;rintro e W⟨rfl,f⟩;have b:=b.later f;refine Shut.out d _ _ b.1.2.2 (fun c=>?_);clear d K f;refine ag 19 (.string (A0++A1++A2++A3++A4)) rfl (fun W a=>by go_simp<;>omega) c ?_;(first|refine wpAnyH_ready (rs:=[23]) (by decide +kernel) (by simp) ?_|refine wpAnyH_ready (rs:=[24]) (by decide +kernel) (by simp) ?_))
  | (refine ju 27 rfl ?_;go_simp;go_at_call 98;refine(r _ _ (b.2.2 _ rfl)).mono ?_;rintro e W⟨rfl,f⟩;have b:=b.later f;refine Shut.out d _ _ b.1.2.2 (fun c=>?_);clear d K f;refine ag 25 (.string (A0++A1++A2++A3++A4++A5)) rfl (fun W a=>by go_simp<;>omega) c ?_;refine wpAnyH_ready (rs:=[26]) (by kernel_rfl) (by simp) ?_)
  | (refine ju 2 rfl ?_;go_simp;refine Shut.out d _ _ b.1.2.2 (fun c=>?_);clear d K;refine wpAnyH_done (by kernel_rfl) ?_ _;generalize s:A0++A1++A2++A3++A4++A5=AA;go_wp2;go_ret;exact⟨by subst s;rfl,b.1.1⟩)
def bu(l:List UInt8):(ax l).size=l.length:=by simp[ax,ByteArray.size]
def ft(how st crc pk lg n:Nat):(eG how st crc pk lg n).size=26:=by
 unfold eG;rw[a0G,a0G,a0G,a0G,a0G];simp only[bu,a00,a2i,a0i,az,a0T]
def cM(how st crc pk lg:Nat)(nm:ByteArray):ByteArray:=(⟨#[80,75,3,4]⟩:ByteArray)++eG how st crc pk lg nm.size++nm
def Ba(how st crc pk lg:Nat)(nm f:ByteArray)(w:World)(k:how<65536)(l:st<4294967296)(h2:crc<4294967296)(m:pk<4294967296)(n:lg<4294967296)(o:nm.size<65536) :
  Ds 94 #[.agg #[how,st,crc,pk,lg,nm,f]] w (.string (cM how st crc pk lg nm)):=by
 have j:=af (fun W=>Dv how st crc pk lg nm W k l h2 m n o);have d:=cE
 obtain⟨A,hA⟩:∃A,eG how st crc pk lg nm.size=A:=⟨_,rfl⟩;have q:(A.size:Int)<=1000:=by
  rw[←hA,ft];omega
 have r:(nm.size:Int)<65536:=by omega
 have p:cM how st crc pk lg nm=(⟨#[80,75,3,4]⟩:ByteArray)++A++nm:=by unfold cM;rw[hA]
 rw[hA]at j;rw[p];have T0':Hid (wi w how st crc pk lg nm (w.alloc (.cells #[how,st,crc,pk,lg,nm,f] 65))):=⟨cC,by simp,by simp,by simp,by simp,by simp,by simp,by simp⟩;clear k l h2 m n o hA p;go_enter func94,ntmps94;go_wp2_with fail;obtain⟨W0,hW0⟩:∃x,w.alloc (.cells #[how,st,crc,pk,lg,nm,f] 65)=x:=⟨_,rfl⟩;rw[hW0]at T0';rw[hW0];have T0:=T0';clear T0' hW0;refine wp_region_held_drew (S:=fun W=>Og W w.heap.size how st crc pk lg nm) d T0.2.2 (fun b=>?_);refine ag 0 (.pointer w.heap.size) rfl (fun W a=>by obtain⟨s0,s1,s2,s3,s4,s5⟩:=a;go_simp) b ?_;refine ag 1 (.agg #[how,st,crc,pk,lg,nm]) rfl (fun W a=>by obtain⟨s0,s1,s2,s3,s4,s5⟩:=a;go_simp) b ?_;refine ag 4 (.pointer w.heap.size) rfl (fun W a=>by obtain⟨s0,s1,s2,s3,s4,s5⟩:=a;go_simp) b ?_;refine ag 5 (.pointer (some ⟨w.heap.size,5,none⟩)) rfl (fun W a=>by obtain⟨s0,s1,s2,s3,s4,s5⟩:=a;go_simp) b ?_;refine ag 6 (.string nm) rfl (fun W a=>by obtain⟨s0,s1,s2,s3,s4,s5⟩:=a;go_simp) b ?_;have T1:Hid (wi w how st crc pk lg nm W0.drew):=⟨T0.1.drew,T0.2.1,T0.2.2⟩;generalize W0.drew=W1 at *
 refine ah 2 fun K c=>?_;go_simp;go_at_call 128;refine(j W1).mono ?_;rintro e W2⟨rfl,i⟩;have T2:=af (T1.later i);refine Shut.out c _ _ T2.2.2 (fun b=>?_);clear c K i;refine ag 3 (.string ((⟨#[80,75,3,4]⟩:ByteArray)++A)) rfl (fun W a=>by obtain⟨s0,s1,s2,s3,s4,s5⟩:=a;go_simp<;>omega) b ?_;refine ag 7 (.string ((⟨#[80,75,3,4]⟩:ByteArray)++A++nm)) rfl (fun W a=>by obtain⟨s0,s1,s2,s3,s4,s5⟩:=a;go_simp<;>omega) b ?_;refine ah 8 fun K c=>?_;go_simp;refine Shut.out c _ _ T2.2.2 (fun b=>?_);clear c K;refine wpAnyH_done (by kernel_rfl) ?_ _;generalize g:(⟨#[80,75,3,4]⟩:ByteArray)++A++nm=AA;go_wp2;go_ret;exact⟨by subst g;rfl,T2.1⟩
def um(how st crc pk lg:Nat)(nm:ByteArray):(cM how st crc pk lg nm).size=30+nm.size:=by
 unfold cM;rw[a0G,a0G,ft];have:(⟨#[80,75,3,4]⟩:ByteArray).size=4:=rfl;omega
def sg(how st crc pk lg:Nat)(nm a:ByteArray)(w:World)(j:how<65536)(k:st<4294967296)(h2:crc<4294967296)(l:pk<4294967296)(m:lg<4294967296)(n:nm.size<65536)(q:a.size<=100000) :
  Ds 59 #[.agg #[how,st,crc,pk,lg,nm,a]] w (.string (cM how st crc pk lg nm++a)):=by
 have f:=cE
 have o:=af (fun W=>Ba how st crc pk lg nm a W j k h2 l m n);have r:((cM how st crc pk lg nm).size:Int)<=70000:=by rw[um];omega
 have s:(a.size:Int)<=100000:=by omega
 generalize cM how st crc pk lg nm=A at *
 have T0':Hid (wi w how st crc pk lg nm (w.alloc (.cells #[how,st,crc,pk,lg,nm,a] 65))/\(w.alloc (.cells #[how,st,crc,pk,lg,nm,a] 65)).cell? ⟨w.heap.size,6,none⟩=some (.string a)):=⟨⟨cC,by simp,by simp,by simp,by simp,by simp,by simp,by simp⟩,by simp⟩;clear j k h2 l m n q;go_enter func59,ntmps59;go_wp2_with fail;obtain⟨W0,hW0⟩:∃x,w.alloc (.cells #[how,st,crc,pk,lg,nm,a] 65)=x:=⟨_,rfl⟩;rw[hW0]at T0';rw[hW0];have T0:=T0';clear T0' hW0;refine wp_region_held_drew (S:=fun W=>Og W w.heap.size how st crc pk lg nm/\W.cell? ⟨w.heap.size,6,none⟩=some (.string a)) f ⟨T0.1.2.2,T0.2⟩ (fun c=>?_);refine ag 0 (.agg #[how,st,crc,pk,lg,nm,a]) rfl (fun W b=>by obtain⟨⟨s0,s1,s2,s3,s4,s5⟩,s6⟩:=b;go_simp) c ?_;refine ag 2 (.pointer (some ⟨w.heap.size,6,none⟩)) rfl (fun W b=>by obtain⟨⟨s0,s1,s2,s3,s4,s5⟩,s6⟩:=b;go_simp) c ?_;refine ag 3 (.string a) rfl (fun W b=>by obtain⟨⟨s0,s1,s2,s3,s4,s5⟩,s6⟩:=b;go_simp) c ?_;have T1:Hid (wi w how st crc pk lg nm W0.drew/\W0.drew.cell? ⟨w.heap.size,6,none⟩=some (.string a)):=⟨⟨T0.1.1.drew,T0.1.2.1,T0.1.2.2⟩,T0.2⟩;generalize W0.drew=W1 at *
 refine ah 1 fun K d=>?_;go_simp;go_at_call 94;refine(o W1).mono ?_;rintro e W2⟨rfl,g⟩;have T2:Hid (wi w how st crc pk lg nm W2/\W2.cell? ⟨w.heap.size,6,none⟩=some (.string a)):=⟨T1.1.later g,by rw[g.cell (p:=⟨w.heap.size,6,none⟩) T1.1.2.1];exact T1.2⟩;refine Shut.out d _ _ ⟨T2.1.2.2,T2.2⟩ (fun c=>?_);clear d K g;refine ag 4 (.string (A++a)) rfl (fun W b=>by obtain⟨⟨s0,s1,s2,s3,s4,s5⟩,s6⟩:=b;go_simp<;>omega) c ?_;refine ah 5 fun K d=>?_;go_simp;refine Shut.out d _ _ ⟨T2.1.2.2,T2.2⟩ (fun c=>?_);clear d K;refine wpAnyH_done (by kernel_rfl) ?_ _;generalize i:A++a=AA;go_wp2;go_ret;exact⟨by subst i;rfl,T2.1.1⟩
def BC(l:List UInt8):leS l.length (cO l)=l:=by
 apply a2s
 . rw[az]
 . intro j a h2;have h:=Gr l.length (cO l) j h2;rw[DF]at h;rw[List.getD_eq_getElem?_getD,List.getElem?_eq_getElem a,List.getD_eq_getElem?_getD,List.getElem?_eq_getElem h2]at h;simpa using h
def wb(k V:Nat):cO (leS k V)=V%2 ^ (8*k):=by
 induction k with
 | zero=>simp[leS,cO,a1n]
 | succ k ih=>
  simp only[leS];rw[jb,ih,az];have e:2 ^ (8*(k+1))=2 ^ (8*k)*256:=by rw[a2m,a0S]
  rw[e,Nat.mod_mul]
  congr 2
  simp[cO]
def qd(V p k:Nat):V/2 ^ p%2 ^ (k+1)=V/2 ^ p%2 ^ k+V/2 ^ (p+k)%2*2 ^ k:=by
 rw[BS,a1T,←a0S]
def gn(l:List Int):Nat:=(l.map Int.toNat).sum
def sN(a b:List Int):gn (a++b)=gn a+gn b:=by simp[gn]
def lx(x:Int)(b:List Int):gn (x :: b)=x.toNat+gn b:=by simp[gn]
def dX(V:Nat):Nat->List Int->List Int
 | _,[]=>[]
 | p,b :: bs=>((V/2 ^ p%2 ^ b.toNat:Nat):Int) :: dX V (p+b.toNat) bs
def xL(V p:Nat)(l:List Int):(dX V p l).length=l.length:=by
 induction l generalizing p with
 | nil=>rfl
 | cons b l ih=>simp[dX,ih]
def zB(V p:Nat)(a b:List Int):dX V p (a++b)=dX V p a++dX V (p+gn a) b:=by
 induction a generalizing p with
 | nil=>simp[dX,gn]
 | cons x a ih=>simp[dX,ih,lx,a18]
def eR(l:List Int):Bool:=l.all (fun b=>decide (0<=b)&&decide (b<=16))
def kh(s:List UInt8)(l:List Int):Bool:=eR l&&decide (l.length<=4000)&&decide (s.length=(gn l+7)/8)&&decide (cO s<2 ^ gn l)
def AW(s:List UInt8)(l:List Int):List Int:=if kh s l=true then dX (cO s) 0 l else []
def D6{l:List Int}(h:eR l=true)(k:Nat)(a:k<l.length):0<=l.getD k 0/\l.getD k 0<=16:=by
 have:=a1b.1 h (l.getD k 0) (by simp[List.getD,a]);simpa using this
def P7{l:List Int}(h:eR l=true):gn l<=16*l.length:=by
 induction l with
 | nil=>simp[gn]
 | cons b l ih=>
  have a:(0<=b/\b<=16)/\eR l=true:=by simpa[eR]using h
  have:=ih a.2;rw[lx,a0B];omega
def Fz(s:List UInt8)(m:Nat)(h:s.length=(m+7)/8):(cO s/2 ^ m%2 ^ ((8-m%8)%8)=0)<->cO s<2 ^ m:=by
 have a:=qA s;have e:8*s.length=m+(8-m%8)%8:=by omega
 rw[e,a0S]at a;have h2:cO s/2 ^ m<2 ^ ((8-m%8)%8):=Nat.div_lt_of_lt_mul a;rw[a1d h2];constructor
 .
  intro b;rcases Nat.div_eq_zero_iff.1 b with h|h
  . have:=a1l m;omega
  . exact h
 . exact a1U
def wd(l:List UInt8)(i k:Nat):Nat:=cO ((l.drop i).take k)
def GU(l:List UInt8)(i k:Nat):wd l i k<2 ^ (8*k):=by
 unfold wd;refine a0l (qA _) (a0Q (by decide) ?_);rw[a0x];omega
def jk(l:List UInt8)(i:Nat):wd l i 2<65536:=GU l i 2
def eW(l:List UInt8)(i:Nat):wd l i 4<4294967296:=GU l i 4
def fm(h:i+k<=l.length):((l.drop i).take k).length=k:=by
 rw[a0x,a09];omega
def iK(h:i+k<=l.length):leS k (wd l i k)=(l.drop i).take k:=by
 have:=BC ((l.drop i).take k);rw[fm h]at this;exact this
def Rm(k:Nat)(h:i+j<=l.length):wd l i (j+k)=wd l i j+2 ^ (8*j)*wd l (i+j) k:=by
 unfold wd;rw[a3g,jb,fm h,a1Q]
def Sa(h:i+2<=l.length):wd l i 4=wd l i 2+65536*wd l (i+2) 2:=Rm (j:=2) 2 h
def sV{v:Nat}(h:i+k<=l.length)(a:v<2 ^ (8*k)):wd l i k=v<->(l.drop i).take k=leS k v:=by
 constructor
 . intro e;rw[←e,iK h]
 . intro e;unfold wd;rw[e,wb,a1d a]
def J4(h:i+k<=l.length):cO l/2 ^ (8*i)%2 ^ (8*k)=wd l i k:=by
 have e1:cO l=cO (l.take i)+2 ^ (8*i)*cO (l.drop i):=by
  have a:=jb (l.take i) (l.drop i);rw[a1V,a0x,a1u (by omega)]at a;exact a
 have l1:cO (l.take i)<2 ^ (8*i):=by
  have:=qA (l.take i);rw[a0x,a1u (by omega)]at this;exact this
 have e2:cO (l.drop i)=wd l i k+2 ^ (8*k)*cO ((l.drop i).drop k):=by
  have a:=jb ((l.drop i).take k) ((l.drop i).drop k);rw[a1V,fm h]at a;exact a
 rw[e1,Nat.add_mul_div_left _ _ (a1l _),a1U l1,a0H,e2,Nat.add_mul_mod_self_left,a1d (GU l i k)]
theorem vK(V b:Nat):∀(n p j:Nat),j<n->(dX V p (List.replicate n ((b:Nat):Int))).getD j 0=((V/2 ^ (p+b*j)%2 ^ b:Nat):Int)
 | 0,_,_,h=>by omega
 | n+1,p,0,_=>by simp[List.replicate_succ,dX]
 | n+1,p,j+1,h=>by
  rw[List.replicate_succ];simp only[dX,a2C];rw[vK V b n _ j (by omega),a0o,show p+b+b*j=p+b*(j+1) by rw[a2m];omega]
def yU(h:30<=l.length):kh (l.take 30) (List.replicate 15 16)=true:=by
 have e1:gn (List.replicate 15 16)=240:=by decide
 have e2:(l.take 30).length=30:=by rw[a0x];omega
 have e3:eR (List.replicate 15 16)=true:=by decide
 have e4:=qA (l.take 30);rw[e2]at e4;unfold kh;rw[e1,e2,e3];simpa using e4
def EE(h:30<=l.length)(j:Nat)(b:j<15):(AW (l.take 30) (List.replicate 15 16)).getD j 0=((wd l (2*j) 2:Nat):Int):=by
 unfold AW;rw[a0d (yU h)];have a:=vK (cO (l.take 30)) 16 15 0 j b;rw[show((16:Nat):Int)=16 from rfl]at a;rw[a];have e2:(l.take 30).length=30:=by rw[a0x];omega
 have h2:=J4 (l:=l.take 30) (i:=2*j) (k:=2) (by omega);rw[show 0+16*j=8*(2*j) by omega,show(16:Nat)=8*2 from rfl,h2]
 congr 1
 unfold wd;rw[a3T,a3h,a1u (by omega)]
def LK(h:30<=l.length):(AW (l.take 30) (List.replicate 15 16)).length=15:=by
 unfold AW;rw[a0d (yU h),xL,a0w]
def mF(l:List UInt8):Bool:=decide (wd l 0 4=67324752)&&(decide (wd l 4 2=20)&&(decide (wd l 6 2=0)&&decide (wd l 28 2=0)))
def Ft(l:List UInt8)(n:Nat):l.take (30+n)=(l.drop 0).take 4++((l.drop 4).take 2++((l.drop 6).take 2++((l.drop 8).take 2++((l.drop 10).take 4++((l.drop 14).take 4++((l.drop 18).take 4++((l.drop 22).take 4++((l.drop 26).take 2++((l.drop 28).take 2++(l.drop 30).take n))))))))):=by
 have st:∀i k m,(l.drop i).take (k+m)=(l.drop i).take k++(l.drop (i+k)).take m:=fun i k m=>by rw[a3g,a1Q]
 rw[←st 28 2 n,←st 26 2 _,←st 22 4 _,←st 18 4 _,←st 14 4 _,←st 10 4 _,←st 8 2 _,←st 6 2 _,←st 4 2 _,←st 0 4 _,a1N]
 congr 1
 omega
def oO(how st crc pk lg:Nat)(nm:ByteArray):(cM how st crc pk lg nm).data.toList=leS 4 67324752++(leS 2 20++(leS 2 0++(leS 2 how++(leS 4 st++(leS 4 crc++(leS 4 pk++(leS 4 lg++(leS 2 nm.size++(leS 2 0++nm.data.toList))))))))):=by
 have e:leS 4 67324752=[80,75,3,4]:=by decide +kernel
 rw[e];unfold cM eG ax;simp
def LL(h:30+wd l 26 2<=l.length)(b:nm.data.toList=(l.drop 30).take (wd l 26 2)) :
  (cM (wd l 8 2) (wd l 10 4) (wd l 14 4) (wd l 18 4) (wd l 22 4) nm).data.toList.isPrefixOf l=mF l:=by
 have c:nm.size=wd l 26 2:=by
  have:=congrArg List.length b;rw[fm h]at this;simpa using this
 have a:(cM (wd l 8 2) (wd l 10 4) (wd l 14 4) (wd l 18 4) (wd l 22 4) nm).data.toList.length=30+wd l 26 2:=by
  rw[oO,b];simp only[a0i,az,fm h];omega
 rw[a2o,List.isPrefixOf_iff_prefix,List.prefix_iff_eq_take,a,Ft,oO,c,b,
  iK (i:=8) (k:=2) (by omega),iK (i:=10) (k:=4) (by omega),iK (i:=14) (k:=4) (by omega),iK (i:=18) (k:=4) (by omega),iK (i:=22) (k:=4) (by omega),iK (i:=26) (k:=2) (by omega)]
 simp only[mF,a0k,a0t];rw[sV (i:=0) (k:=4) (by omega) (by decide),sV (i:=4) (k:=2) (by omega) (by decide),sV (i:=6) (k:=2) (by omega) (by decide),sV (i:=28) (k:=2) (by omega) (by decide)];constructor
 . intro e;obtain⟨e1,e⟩:=a19 e (by rw[az,fm (by omega)]);obtain⟨e2,e⟩:=a19 e (by rw[az,fm (by omega)]);obtain⟨e3,e⟩:=a19 e (by rw[az,fm (by omega)]);have e:=a2j (a2j (a2j (a2j (a2j (a2j e)))));obtain⟨e4,_⟩:=a19 e (by rw[az,fm (by omega)]);exact⟨e1.symm,e2.symm,e3.symm,e4.symm⟩
 . rintro⟨e1,e2,e3,e4⟩;rw[e1,e2,e3,e4]
def Qc(k:Nat)(h:i<l.length):wd l i (k+1)=(l.getD i 0).toNat+256*wd l (i+1) k:=by
 have e:(l.drop i).take (k+1)=l[i] :: (l.drop (i+1)).take k:=by rw[a2Z h,List.take_succ_cons]
 unfold wd;rw[e,List.getD_eq_getElem?_getD,List.getElem?_eq_getElem h];simp only[cO,a1C]
def FZ{a b:List UInt8}(k:Nat)(h:a.length=m):wd (a++b) (m+i) k=wd b i k:=by
 unfold wd;rw[←h,a3c,a2Q (by omega),a08,a1v]
def hH(b:List UInt8)(h:V<2 ^ (8*k)):wd (leS k V++b) 0 k=V:=by
 unfold wd;rw[a1N,a1P (by rw[az];exact a0a _),a0u (by rw[az];exact a0a _),wb,a1d h]
def uo(r:List UInt8)(d:how<65536)(e:st<4294967296)(h2:crc<4294967296)(f:pk<4294967296)(g:lg<4294967296)(h:nm.size<65536) :
  mF ((cM how st crc pk lg nm).data.toList++r)=true/\wd ((cM how st crc pk lg nm).data.toList++r) 8 2=how/\wd ((cM how st crc pk lg nm).data.toList++r) 10 4=st/\wd ((cM how st crc pk lg nm).data.toList++r) 14 4=crc/\wd ((cM how st crc pk lg nm).data.toList++r) 18 4=pk/\wd ((cM how st crc pk lg nm).data.toList++r) 22 4=lg/\wd ((cM how st crc pk lg nm).data.toList++r) 26 2=nm.size/\(((cM how st crc pk lg nm).data.toList++r).drop 30).take nm.size=nm.data.toList/\((cM how st crc pk lg nm).data.toList++r).drop (30+nm.size)=r:=by
 rw[oO];simp only[a0K];have g4:∀(V:Nat) (b:List UInt8) (i k:Nat),wd (leS 4 V++b) (4+i) k=wd b i k:=fun V b i k=>FZ k (az 4 V);have g2:∀(V:Nat) (b:List UInt8) (i k:Nat),wd (leS 2 V++b) (2+i) k=wd b i k:=fun V b i k=>FZ k (az 2 V);have c:∀(V:Nat) (b:List UInt8) (i:Nat),(leS 4 V++b).drop (4+i)=b.drop i:=fun V b i=>by rw[a3c,a2Q (by rw[az];omega),a08,az,a1v]
 have a:∀(V:Nat) (b:List UInt8) (i:Nat),(leS 2 V++b).drop (2+i)=b.drop i:=fun V b i=>by rw[a3c,a2Q (by rw[az];omega),a08,az,a1v]
 have e30:∀j,30+j=4+(2+(2+(2+(4+(4+(4+(4+(2+(2+j))))))))):=fun j=>by omega
 have l:nm.data.toList.length=nm.size:=by simp
 refine⟨?_,?_,?_,?_,?_,?_,?_,?_,?_⟩
 . unfold mF;rw[hH _ (by decide),show(4:Nat)=4+0 from rfl,g4,hH _ (by decide),show(6:Nat)=4+(2+0)from rfl,g4,g2,hH _ (by decide),show(28:Nat)=4+(2+(2+(2+(4+(4+(4+(4+(2+0))))))))from rfl,g4,g2,g2,g2,g4,g4,g4,g4,g2,hH _ (by decide)];rfl
 . rw[show(8:Nat)=4+(2+(2+0))from rfl,g4,g2,g2,hH _ d]
 . rw[show(10:Nat)=4+(2+(2+(2+0)))from rfl,g4,g2,g2,g2,hH _ e]
 . rw[show(14:Nat)=4+(2+(2+(2+(4+0))))from rfl,g4,g2,g2,g2,g4,hH _ h2]
 . rw[show(18:Nat)=4+(2+(2+(2+(4+(4+0)))))from rfl,g4,g2,g2,g2,g4,g4,hH _ f]
 . rw[show(22:Nat)=4+(2+(2+(2+(4+(4+(4+0))))))from rfl,g4,g2,g2,g2,g4,g4,g4,hH _ g]
 . rw[show(26:Nat)=4+(2+(2+(2+(4+(4+(4+(4+0)))))))from rfl,g4,g2,g2,g2,g4,g4,g4,g4,hH _ h]
 . rw[show(30:Nat)=4+(2+(2+(2+(4+(4+(4+(4+(2+(2+0)))))))))from rfl,c,a,a,a,c,c,c,c,a,a,a1N,a1P (by omega),a0u (by omega)]
 . rw[e30,c,a,a,a,c,c,c,c,a,a,a3c,a2Q (by omega),a08,l,a3S,a1N]
def dR(s:ByteArray)(p k:Nat):Int:=if p+k<=s.size then((wd s.data.toList p k:Nat):Int)else -1
def gZ{s:ByteArray}{p:Nat}(h:p+k<=s.size):dR s p k=((wd s.data.toList p k:Nat):Int):=a0d h
def zl{s:ByteArray}{p:Nat}(h:¬ p+k<=s.size):dR s p k = -1:=a0e h
def KX(s:ByteArray)(i:Nat)(h:i<s.size):s.data.toList.getD i 0=s[i]:=by
 have a:i<s.data.toList.length:=by simpa using h
 rw[List.getD_eq_getElem?_getD,List.getElem?_eq_getElem a];rfl
def Qe(s:ByteArray)(k:Nat)(h:i<s.size):wd s.data.toList i (k+1)=256*wd s.data.toList (i+1) k+s[i].toNat:=by
 rw[Qc k (by simpa using h),KX s i h,a2X]
def Kd{X:Nat}{b:UInt8}(a:(X:Int)<16777216):wrap64 (256*(X:Int)+wrap64 (b.toNat:Int))=((256*X+b.toNat:Nat):Int):=by
 have:=b.toNat_lt;simp only[wrap64];omega
def dG(s:ByteArray)(p k:Nat)(w:World)(y:p<=4000000)(v:k<=4)(C:(s.size:Int)<=4611686018427387904) :
  Ds 45 #[s,.int .i64 (p:Int),.int .i64 (k:Int)] w (.int .i64 (dR s p k)):=by
 have h:(k:Int)<=4:=by omega
 have z:(0:Int)<=(p:Int):=by omega
 have g:(0:Int)<=(k:Int):=by omega
 by_cases c:p+k<=s.size
 .
  rw[gZ c];have d:(p:Int)+(k:Int)<=(s.size:Int):=by omega
  have r:=af c;clear c;go_enter func45,ntmps45;go_wp2_with fail
  go_loopw [7,8] (fun x i wr=>∃q j:Nat,q+j=k/\i = .int .i64 ((q:Int)-1)/\x = .int .i64 ((wd s.data.toList (p+q) j:Nat):Int)/\Below w.heap.size w wr) (fun _ i _=>(intOf i+1).toNat)
  case atStart=>exact⟨k,0,rfl,rfl,by simp[wd,cO],a0c _ _⟩
  case round=>
   obtain⟨q,j,e,rfl,rfl,b⟩:=hrel;have a:=af b;clear b;rcases q with _|q
   .
    obtain rfl:j=k:=by omega
    go_wp2;go_ret;exact⟨rfl,a⟩
   .
    have l:p+q<s.size:=by have:=ae r;omega
    have o:=af (Qe s j l);have u:wd s.data.toList (p+q+1) j<16777216:=a0l (GU _ _ _) (by
     have:8*j<=24:=by omega
     exact a0E (a0Q (by decide) this) (by decide))
    have e1:((q+1:Nat):Int)-1=(q:Int):=by omega
    have e2:p+(q+1)=p+q+1:=rfl;rw[e1,e2];generalize wd s.data.toList (p+q+1) j=X at *
    have f:(X:Int)<16777216:=by omega
    have t:=af e;have A:(p:Int)+(q:Int)<(s.size:Int):=by omega
    have m:0<=(p:Int)+(q:Int):=by omega
    have n:(p:Int)+(q:Int)<=4611686018427387904:=by omega
    have B:(q:Int)<=4:=by omega
    clear u e1 e2 e d h g v y;go_wp2;go_roundw
    case rel=>exact⟨q,j+1,by have:=ae t;omega,by go_num,by rw[ae o,Kd f],a⟩
    case measure=>simp[intOf]
 .
  rw[zl c];have d:(s.size:Int)<(p:Int)+(k:Int):=by omega
  clear c;go_enter func45,ntmps45;go_wp2;go_ret;exact⟨rfl,a0c _ _⟩
def IP(s:ByteArray)(p:Int)(w:World)(a:p<0) :
  Ds 45 #[s,p,.int .i64 2] w (.int .i64 (-1)):=by
 go_enter func45,ntmps45;go_wp2;go_ret;exact⟨rfl,a0c _ _⟩
attribute [local go_sem ↓] Go.wp_at_zero Go.wp_at_succ
def MD(V p k:Nat)(h:k<=16):V/2 ^ p%2 ^ k<65536:=by
 have a:V/2 ^ p%2 ^ k<2 ^ k:=a0Y _ (a1l k);have h2:2 ^ k<=2 ^ 16:=a0Q (by omega) h;omega
def tH(k:Nat)(h:k<=16):p2 k<=65536:=by
 have h2:2 ^ k<=2 ^ 16:=a0Q (by omega) h;have a:p2 k=2 ^ k:=rfl;omega
def iE(b p c:Nat)(s:ByteArray)(w:World)(h:Rdr w b s p)(A:s.size<=2000000)(u:c<=16) :
  Calls prog 213 #[.pointer b,.int .i64 (c:Int)] w fun e w'=>e = .returned (.int .i64 (ak s/2 ^ p%2 ^ c:Nat))/\Rdr w' b s (p+c)/\aw b w w':=by
 have D:=af A;have F:(c:Int)<=16:=by omega
 have B:=af u;clear A u;go_enter func213,ntmps213;go_wp2_with fail
 go_loopw [5,6] (fun n i wr=>∃k:Nat,k<=c/\i = .int .i64 k/\n = .int .i64 (ak s/2 ^ p%2 ^ k:Nat)/\Rdr wr b s (p+k)/\aw b w wr) (fun _ i _=>c-(intOf i).toNat)
 case atStart=>exact⟨0,a0g _,rfl,by simp[a1n],h,aw.refl _ _⟩
 case round=>
  obtain⟨k,v,rfl,rfl,q,d⟩:=hrel;clear h;have C:=af v;by_cases H:k<c
  .
   have G:(k:Int)<(c:Int):=by omega
   have a:k<=16:=by have:=ae B;omega
   have t:Hid (ak s/2 ^ p%2 ^ (k+1)=ak s/2 ^ p%2 ^ k+ak s/2 ^ (p+k)%2*p2 k):=qd (ak s) p k;have m:=MD (ak s) p k a;have I:ak s/2 ^ (p+k)%2<=1:=by omega
   have o:=tH k a;have f:=af (lY b (p+k) s wr q D);have j:=af (fun W=>PO k (p2 k) W (by omega) rfl);generalize ak s/2 ^ p%2 ^ k=n at *
   generalize ak s/2 ^ (p+k)%2=x at *
   generalize p2 k=PW at *
   have g:x*PW<=65536:=by rcases (show x=0∨x=1 by omega)with e|e<;>subst e<;>omega
   have e1:IntKind.i64.wrap ((x:Int)*(PW:Int))=((x*PW:Nat):Int):=by rw[←a1z];exact bK _ (by omega) (by omega)
   have e1':((x:Int)*(PW:Int))=((x*PW:Nat):Int):=by rw[←a1z]
   have z:(n:Int)<65536:=by omega
   have y:((x*PW:Nat):Int)<=65536:=by omega
   generalize E:x*PW=M at *
   clear E a I o m g v q;go_wp2_with fail;refine f.mono ?_;rintro e x1⟨rfl,r,l⟩;go_wp2_with fail;refine(j _).mono ?_;rintro e x2⟨rfl,rfl⟩;go_wp2;go_roundw
   case rel=>exact⟨k+1,by omega,by go_num,by rw[ae t];go_num,r,d.trans l⟩
   case measure=>simp[intOf];omega
  .
   obtain rfl:k=c:=by have:=ae C;omega
   go_wp2;go_ret;exact⟨rfl,q,d⟩
def rest_step(V p j:Nat):(V/2 ^ p%2 ^ (j+1)=0)<->(V/2 ^ p%2 ^ j=0/\V/2 ^ (p+j)%2=0):=by
 rw[qd];have:=a1l j;constructor
 .
  intro h;have a:=Nat.eq_zero_of_add_eq_zero_right h;have h2:=Nat.eq_zero_of_add_eq_zero_left h;rcases Nat.mul_eq_zero.1 h2 with b|b
  . exact⟨a,b⟩
  . omega
 . rintro⟨a,h2⟩;rw[a,h2];simp
def zC(b p:Nat)(s:ByteArray)(w:World)(h:Rdr w b s p)(J:s.size<=2000000)(T:p<=8*s.size) :
  Calls prog 183 #[.pointer b] w fun e w'=>e = .returned (.bool (decide (ak s/2 ^ p%2 ^ ((8-p%8)%8)=0)))/\Rdr w' b s (p+(8-p%8)%8)/\aw b w w':=by
 have N:=af J;have E:(8-p%8)%8<=7:=by omega
 have F:(p+(8-p%8)%8)%8=0:=by omega
 have y:p+(8-p%8)%8<=8*s.size:=by omega
 have f:∀j,j<(8-p%8)%8->(p+j)%8≠0:=by omega
 have V:(s.size:Int)<=2000000:=by omega
 generalize (8-p%8)%8=c at *
 have B:=af y;clear J T y;go_enter func183,ntmps183;go_wp2_with fail
 go_loopw [3] (fun n wr=>∃k m:Nat,k<=c/\n = .int .i64 (m:Nat)/\m<=k/\(m=0<->ak s/2 ^ p%2 ^ k=0)/\Rdr wr b s (p+k)/\aw b w wr) (fun _ wr=>c+p-(match wr.cell? ⟨b,1,none⟩with|some (.int _ i)=>i.toNat|_=>0))
 case atStart=>exact⟨0,0,a0g _,rfl,a0a _,by simp[a1n],h,aw.refl _ _⟩
 case round=>
  obtain⟨k,m,I,rfl,v,u,z,d⟩:=hrel;clear h;have P:=z.at (by have:=ae B;omega);obtain⟨c0,c1,c2,f0,f1,f2,Q⟩:=P;have M:=af I;have r:=af u;have U:((p+k:Nat):Int)<=16000000:=by have:=ae B;omega
  clear u;by_cases g:k<c
  .
   have S:¬ ((p+k:Nat):Int)%8=0:=by have:=f k g;omega
   have G:=af (rest_step (ak s) p k);have K:ak s/2 ^ (p+k)%2<=1:=by omega
   have t:=af (lY b (p+k) s wr z N);generalize ak s/2 ^ (p+k)%2=x at *
   have W:(x:Int)<=1:=by omega
   have R:(m:Int)<=7:=by omega
   have L:=af K;have A:=af v;have q:=af g;have C:=af (show p+k<8*s.size by have:=ae B;omega);clear f K I v g z F E;generalize a:p+k=pk at *
   have o:=af a;clear a;go_wp2_with fail;refine t.mono ?_;rintro e x1⟨rfl,l,D⟩;go_wp2;go_roundw
   case rel=>exact⟨k+1,m+x,q,by go_num,by have:=ae A;have:=ae L;omega,by rw[ae G,←ae r];omega,by rw[←ae o]at l;exact l,d.trans D⟩
   case measure=>
    have O:=(l.at (by have:=ae C;omega)).2.1;rw[O,c1];have:=ae o;have:=ae q;simp;omega
  .
   obtain rfl:k=c:=by have:=ae M;omega
   have X:((p+k:Nat):Int)%8=0:=by omega
   generalize a:p+k=pk at *
   go_wp2;go_ret;refine⟨am ?_,by rw[a];exact z,d⟩;rw[show decide (ak s/2 ^ p%2 ^ k=0)=decide (m=0)from decide_eq_decide.2 r.symm];rcases a2h m with H|H
   . subst H;rfl
   . rw[a0m (by omega)];first|(exact a0m (by omega))|(exact beq_false_of_ne (by omega))|(exact(by omega:False).elim)
end Go.Proofs.YtckocaibjciplaaGreatDoor
namespace Go.Proofs.YtckocaibjciplaaGreatDoor
open Go.Proofs.Tryz
open Go.RowKit Corb
variable {b p:Nat}{s:ByteArray}{w w':World}
def PG(n x k M:Nat)(d:n<p2 k)(g:x<=1)(c:k<=16)(a:x*p2 k=M):bits .or .i64 (n:Int) (M:Int)=((n+M:Nat):Int):=by
 have f:=tH k c;have b:M<=65536:=by
  rcases (show x=0∨x=1 by omega)with e|e<;>subst e<;>omega
 rw[lN n M (by omega) (by omega)]
 congr 1
 rw[Nat.or_comm];rw[nat_join k M n (by rw[←a];exact Nat.mul_mod_left _ _) d];omega
def vJ(b p c:Nat)(num:Int)(s:ByteArray)(w:World)(h:Rdr w b s p)(B:s.size<=2000000)(z:c<=16) :
  Calls prog 258 #[.pointer b,.agg #[num,.int .i64 (c:Int)]] w fun e w'=>e = .returned (.int .i64 (ak s/2 ^ p%2 ^ c:Nat))/\Rdr w' b s (p+c)/\aw b w w':=by
 have F:=af B;have G:(c:Int)<=16:=by omega
 have D:=af z;have q:=h.lt;have y:=h.alloc (.cells #[num,.int .i64 (c:Int)] 159);have j:aw b w (w.alloc (.cells #[num,.int .i64 (c:Int)] 159)):=(aw.refl _ _).alloc (by omega) _;clear B z h;go_enter func258,ntmps258;go_wp2_with fail
 go_loopw [5,6,9] (fun n _ i wr=>∃k:Nat,k<=c/\i = .int .i64 k/\n = .int .i64 (ak s/2 ^ p%2 ^ k:Nat)/\Rdr wr b s (p+k)/\aw b w wr) (fun _ _ i _=>c-(intOf i).toNat)
 case atStart=>exact⟨0,a0g _,rfl,by simp[a1n],y,j⟩
 case round=>
  obtain⟨k,A,rfl,rfl,t,d⟩:=hrel;clear y j;have E:=af A;by_cases q:k<c
  .
   have H:(k:Int)<(c:Int):=by omega
   have a:k<=16:=by have:=ae D;omega
   have v:Hid (ak s/2 ^ p%2 ^ (k+1)=ak s/2 ^ p%2 ^ k+ak s/2 ^ (p+k)%2*p2 k):=qd (ak s) p k;have m:ak s/2 ^ p%2 ^ k<p2 k:=a0Y _ (a1l k);have C:ak s/2 ^ (p+k)%2<=1:=by omega
   have r:=tH k a;have g:=af (rC b (p+k) s wr t F);have f:=kR k;generalize ak s/2 ^ p%2 ^ k=n at *
   generalize ak s/2 ^ (p+k)%2=x at *
   have I:=PG n x k (x*p2 k) m C a rfl;have l:x*p2 k<=65536:=by rcases (show x=0∨x=1 by omega)with e|e<;>rw[e]<;>omega
   have e1':(x:Int)*2 ^ k=((x*p2 k:Nat):Int):=by rw[a1z,f]
   have e1:IntKind.i64.wrap ((x:Int)*2 ^ k)=((x*p2 k:Nat):Int):=by rw[e1'];exact bK _ (by omega) (by omega)
   generalize x*p2 k=M at *
   have e2:IntKind.i64.wrap (M:Int)=(M:Int):=bK _ (by omega) (by omega);have J:(k:Int)<=16:=by omega
   clear a C r l A t m f;go_wp2_with fail;refine g.mono ?_;rintro e x1⟨rfl,u,o⟩;go_wp2;go_roundw
   case rel=>exact⟨k+1,by omega,by go_num,by rw[ae v];go_num,u,d.trans o⟩
   case measure=>simp[intOf];omega
  .
   obtain rfl:k=c:=by have:=ae E;omega
   go_wp2;go_ret;exact⟨rfl,t,d⟩
def PF(m x:Nat)(a:m<=1)(b:x<=1):∃y:Nat,bits .or .i64 (m:Int) (x:Int)=(y:Int)/\y<=1/\(y=0<->m=0/\x=0):=by
 refine⟨m ||| x,lN m x (by omega) (by omega),?_,?_⟩
 . rcases (show m=0∨m=1 by omega)with e|e<;>rcases (show x=0∨x=1 by omega)with f|f<;>subst e<;>subst f<;>decide
 . rcases (show m=0∨m=1 by omega)with e|e<;>rcases (show x=0∨x=1 by omega)with f|f<;>subst e<;>subst f<;>decide
def sJ(b p:Nat)(s:ByteArray)(w:World)(h:Rdr w b s p)(M:s.size<=2000000)(W:p<=8*s.size) :
  Calls prog 126 #[.pointer b] w fun e w'=>e = .returned (.bool (decide (ak s/2 ^ p%2 ^ ((8-p%8)%8)=0)))/\Rdr w' b s (p+(8-p%8)%8)/\aw b w w':=by
 have Q:=af M;have H:(8-p%8)%8<=7:=by omega
 have I:(p+(8-p%8)%8)%8=0:=by omega
 have z:p+(8-p%8)%8<=8*s.size:=by omega
 have f:∀j,j<(8-p%8)%8->(p+j)%8≠0:=by omega
 have Y:(s.size:Int)<=2000000:=by omega
 generalize (8-p%8)%8=c at *
 have E:=af z;clear M W z;go_enter func126,ntmps126;go_wp2_with fail
 go_loopw [3] (fun n wr=>∃k m:Nat,k<=c/\n = .int .i64 (m:Nat)/\m<=1/\(m=0<->ak s/2 ^ p%2 ^ k=0)/\Rdr wr b s (p+k)/\aw b w wr) (fun _ wr=>c+p-(match wr.cell? ⟨b,1,none⟩with|some (.int _ i)=>i.toNat|_=>0))
 case atStart=>exact⟨0,0,a0g _,rfl,by omega,by simp[a1n],h,aw.refl _ _⟩
 case round=>
  obtain⟨k,m,L,rfl,v,u,C,d⟩:=hrel;clear h;have S:=C.at (by have:=ae E;omega);obtain⟨c0,c1,c2,f0,f1,f2,T⟩:=S;have P:=af L;have r:=af u;have X:((p+k:Nat):Int)<=16000000:=by have:=ae E;omega
  clear u;by_cases g:k<c
  .
   have U:¬ ((p+k:Nat):Int)%8=0:=by have:=f k g;omega
   have J:=af (rest_step (ak s) p k);have N:ak s/2 ^ (p+k)%2<=1:=by omega
   have t:=af (rC b (p+k) s wr C Q);generalize ak s/2 ^ (p+k)%2=x at *
   obtain⟨y,V,B,A⟩:=PF m x v N;have O:=af A;have D:=af B;have q:=af g;have F:=af (show p+k<8*s.size by have:=ae E;omega);clear f N L v g C I H A B;generalize a:p+k=pk at *
   have o:=af a;clear a;go_wp2_with fail;refine t.mono ?_;rintro e x1⟨rfl,l,G⟩;go_wp2;go_roundw
   case rel=>exact⟨k+1,y,q,rfl,D,by rw[ae J,←ae r];exact O,by rw[←ae o]at l;exact l,d.trans G⟩
   case measure=>
    have R:=(l.at (by have:=ae F;omega)).2.1;rw[R,c1];have:=ae o;have:=ae q;simp;omega
  .
   obtain rfl:k=c:=by have:=ae P;omega
   have Z:((p+k:Nat):Int)%8=0:=by omega
   generalize a:p+k=pk at *
   go_wp2;go_ret;refine⟨am ?_,by rw[a];exact C,d⟩;rw[show decide (ak s/2 ^ p%2 ^ k=0)=decide (m=0)from decide_eq_decide.2 r.symm];rcases a2h m with K|K
   . subst K;rfl
   . rw[a0m (by omega)];first|(exact a0m (by omega))|(exact beq_false_of_ne (by omega))|(exact(by omega:False).elim)
def bQ(m:List UInt8):List (Int×Int):=m.map fun b=>((b.toNat:Int),8)
def lE(m:List UInt8):(bQ m).length=m.length:=by simp[bQ]
def Hw(m:List UInt8):aY (bQ m)=true:=by
 simp only[aY,bQ,List.all_map,a1b];intro b _;have:=a2t b;have a:p2 (8:Int).toNat=256:=by decide
 have c:pOk (b.toNat:Int) 8=true:=aR.2 ⟨by omega,by omega,by rw[a];omega⟩;exact c
def Ee(m:List UInt8):aU (bQ m)=(cO m,8*m.length):=by
 induction m with
 | nil=>rfl
 | cons b m ih=>
  have e0:bQ (b :: m)=[((b.toNat:Int),(8:Int))]++bQ m:=rfl;have e:aU [((b.toNat:Int),(8:Int))]=(b.toNat,8):=by simp[aU,mU,iD]
  have e2:cO (b :: m)=cO [b]+2 ^ (8*1)*cO m:=jb [b] m;have e3:cO [b]=b.toNat:=by simp[cO]
  rw[e0,kC,ih,e,e2,e3];refine Prod.ext ?_ ?_
  . show b.toNat+cO m*2 ^ 8=b.toNat+2 ^ (8*1)*cO m;rw[a1h]
  . show 8+8*m.length=8*(b :: m).length;rw[a0B];omega
def oJ(m:List UInt8)(h:m.length<=4000):lOk (bQ m)=true:=by
 simp only[lOk,a0k,a2e];exact⟨Hw m,by rw[lE];exact h⟩
def Ed(m:List UInt8)(h:m.length<=4000):oj (bQ m)=m:=by
 rw[dJ (oJ m h),cq,Ee];show leS ((8*m.length+7)/8) (cO m)=m;rw[show(8*m.length+7)/8=m.length by omega];exact BC m
def eT(n:Nat):List (Int×Int):=[(1,1),(0,2),(0,5),((n:Int),16),(((65535-n:Nat):Int),16)]
def ig(n:Nat):Nat:=1+n*256+(65535-n)*16777216
def un(n:Nat)(h:n<=65535):lOk (eT n)=true:=by
 have a:p2 (16:Int).toNat=65536:=by decide
 have a1:pOk 1 1=true:=by decide
 have a2:pOk 0 2=true:=by decide
 have a3:pOk 0 5=true:=by decide
 have a4:pOk (n:Int) 16=true:=aR.2 ⟨by omega,by omega,by rw[a];omega⟩;have a5:pOk ((65535-n:Nat):Int) 16=true:=aR.2 ⟨by omega,by omega,by rw[a];omega⟩;simp only[lOk,aY,eT,a17,a2R,a1,a2,a3,a4,a5];simp
def xe(n:Nat):aU (eT n)=(ig n,40):=by
 simp[aU,mU,eT,iD,ig]
def IB(n:Nat)(h:n<=65535):oj (eT n)=leS 5 (ig n):=by
 rw[dJ (un n h),cq,xe];simp only[Nat.reduceAdd,Nat.reduceDiv]
def A9(n:Nat):(aU (eT n)).2%8=0:=by rw[xe];simp only[Nat.reduceMod]
def xR(L:List UInt8)(h:L.length<=300):oj (eT L.length++bQ L)=leS 5 (ig L.length)++L:=by
 rw[GR (eT L.length) (bQ L) (un _ (by omega)) (oJ L (by omega)) (by rw[lE];simp[eT];omega) (A9 _),IB _ (by omega),Ed L (by omega)]
def fW(L:List UInt8):List UInt8:=if L.length<=300 then leS 5 (ig L.length)++L else []
def N7(n:Nat)(h:n<=300):n ^^^ 65535=65535-n:=by
 apply Nat.eq_of_testBit_eq;intro i;have e1:(65535:Nat)=2 ^ 16-1:=rfl;have e2:65535-n=2 ^ 16-(n+1):=by omega
 rw[e2,Nat.testBit_two_pow_sub_succ (by omega),Nat.testBit_xor,e1,Nat.testBit_two_pow_sub_one];by_cases a:i<16
 . simp[a]
 . have:n.testBit i=false:=Nat.testBit_lt_two_pow (a0l (show n<2 ^ 16 by omega) (a0Q (by omega) (by omega)));simp[a,this]
def KB(b:Nat)(w w':World):Prop:=Below b w w'/\bZ b w w'
def KB.refl(b:Nat)(w:World):KB b w w:=⟨a0c _ _,bZ.refl _ _⟩
def KB.trans{w1 w2:World}(h:KB b w w1)(k:KB b w1 w2):KB b w w2:=⟨h.1.trans k.1,h.2.trans k.2⟩
def KB.drew(h:KB b w w'):KB b w w'.drew:=⟨h.1.drew,h.2.drew⟩
def KB.set(h:KB b w w')(o:Nat)(u:Value):KB b w (w'.setCell ⟨b,o,none⟩ u):=⟨ai h.1 (a0a _) u,h.2.set u⟩
def KB.below{w'':World}(h:KB b w w')(hb:Below w'.heap.size w' w'')(c:b<=w'.heap.size):KB b w w'':=
 ⟨h.1.trans (hb.mono c),h.2.trans ⟨hb.size,fun k a _ _=>hb.block k a⟩⟩
def Cw{W2 WA:World}{v v' v1 v2:Value}{l:List UInt8}{x:UInt8}(T2:Three W2 b v v1 v2)(Y2:Bys W2 b v l)(h:KB b w W2)
  (e:Below (b+1) W2 WA) (d:bZ b W2 WA) (f:Bys WA b v l) (c:w'.ownsRow (b+1) 5 1 v' (l.length+1) (dc l++[.int .u8 (x.toNat:Int)])) (a:WA.grownBy w' v.ownBlock) :
  (∃g cap,v' = .slice (some ⟨g,0,none⟩) (l.length+1) cap)/\Three w' b v v1 v2/\Bys w' b v' (l++[x])/\KB b w w':=by
 obtain⟨i,h2,j,k⟩:=vH T2 Y2 h.1 e c a;exact⟨i,h2,j,k,h.2.trans (d.grown f a)⟩
def M8(b V m:Nat)(num bits:Int)(w:World)(h:Out w b V m)(n0:0<=num)(n1:num<65536)(b0:0<=bits)(b1:bits<=16)(hm:m<=100000) :
  Calls prog 184 #[.pointer b,num,bits] w fun e w'=>e = .returned (.tuple #[]) /\
   Out w' b (V+num.toNat%p2 bits.toNat*p2 m) (m+bits.toNat)/\KB b w w':=by
 obtain⟨n,rfl⟩:=a0p n0;obtain⟨c,rfl⟩:=a0p b0;rw[a0o,a0o];obtain⟨i0,hi,a9,ba,bb⟩:=a0r Tryz.infoU8;go_enter func184,ntmps184;go_wp2
 go_loopw [1,6] (fun x i wr=>∃k:Nat,k<=c/\i = .int .i64 k/\x = .int .i64 (n/p2 k:Nat)/\Out wr b (V+n%p2 k*p2 m) (m+k)/\KB b w wr) (fun _ i _=>c-(intOf i).toNat)
 case atStart=>exact⟨0,a0g _,rfl,by simp[p2],by simpa[p2,a1n]using h,KB.refl _ _⟩
 case round=>
  obtain⟨k,hk,rfl,rfl,z,a⟩:=hrel;by_cases b5:k<c
  .
   have B:=af (zv V n k m);have g:=af (AZ n k);have a6:n/p2 k<=n:=a1X _ _;obtain⟨hV,v,s,G⟩:=z;obtain⟨sa,scap,rfl⟩:=G.form;have a5:=tB (V+n%p2 k*p2 m) (m+k) hV;generalize V+n%p2 k*p2 m=V1 at *
   generalize W:m+k=m1 at *
   have hx:n/p2 k%2<=1:=by omega
   have ad:((n/p2 k:Nat):Int)%2=((n/p2 k%2:Nat):Int):=by omega
   have bd:((n/p2 k:Nat):Int)<65536:=by omega
   have a7:p2 (m1%8)<=128:=qg (m1%8) 7 (by omega);have O:n/p2 k%2*p2 (m1%8)<=1*p2 (m1%8):=a2l _ hx;have y:((n/p2 k%2:Nat):Int)*((p2 (m1%8):Nat):Int)=((n/p2 k%2*p2 (m1%8):Nat):Int):=by simp
   have q:=Cm V1 m1 (n/p2 k%2) hV hx;have d:=Cl V1 m1 (n/p2 k%2) hV hx;have ab:m1%8<8:=a0Y _ (by omega);have l:m1<=100016:=by omega
   have Q:(leS (m1/8) V1).length=m1/8:=az _ _;generalize n/p2 k=nk at *
   generalize a8:nk%2=x at *
   generalize a1:V1/p2 (8*(m1/8))=L at *
   generalize ac:m1%8=r at *
   generalize N:p2 r=P at *
   generalize a2:x*P=X at *
   have ao:=af N;have K:=af W;have a0:=af ac;have E:=af q;have C:=af d;clear W a1 ac N a2 hV q d a8 hx a6;obtain⟨k0,H,I,f0,f1,f2,F⟩:=s;have s:Hid (Three wr b _ _ _):=⟨k0,H,I,f0,f1,f2,F⟩;have b6:(r:Int)<8:=by omega
   have bl:(L:Int)<128:=by omega
   have bs:(X:Int)<=128:=by omega
   have S:(k:Int)<(c:Int):=by omega
   have bk:=af ab;have D:=af l;have Hk:=af hk;have al:Hid (IntKind.i64.wrap ((L:Int)+IntKind.i64.wrap ((nk:Int).tmod 2*(P:Int)))=(L:Int)+(X:Int)):=by
    show IntKind.i64.wrap ((L:Int)+IntKind.i64.wrap ((nk:Int).tmod 2*(P:Int)))=(L:Int)+(X:Int);rw[a10 (by omega),ad,y,bK (X:Int) (by omega) (by omega),bK ((L:Int)+(X:Int)) (by omega) (by omega)]
   clear ab l a7 O a5 hk hm;go_wp2_with fail;go_cut[]from 7 to 62 (fun wc=>wc=(wr.setCell ⟨b,1,none⟩ (.int .i64 ((L:Int)+(X:Int)))).drew)
   case first=>
    go_region_with (go_at_call 217;refine(fF _ _ (by omega)).mono ?_;rintro e w'⟨rfl,rfl⟩;rw[a0o,ae ao])
    all_goals
     go_wp2_with fail
     go_meet
     exact by rw[ae al]
   case rest=>
    have T1:=(s.set1 (.int .i64 ((L:Int)+(X:Int)))).drew;have Y1:=(G.set (o:=1) (.int .i64 ((L:Int)+(X:Int)))).drew;have B1:KB b w _:=(a.set 1 (.int .i64 ((L:Int)+(X:Int)))).drew;rw[←hcut]at T1 Y1 B1;clear hcut G a s k0 H I f0 f1 f2 F y ad;have T1':=af T1;obtain⟨k0,H,I,f0,f1,f2,F⟩:=T1;by_cases aa:(r:Int)=7
    .
     have A:r=7:=by omega
     obtain⟨o1,o2,o3,o4⟩:=ae C A;have O1:=af o1;have O2:=af o2;have O3:=af o3;have O4:=af o4;have M:L+X<256:=by omega
     have a4:=af (pD (L+X) M);have b4:IntKind.u8.wrap ((L:Int)+(X:Int))=(L:Int)+(X:Int):=by
      rw[IntKind.wrap_u8'];omega
     subst A;clear o1 o2 o3 o4 aa M;have T2:=T1'.set2 (.int .i64 8);have Y2:=Y1.set (o:=2) (.int .i64 8);have B2:KB b w _:=B1.set 2 (.int .i64 8);have U:=af Q;clear Q;go_wp2_with fail;generalize wc.setCell ⟨b,2,none⟩ (.int .i64 8)=W2 at *
     clear k0 H I f0 f1 f2 T1' Y1 B1;have T2':=af T2;obtain⟨k0,H,I,f0,f1,f2,a3⟩:=T2;have R:Hid (((UInt8.ofNat (L+X)).toNat:Int)=(L:Int)+(X:Int)):=by
      show((UInt8.ofNat (L+X)).toNat:Int)=(L:Int)+(X:Int);rw[ae a4];omega
     have T:(leS (m1/8) V1).length<=20000:=by have:=ae U;have:=ae D;omega
     have J:=af T;clear T;go_cut[]from 7 to 62 (fun wc2=>∃v',Three wc2 b v' (.int .i64 ((L:Int)+(X:Int))) (.int .i64 8)/\Bys wc2 b v' (leS (m1/8) V1++[UInt8.ofNat (L+X)])/\KB b w wc2)
     case first=>
      go_region_law (refine aP rfl (.tmp 47) (.tmp 53) 22 rfl (b+1) 5 i0 (.int .u8 0) 1 1 a0X hi a9 ba bb rfl (by decide) _ _ _ (by simp[Act.eval]) (Y2.alloc _) ⟨W2.heap.size,0,none⟩ 1 1 [.int .u8 ((L:Int)+(X:Int))] (by simp[Act.eval]) rfl (by intro j u hj;match j,hj with | 0,hj=>simp at hj;subst hj;simp[Addr.add]) (by intro u hu;simp at hu;subst hu;rfl) (by have:=ae J;unfold maxLen;omega) (by have:=ae J;omega) (by simp;omega) ?_;intro v' w' p f Z;clear Z;rw[←ae R]at p;obtain⟨⟨g',bc,rfl⟩,T3,Y3,B3⟩:=Cw T2' Y2 B2 (by first|exact(a0c _ _).alloc (by omega) _|exact((a0c _ _).alloc (by omega) _).drew) (by first|exact(bZ.refl _ _).alloc _|exact((bZ.refl _ _).alloc _).drew) (by first|exact Y2.alloc _|exact(Y2.alloc _).drew) p f;clear p f;have T3':=af T3;obtain⟨q0,q1,q2,e0,e1,e2,b2⟩:=T3)
      all_goals
       go_wp2_with fail
       go_meet
       exact⟨_,T3'.set0 _,Y3.set _,B3.set _ _⟩
     case rest=>
      obtain⟨v',T4,Y4,B4⟩:=hcut;clear k0 H I f0 f1 f2 T2' Y2 B2 a3;obtain⟨va,vc,rfl⟩:=Y4.form;have T4':=af T4;obtain⟨k0,H,I,f0,f1,f2,b3⟩:=T4;go_wp2;go_roundw
      case rel=>
       refine⟨k+1,by have:=ae Hk;omega,by go_num,by rw[←ae g];go_num,?_,(B4.set _ _).set _ _⟩;rw[ae B,show m+(k+1)=m1+1 by have:=ae K;omega];refine⟨O1,.slice va (leS (m1/8) V1++[UInt8.ofNat (L+X)]).length vc,?_,?_⟩
       . rw[ae O2,ae O3];exact(T4'.set1 _).set2 _
       . rw[ae O4];exact(Y4.set _).set _
      case measure=>simp[intOf];omega
    .
     have be:((r:Int)+1 == 8)=false:=by simp;omega
     have t:r<7:=by omega
     obtain⟨o1,o2,o3⟩:=ae E t;have O1:=af o1;have O2:=af o2;have O3:=af o3;have Y:Hid ((m1+1)%8=r+1):=by show(m1+1)%8=r+1;have:=ae a0;omega
     clear o1 o2 o3 t aa;go_wp2;go_roundw
     case rel=>
      refine⟨k+1,by have:=ae Hk;omega,by go_num,by rw[←ae g];go_num,?_,B1.set _ _⟩;rw[ae B,show m+(k+1)=m1+1 by have:=ae K;omega];refine⟨O1,.slice sa (leS (m1/8) V1).length scap,?_,?_⟩
      . rw[ae O2,ae Y];exact T1'.set2 _
      . rw[ae O3];exact Y1.set _
     case measure=>simp[intOf];omega
  .
   have S:k=c:=by omega
   subst S;go_wp2
   go_end0
   exact⟨rfl,z,a⟩
def me(b V m:Nat)(w:World)(h:Out w b V m)(d:m<=90000) :
  Calls prog 185 #[.pointer b] w fun e w'=>e = .returned (.tuple #[])/\Out w' b V (8*((m+7)/8))/\Below b w w':=by
 have j:=af h;obtain⟨k,v,u,n⟩:=h;obtain⟨k0,o,x,f0,f1,f2,q⟩:=u;by_cases l:m%8=0
 .
  have g:((m%8:Nat):Int)=0:=by omega
  have s:Hid (8*((m+7)/8)=m):=by show _=_;omega
  clear l k n k0 o d;go_enter func185,ntmps185;go_wp2
  go_end0
  exact⟨rfl,by rw[ae s];exact j,a0c _ _⟩
 .
  have g:(0:Int)<((m%8:Nat):Int):=by omega
  have t:((m%8:Nat):Int)<8:=by omega
  have a:Hid (m+(8-m%8)=8*((m+7)/8)):=by show _=_;omega
  have i:Hid ((8-((m%8:Nat):Int)).toNat=8-m%8):=by show(8-((m%8:Nat):Int)).toNat=8-m%8;omega
  have f:=af d;clear l k n k0 o d;generalize ((m%8:Nat):Int)=r at *
  go_enter func185,ntmps185;go_wp2_with fail;refine(qi b V m 0 (8-r) _ j (by omega) (by omega) (by omega) (by omega) (by have:=ae f;omega)).mono ?_;rintro e w1⟨rfl,c,hb⟩;rw[ae i]at c;simp only[Int.toNat_zero,Nat.zero_mod,Nat.zero_mul,a1c]at c;rw[ae a]at c;have p:=af c;clear c;go_wp2
  go_end0
  exact⟨rfl,p,hb⟩
def lw(s:ByteArray):s.data.toList.length=s.size:=by simp
def Ox(l:List UInt8)(s:ByteArray):(⟨l.toArray⟩:ByteArray)++s=⟨(l++s.data.toList).toArray⟩:=by
 apply ByteArray.ext;rw[a2a];apply Array.ext';simp
def Bw(s:ByteArray)(w:World)(A:s.size<=300) :
  Ds 153 #[s] w (.string ⟨(leS 5 (ig s.size)++s.data.toList).toArray⟩):=by
 have E:(s.size:Int)<=300:=by omega
 have B:=af (zr w 268);have m:Hid (Below w.heap.size w (w.alloc (.cells #[.slice none 0 0,.int .i64 0,.int .i64 0] 268))):=cC;have q:=af A;clear A;go_enter func153,ntmps153;go_wp2_with fail;refine(qi _ 0 0 1 1 _ B (by omega) (by omega) (by omega) (by omega) (by omega)).mono ?_;rintro e x1⟨rfl,r,d⟩;go_wp2_with fail;refine(qi _ _ _ 0 2 _ r (by omega) (by omega) (by omega) (by omega) (by omega)).mono ?_;rintro e x2⟨rfl,h2,f⟩;have a:Out x2 w.heap.size 1 3:=h2;clear r h2;go_wp2_with fail;refine(me _ _ _ _ a (by omega)).mono ?_;rintro e x3⟨rfl,t,g⟩;have b:Out x3 w.heap.size 1 8:=t;have n:=af ((m.trans d).trans (f.trans g));clear a t d f g;go_wp2_with fail;refine(qi _ _ _ (s.size:Int) 16 _ b (by omega) (by omega) (by omega) (by omega) (by omega)).mono ?_;rintro e x4⟨rfl,u,h⟩;clear b;go_wp2_with fail;refine(qi _ _ _ (65535-(s.size:Int)) 16 _ u (by omega) (by omega) (by omega) (by omega) (by omega)).mono ?_;rintro e x5⟨rfl,x,i⟩;have z:1+((s.size:Int).toNat%p2 (16:Int).toNat*p2 8)+((65535-(s.size:Int)).toNat%p2 (16:Int).toNat*p2 (8+(16:Int).toNat))=ig s.size:=by
  have e16:p2 (16:Int).toNat=65536:=by decide
  have e8:p2 8=256:=by decide
  have e24:p2 (8+(16:Int).toNat)=16777216:=by decide
  rw[e16,e8,e24];unfold ig;have:=ae q;rw[a0o,show(65535-(s.size:Int)).toNat=65535-s.size by omega,a1d (by omega),a1d (by omega)]
 have l:Out x5 w.heap.size (ig s.size) 40:=by rw[←z];exact x
 obtain⟨_,v,T,Y⟩:=l;have j:=lF Y;have o:=af (n.trans (h.trans i));obtain⟨k0,F,G,f0,f1,f2,D⟩:=T;have k:leS (40/8) (ig s.size)=leS 5 (ig s.size):=rfl;rw[k]at j;have p:=af (Ox (leS 5 (ig s.size)) s);clear u x z h i Y F G k;have c:=az 5 (ig s.size);generalize y:leS 5 (ig s.size)=P at j p c;have HP:=af y;have C:¬ 9223372036854775807<P.length+s.size:=by have:=ae q;omega
 clear y c;go_wp2;go_ret;exact⟨by rw[ae HP,←ae p];rfl,o⟩
def kO(k:Int)(w:World) :
  Calls prog 135 #[k] w fun e w'=>e = .returned (.slice w.heap.size 2 2)/\w'=w.alloc (.cells #[.int .i64 1,.int .i64 1,k,.int .i64 2] 159):=by
 go_enter func135,ntmps135;go_wp2;go_ret;exact⟨rfl,rfl⟩
def PX(w:World)(a b c d e f:Value)(t:TypeId)(g:Nat)(i:w.heap.size=g):∀(j:Nat) (u:Value),[a,b,c,d,e,f][j]?=some u->(w.alloc (.cells #[a,b,c,d,e,f] t)).cell? ((⟨g,0,none⟩:Addr).add j)=some u:=by
 subst i;intro j u h
 match j,h with
 | 0,h=>simp at h;subst h;simp[Addr.add]
 | 1,h=>simp at h;subst h;simp[Addr.add]
 | 2,h=>simp at h;subst h;simp[Addr.add]
 | 3,h=>simp at h;subst h;simp[Addr.add]
 | 4,h=>simp at h;subst h;simp[Addr.add]
 | 5,h=>simp at h;subst h;simp[Addr.add]
def PV(a b c d e f:Int):∀u∈[Value.int .i64 a,.int .i64 b,.int .i64 c,.int .i64 d,.int .i64 e,.int .i64 f],u.oneCell'=true:=by
 intro u g;simp at g;rcases g with rfl|rfl|rfl|rfl|rfl|rfl<;>rfl
def NC(s:ByteArray)(i:Nat)(h:i<s.size):s.data.toList.take (i+1)=s.data.toList.take i++[s[i]]:=by
 have a:=lw s;rw[List.take_add_one,List.getElem?_eq_getElem (by omega)];simp;rfl
def Ag(m:List UInt8)(b:UInt8):bQ m++[((b.toNat:Int),(8:Int))]=bQ (m++[b]):=by simp[bQ]
def Ib(s:ByteArray)(w:World):∃(c:Nat) (x:World) (cs:Array Value) (f:Nat×Nat),(convert 9 22 (.string s)).run prog w = .ok (.slice w.heap.size s.size c) x/\Below w.heap.size w x/\x.heap[w.heap.size]?=some (.cells cs 5 f)/\∀i (h:i<s.size),cs[i]?=some (.int .u8 (s[i].toNat:Int)):=by
 refine⟨_,_,bytesRow s (grownCap w s.size 0 5),((bytesRow s (grownCap w s.size 0 5)).size,(bytesRow s (grownCap w s.size 0 5)).size+1),run_bytes_of_string w _ _ _ s a15 a0X a14,?_,?_,?_⟩
 . exact((a0c _ w).drew).alloc (by simp) _
 . exact Array.getElem?_push_size
 . intro i h;exact bytesRow_at s (grownCap w s.size 0 5) i h
def Nk{i:Nat}{a:Array Value}{t:TypeId}{f:Nat×Nat}{v:Value}(h:w.heap[b]?=some (.cells a t f))(c:a[i]?=some v):w.cell? ⟨b,i,none⟩=some v:=by
 unfold World.cell?;rw[h];exact c
def wo(s:ByteArray)(w:World)(U:s.size<=300) :
  Ds 104 #[s] w (.string ⟨(leS 5 (ig s.size)++s.data.toList).toArray⟩):=by
 obtain⟨i0,C,H,I,J⟩:=a0r Tryz.infoPiece;have ab:(s.size:Int)<=300:=by omega
 have hI:¬ (300:Int)<(s.size:Int):=by omega
 obtain⟨N,hN⟩:∃N:Nat,65535-s.size=N:=⟨_,rfl⟩;have hx:bits .xor .i64 (s.size:Int) 65535=(N:Int):=by
  have:=mN s.size 65535 (by omega) (by omega);rw[N7 s.size U,hN]at this;exact this
 have HH:Hid (eT s.size=[(1,1),(0,2)]++[(0,5),((s.size:Int),16),((N:Int),16)]):=by show _=_;unfold eT;rw[hN];rfl
 have P:Hid ((w.alloc (.cells #[.int .i64 1,.int .i64 1,.int .i64 0,.int .i64 2] 159)).ownsRow w.heap.size 159 2 (.slice w.heap.size 2 2) 2 [.int .i64 1,.int .i64 1,.int .i64 0,.int .i64 2]):=a0U w #[.int .i64 1,.int .i64 1,.int .i64 0,.int .i64 2] 2 (a0a _) (by unfold maxLen;omega) rfl;have K:Hid (Below w.heap.size w (w.alloc (.cells #[.int .i64 1,.int .i64 1,.int .i64 0,.int .i64 2] 159))):=cC;have E:=af (xR s.data.toList (by rw[lw];exact U));have O:=af (lw s);have bd:Hid (2+3<=maxLen/\(2+3)*16<=140737488355328):=by show _/\_;unfold maxLen;omega
 clear U hN;go_enter func104,ntmps104;go_wp2_with fail;refine(kO 0 w).mono ?_;rintro e x1⟨rfl,r⟩;have x:=af (show x1.ownsRow w.heap.size 159 2 (.slice w.heap.size 2 2) 2 [.int .i64 1,.int .i64 1,.int .i64 0,.int .i64 2] by rw[r];exact P);have u:=af (show Below w.heap.size w x1 by rw[r];exact K);have n:=u.size;clear r;go_wp2_with (at_builtin;refine a0v _ rfl _ _ 156 rfl w.heap.size 159 i0 (.agg #[.int .i64 0,.int .i64 0]) 2 16 a1w C H I J rfl (by decide) (.slice w.heap.size 2 2) _ _ rfl (a0n x _) ⟨x1.heap.size,0,none⟩ 3 3 [.int .i64 0,.int .i64 5,.int .i64 (s.size:Nat),.int .i64 16,.int .i64 (N:Nat),.int .i64 16] rfl rfl (PX _ _ _ _ _ _ _ _ _ rfl) (PV _ _ _ _ _ _) bd.1 bd.2 (au n _) ?_;intro v' x2 c a f;clear f;obtain⟨c3,x3,cs,fz,R,o,B,A⟩:=Ib s x2);have j:Below w.heap.size w x2:=aH (v:=.slice w.heap.size 2 2) a x (a0a _) n u;have g:Pcs x2 w.heap.size v' (eT s.size):=by rw[ae HH];exact c
 have F:=af (g.later o (a0a _));have L:=af (aj j o);have M:Hid (∀W,bF 5 x3 W->∀i (C:i<s.size),W.cell? ⟨x2.heap.size,i,none⟩=some (.int .u8 (s[i].toNat:Int))):=fun W h i C=>Nk (h _ _ _ B) (A i C);generalize x2.heap.size=G at *
 obtain⟨va,vc,rfl⟩:=F.form;have S:Hid ((eT s.size).length=5):=rfl;clear c a j g R o A B
 go_loopw [4,6,23] (fun v _ i wr=>∃k:Nat,k<=s.size/\i = .int .i64 k/\Pcs wr w.heap.size v (eT s.size++bQ (s.data.toList.take k))/\bF 5 x3 wr/\Below w.heap.size w wr) (fun _ _ i _=>s.size-(intOf i).toNat)
 case atStart=>exact⟨0,a0g _,rfl,by simpa[bQ]using ae F,bF.refl _ _,L⟩
 case round=>
  obtain⟨k,hk,rfl,hq,l,d⟩:=hrel;have b:Hid ((eT s.size++bQ (s.data.toList.take k)).length=5+k):=by
   show _=_;rw[a0i,ae S,lE,a0x,ae O];omega
  obtain⟨Y,Z,rfl⟩:=hq.formN b;by_cases p:k<s.size
  .
   have aa:(k:Int)<(s.size:Int):=by omega
   have Q:=ae M wr l k p;have X:(s[k].toNat:Int)<256:=by have:=a2t s[k];omega
   have V:Hid (eT s.size++bQ (s.data.toList.take k)++[((s[k].toNat:Int),(8:Int))]=eT s.size++bQ (s.data.toList.take (k+1))):=by show _=_;rw[a0K,Ag,NC s k p]
   have t:Hid (5+k+1<=maxLen/\(5+k+1)*16<=140737488355328):=by show _/\_;unfold maxLen;omega
   have q:=af (hq.own b);have z:=d.size;have m:=af (a0b d l);clear hq d l;go_wp2_with (at_builtin;refine a0v _ rfl _ _ 156 rfl w.heap.size 159 i0 (.agg #[.int .i64 0,.int .i64 0]) 2 16 a1w C H I J rfl (by decide) (.slice Y (5+k) Z) _ _ rfl (a0n q _) ⟨wr.heap.size,0,none⟩ 1 1 [.int .i64 (s[k].toNat:Int),.int .i64 8] rfl rfl (tK _ _ _ _) (tJ _ _) t.1 t.2 (au z _) ?_;intro v' y2 c a f;clear f);have j:=aH (v:=.slice Y (5+k) Z) a q (a0a _) z m.1;have g:=Jw b c;rw[ae V]at g;have D:=(m.2.alloc (.cells #[.int .i64 (s[k].toNat:Int),.int .i64 8] 159)).grown (a0n q _) (by decide) a;clear c a;go_wp2;go_roundw
   case rel=>exact⟨k+1,by omega,by go_num,g,D,j⟩
   case measure=>simp[intOf];omega
  .
   obtain rfl:k=s.size:=by omega
   have y:Hid (s.data.toList.take s.size=s.data.toList):=a0u (by rw[ae O];exact a0a _);rw[ae y]at hq b;have T:Hid (oj (eT s.size++bQ s.data.toList)=leS 5 (ig s.size)++s.data.toList):=by have:=ae E;rw[ae O]at this;exact this
   have HP:=af (gq Y Z (eT s.size++bQ s.data.toList) wr (hq.rowN b) (by rw[ae b];omega));rw[ae b,ae T]at HP;clear hq hk p l;go_wp2_with fail;refine HP.mono ?_;rintro e y1⟨rfl,hy⟩;go_wp2;go_ret;exact⟨rfl,aj d hy⟩
def rk(s:ByteArray)(w:World)(b:s.size<=1048576) :
  Ds 104 #[s] w (.string ⟨(fW s.data.toList).toArray⟩):=by
 by_cases a:s.size<=300
 .
  have e:fW s.data.toList=leS 5 (ig s.size)++s.data.toList:=by unfold fW;rw[lw,a0d a]
  rw[e];exact wo s w a
 .
  have c:(300:Int)<(s.size:Int):=by omega
  have e:fW s.data.toList=[]:=by unfold fW;rw[lw,a0e a]
  rw[e];clear b a e;go_enter func104,ntmps104;go_wp2;go_ret;exact⟨rfl,a0c _ _⟩
def jd(w:World)(b:Nat)(s:ByteArray)(p:Nat):Prop:=Three w b (.string s) (.int .i64 (min p (8*s.size):Nat)) (.bool true)
def jd.before(h:jd w b s p)(a:p<8*s.size):Three w b (.string s) (.int .i64 (p:Int)) (.bool true):=by
 unfold jd at h;rwa[a1u (by omega)]at h
def jd.next(h:Three w b (.string s) (.int .i64 ((p:Int)+1)) (.bool true))(a:p<8*s.size):jd w b s (p+1):=by
 unfold jd;rwa[a1u (by omega)]
def jd.past(h:jd w b s p)(a:8*s.size<=p):Three w b (.string s) (.int .i64 (8*s.size:Nat)) (.bool true):=by
 unfold jd at h;rwa[a3A (by omega)]at h
def jd.bad(h:Three w b (.string s) (.int .i64 (8*s.size:Nat)) (.bool true))(a:8*s.size<=p):jd w b s (p+1):=by
 unfold jd;rwa[a3A (by omega)]
def jd.at(h:jd w b s p)(a:p<=8*s.size):Three w b (.string s) (.int .i64 (p:Int)) (.bool true):=by
 unfold jd at h;rwa[a1u (by omega)]at h
attribute [local go_sem ↓] Go.wp_at_zero Go.wp_at_succ
def tT(b p:Nat)(s:ByteArray)(w:World)(h:jd w b s p)(r:s.size<=2000000) :
  Calls prog 212 #[.pointer b] w fun e w'=>e = .returned (.int .i64 (ak s/2 ^ p%2:Nat))/\jd w' b s (p+1)/\aw b w w':=by
 have u:(s.size:Int)<=2000000:=by omega
 by_cases g:p<8*s.size
 .
  have d:=h.before g;have hq:p/8<s.size:=by omega
  have hb:=vw s p hq;generalize m:ak s/2 ^ p%2=N at *
  have l:=af g;have t:(p:Int)<8*(s.size:Int):=by omega
  have j:p2 (p%8)<=128:=qg (p%8) 7 (by omega);have i:=lT (p%8);have a:=af d;obtain⟨c0,c1,c2,f0,f1,f2,n⟩:=d;have c:(s[p/8]).toNat/p2 (p%8)%2=N:=hb;clear h m hb;obtain⟨Q,hQ⟩:∃Q,p/8=Q:=⟨_,rfl⟩;obtain⟨R,hR⟩:∃R,p%8=R:=⟨_,rfl⟩;simp only[hQ,hR]at c j i hq;have o:=(s[Q]).toNat_lt;generalize f:p2 R=PW at *
  have k:=af (fun W=>PO R PW W (by omega) f);have e1:IntKind.i64.wrap (Q:Int)=(Q:Int):=bK _ (by omega) (by omega);have e2:(p:Int)/8=(Q:Int):=by omega
  have e3:(p:Int)%8=(R:Int):=by omega
  have e4:Int.tmod (p:Int) 8=(R:Int):=by rw[a10 (by omega)];exact e3
  have e5:(Q:Int)<(s.size:Int):=by omega
  have e6:(0:Int)<=(Q:Int):=by omega
  have q:(s[Q]).toNat/PW<=(s[Q]).toNat:=a1X _ _;have e7:((s[Q]).toNat:Int)/(PW:Int)=(((s[Q]).toNat/PW:Nat):Int):=by simp
  have e0:(0:Int)<=((s[Q]).toNat:Int)/(PW:Int)/\((s[Q]).toNat:Int)/(PW:Int)<=255:=by rw[e7];exact⟨a3B _,by omega⟩
  have e8:IntKind.i64.wrap (((s[Q]).toNat:Int)/(PW:Int))=((s[Q]).toNat:Int)/(PW:Int):=bK _ (by omega) (by omega);have e10:((s[Q]).toNat:Int)/(PW:Int)%2=(N:Int):=by rw[e7];exact_mod_cast c
  have e9:Int.tmod (((s[Q]).toNat:Int)/(PW:Int)) 2=(N:Int):=by rw[a10 e0.1];exact e10
  have e14:IntKind.i64.wrap ((s[Q]).toNat:Int)=((s[Q]).toNat:Int):=bK _ (by omega) (by omega);have e12:¬ PW=0:=by omega
  clear r g hQ hR f c q o j i e7 e0;go_enter a3C,a3D;go_wp2
  go_quiet (fail)
  go_wp2
  go_region_held3 (fun W=>W.cell? ⟨b,0,none⟩=some (.string s)/\W.cell? ⟨b,1,none⟩=some (.int .i64 (p:Int))) (first|exact⟨c0,c1⟩|assumption) (first|(go_at_call 217;refine(k _).mono ?_;rintro e w'⟨rfl,rfl⟩))
  all_goals
   go_wp2;go_ret;exact⟨rfl,jd.next (by exact a.set1 _) l,jF _ _ _ _ _⟩
 .
  have d:=h.past (by omega);have a:=af d;have l:=af g;have m:=af (nT s p (by omega));obtain⟨c0,c1,c2,f0,f1,f2,n⟩:=d;rw[a1z]at c1;clear h g r;go_enter a3C,a3D;go_wp2
  go_quiet (fail)
  go_wp2;go_ret;exact⟨aI (by rw[ae m];rfl),jd.bad (a.set2 _) (by have:=ae l;omega),jF _ _ _ _ _⟩
def D4(b p c:Nat)(s:ByteArray)(w:World)(h:jd w b s p)(A:s.size<=2000000)(u:c<=16) :
  Calls prog 213 #[.pointer b,.int .i64 (c:Int)] w fun e w'=>e = .returned (.int .i64 (ak s/2 ^ p%2 ^ c:Nat))/\jd w' b s (p+c)/\aw b w w':=by
 have D:=af A;have F:(c:Int)<=16:=by omega
 have B:=af u;clear A u;go_enter func213,ntmps213;go_wp2_with fail
 go_loopw [5,6] (fun n i wr=>∃k:Nat,k<=c/\i = .int .i64 k/\n = .int .i64 (ak s/2 ^ p%2 ^ k:Nat)/\jd wr b s (p+k)/\aw b w wr) (fun _ i _=>c-(intOf i).toNat)
 case atStart=>exact⟨0,a0g _,rfl,by simp[a1n],h,aw.refl _ _⟩
 case round=>
  obtain⟨k,v,rfl,rfl,q,d⟩:=hrel;clear h;have C:=af v;by_cases H:k<c
  .
   have G:(k:Int)<(c:Int):=by omega
   have a:k<=16:=by have:=ae B;omega
   have t:Hid (ak s/2 ^ p%2 ^ (k+1)=ak s/2 ^ p%2 ^ k+ak s/2 ^ (p+k)%2*p2 k):=qd (ak s) p k;have m:=MD (ak s) p k a;have I:ak s/2 ^ (p+k)%2<=1:=by omega
   have o:=tH k a;have f:=af (tT b (p+k) s wr q D);have j:=af (fun W=>PO k (p2 k) W (by omega) rfl);generalize ak s/2 ^ p%2 ^ k=n at *
   generalize ak s/2 ^ (p+k)%2=x at *
   generalize p2 k=PW at *
   have g:x*PW<=65536:=by rcases (show x=0∨x=1 by omega)with e|e<;>subst e<;>omega
   have e1:IntKind.i64.wrap ((x:Int)*(PW:Int))=((x*PW:Nat):Int):=by rw[←a1z];exact bK _ (by omega) (by omega)
   have e1':((x:Int)*(PW:Int))=((x*PW:Nat):Int):=by rw[←a1z]
   have z:(n:Int)<65536:=by omega
   have y:((x*PW:Nat):Int)<=65536:=by omega
   generalize E:x*PW=M at *
   clear E a I o m g v q;go_wp2_with fail;refine f.mono ?_;rintro e x1⟨rfl,r,l⟩;go_wp2_with fail;refine(j _).mono ?_;rintro e x2⟨rfl,rfl⟩;go_wp2;go_roundw
   case rel=>exact⟨k+1,by omega,by go_num,by rw[ae t];go_num,r,d.trans l⟩
   case measure=>simp[intOf];omega
  .
   obtain rfl:k=c:=by have:=ae C;omega
   go_wp2;go_ret;exact⟨rfl,q,d⟩
def yA(b p:Nat)(s:ByteArray)(w:World)(h:jd w b s p)(J:s.size<=2000000)(T:p<=8*s.size) :
  Calls prog 183 #[.pointer b] w fun e w'=>e = .returned (.bool (decide (ak s/2 ^ p%2 ^ ((8-p%8)%8)=0)))/\jd w' b s (p+(8-p%8)%8)/\aw b w w':=by
 have N:=af J;have E:(8-p%8)%8<=7:=by omega
 have F:(p+(8-p%8)%8)%8=0:=by omega
 have y:p+(8-p%8)%8<=8*s.size:=by omega
 have f:∀j,j<(8-p%8)%8->(p+j)%8≠0:=by omega
 have V:(s.size:Int)<=2000000:=by omega
 generalize (8-p%8)%8=c at *
 have B:=af y;clear J T y;go_enter func183,ntmps183;go_wp2_with fail
 go_loopw [3] (fun n wr=>∃k m:Nat,k<=c/\n = .int .i64 (m:Nat)/\m<=k/\(m=0<->ak s/2 ^ p%2 ^ k=0)/\jd wr b s (p+k)/\aw b w wr) (fun _ wr=>c+p-(match wr.cell? ⟨b,1,none⟩with|some (.int _ i)=>i.toNat|_=>0))
 case atStart=>exact⟨0,0,a0g _,rfl,a0a _,by simp[a1n],h,aw.refl _ _⟩
 case round=>
  obtain⟨k,m,I,rfl,v,u,z,d⟩:=hrel;clear h;have P:=z.at (by have:=ae B;omega);obtain⟨c0,c1,c2,f0,f1,f2,Q⟩:=P;have M:=af I;have r:=af u;have U:((p+k:Nat):Int)<=16000000:=by have:=ae B;omega
  clear u;by_cases g:k<c
  .
   have S:¬ ((p+k:Nat):Int)%8=0:=by have:=f k g;omega
   have G:=af (rest_step (ak s) p k);have K:ak s/2 ^ (p+k)%2<=1:=by omega
   have t:=af (tT b (p+k) s wr z N);generalize ak s/2 ^ (p+k)%2=x at *
   have W:(x:Int)<=1:=by omega
   have R:(m:Int)<=7:=by omega
   have L:=af K;have A:=af v;have q:=af g;have C:=af (show p+k<8*s.size by have:=ae B;omega);clear f K I v g z F E;generalize a:p+k=pk at *
   have o:=af a;clear a;go_wp2_with fail;refine t.mono ?_;rintro e x1⟨rfl,l,D⟩;go_wp2;go_roundw
   case rel=>exact⟨k+1,m+x,q,by go_num,by have:=ae A;have:=ae L;omega,by rw[ae G,←ae r];omega,by rw[←ae o]at l;exact l,d.trans D⟩
   case measure=>
    have O:=(l.at (by have:=ae C;omega)).2.1;rw[O,c1];have:=ae o;have:=ae q;simp;omega
  .
   obtain rfl:k=c:=by have:=ae M;omega
   have X:((p+k:Nat):Int)%8=0:=by omega
   generalize a:p+k=pk at *
   go_wp2;go_ret;refine⟨am ?_,by rw[a];exact z,d⟩;rw[show decide (ak s/2 ^ p%2 ^ k=0)=decide (m=0)from decide_eq_decide.2 r.symm];rcases a2h m with H|H
   . subst H;rfl
   . rw[a0m (by omega)];first|(exact a0m (by omega))|(exact beq_false_of_ne (by omega))|(exact(by omega:False).elim)
end Go.Proofs.YtckocaibjciplaaGreatDoor
namespace Go.Proofs.YtckocaibjciplaaGreatDoor
open Go.Proofs.Tryz
open Corb
variable {l:List Int}{s:List UInt8}
def bitsOf(l:List (Int×Int)):List Int:=l.map (·.2)
def numsOf(l:List (Int×Int)):List Int:=l.map (·.1)
def Cx(V p q:Nat)(l:List Int):dX V (p+q) l=dX (V/2 ^ p) q l:=by
 induction l generalizing q with
 | nil=>rfl
 | cons b l ih=>
  simp only[dX];rw[a1T,←a0S,←ih,a18]
def Jy(l:List (Int×Int))(W:Nat)(h:aY l=true):dX ((aU l).1+W*2 ^ (aU l).2) 0 (bitsOf l)=numsOf l:=by
 induction l generalizing W with
 | nil=>rfl
 | cons p l ih=>
  have a:pOk p.1 p.2=true/\aY l=true:=by simpa[aY]using h
  obtain⟨⟨d,e⟩,n0,n1⟩:=aR.1 a.1;have e1:aU [p]=(p.1.toNat,p.2.toNat):=by simp[aU,mU,iD]
  have e2:aU (p :: l)=(p.1.toNat+(aU l).1*2 ^ p.2.toNat,p.2.toNat+(aU l).2):=by
   rw[show p :: l=[p]++l from rfl,kC,e1]
  have b:p.1.toNat<2 ^ p.2.toNat:=by
   have:((p2 p.2.toNat:Nat):Int)=((2 ^ p.2.toNat:Nat):Int):=rfl;omega
  have c:(aU (p :: l)).1+W*2 ^ (aU (p :: l)).2=p.1.toNat+((aU l).1+W*2 ^ (aU l).2)*2 ^ p.2.toNat:=by
   rw[e2];simp only;rw[a0S,a1H,a18]
   congr 2
   rw[a1h (2 ^ p.2.toNat),a1J]
  rw[c];show((((p.1.toNat+((aU l).1+W*2 ^ (aU l).2)*2 ^ p.2.toNat)/2 ^ 0%2 ^ p.2.toNat:Nat):Int)) :: dX _ (0+p.2.toNat) (bitsOf l)=p.1 :: numsOf l;rw[Nat.pow_zero,Nat.div_one,Nat.add_mul_mod_self_right,a1d b];rw[show 0+p.2.toNat=p.2.toNat+0 by omega,Cx,Nat.add_mul_div_right _ _ (a1l _),a1U b,a0H,ih W a.2]
  congr 1
  omega
def JK{l:List (Int×Int)}(h:aY l=true):gn (bitsOf l)=(aU l).2:=by
 have b:=rS l h;have h2:(gn (bitsOf l):Int)=bX l:=by
  clear b;induction l with
  | nil=>rfl
  | cons p l ih=>
   have a:pOk p.1 p.2=true/\aY l=true:=by simpa[aY]using h
   obtain⟨⟨c,d⟩,_⟩:=aR.1 a.1;have:=ih a.2;simp only[bitsOf,a0C,bX,a0P]at this ⊢;rw[lx];omega
 omega
def NW{l:List (Int×Int)}(h:lOk l=true):cO (oj l)=(aU l).1:=by
 have a:aY l=true:=by simp only[lOk,a0k]at h;exact h.1
 rw[dJ h,cq,wb,a1d];exact a0l (zL l a) (a0Q (by omega) (by omega))
open Go.RowKit
def uu(a:Option Addr)(cap n:Nat)(l:List (Int×Int))(w:World)(c:l.length=n)(h:oF w a l)(b:n<=1000000000) :
  Ds 124 #[.slice a n cap] w (.int .i64 (ow l)):=by
 subst c;exact iv a cap l w h b
def AX(h:eR l=false∨4000<l.length):kh s l=false/\AW s l=[]:=by
 have a:kh s l=false:=by
  unfold kh;rcases h with h|h
  . simp[h]
  . simp;omega
 exact⟨a,a0e (by simp[a])⟩
def LF(h:eR l=true)(a:l.length<=4000):kh s l=(decide (s.length=(gn l+7)/8)&&decide (cO s<2 ^ gn l)):=by
 simp[kh,h,a]
def OV(h:kh s l=false):AW s l=[]:=a0e (by simp[h])
def LE(h:kh s l=true):AW s l=dX (cO s) 0 l:=a0d h
def qk{v:Value}{a b:Bool}(h:a=b):Ending.returned (.tuple #[v,.bool a]) = .returned (.tuple #[v,.bool b]):=by rw[h]
def blank(l:List Int):List (Int×Int):=l.map fun b=>(0,b)
def nt(l:List Int):(blank l).length=l.length:=by simp[blank]
def Jm(b:Int):pOk 0 b=inB b 0 16:=by
 rw[a2o,aR,aG];have:=lT b.toNat
 constructor
 . exact fun h=>h.1
 . exact fun h=>⟨h,by omega,by omega⟩
def KS(l:List Int):aY (blank l)=eR l:=by
 simp only[aY,eR,blank,List.all_map]
 congr 1
 funext b
 exact Jm b
def Hh(l:List Int)(h:eR l=true):bX (blank l)=(gn l:Int):=by
 induction l with
 | nil=>rfl
 | cons b l ih=>
  have a:(0<=b/\b<=16)/\eR l=true:=by simpa[eR]using h
  have:=ih a.2;simp only[bX,blank,a0C,a0P]at this ⊢;rw[lx,this];omega
def D7(l:List Int)(a:l.length<=4000):ow (blank l)=if eR l=true then(gn l:Int)else -1:=by
 unfold ow lOk;rw[KS,nt];rcases hb:eR l with _|_
 . simp
 . simp[a,Hh l hb]
def D8(l:List Int)(b:Int):blank (l++[b])=blank l++[(0,b)]:=by simp[blank]
def Hg(l:List Int)(k:Nat)(h:k<l.length):(blank l).getD k (0,0)=(0,l.getD k 0):=by
 simp[blank,List.getD,h]
def zY(b:Int)(w:World) :
  Ds 123 #[b] w (.agg #[.int .i64 0,b]):=by
 go_enter func123,ntmps123;go_wp2;exact a0F (v:=.agg #[.int .i64 0,b]) (by simp[results,results123,go_sem]) rfl ⟨rfl,cC⟩
def Ii(a:Option Addr)(cap:Nat)(l:List Int)(w:World)(h:br w a l)(G:l.length<=4000) :
  Calls prog 122 #[.slice a l.length cap,.func (.func 123) #[] #[]] w fun e w'=>∃v,e = .returned v/\Pcs w' w.heap.size v (blank l)/\Below w.heap.size w w':=by
 have F:=af G;have L:(l.length:Int)<=4000:=by omega
 clear G;obtain⟨i0,M,C,D,E⟩:=a0r Tryz.infoPiece;go_enter func122,ntmps122;go_wp2_with fail
 go_loopw [5,7,10] (fun o _ i wr=>∃k:Nat,k<=l.length/\i = .int .i64 k/\Pcs wr w.heap.size o (blank (l.take k))/\Below w.heap.size w wr) (fun _ _ i _=>l.length-(intOf i).toNat)
 case atStart=>exact⟨0,a0g _,rfl,a1a _ _ _ _,a0c _ _⟩
 case round=>
  obtain⟨k,I,rfl,hq,b⟩:=hrel;by_cases t:k<l.length
  .
   obtain⟨g,o,rfl,N,H⟩:=(h.later b) (by omega);have c0:=H k t;have B:=af (cn l k t);have s:Hid ((blank (l.take k)).length=k):=by show(blank (l.take k)).length=k;rw[nt];simp;omega
   have K:=af I;clear H I h;generalize l.getD k 0=y at *
   go_wp2_with fail;refine(zY y _).mono ?_;rintro e x1⟨rfl,n⟩;have q:=Pcs.later hq n (a0a _);have c:=aj b n;have r:=c.size;clear hq b n;go_wp2_with (at_builtin;refine a0v _ rfl _ _ 156 rfl w.heap.size 159 i0 (.agg #[.int .i64 0,.int .i64 0]) 2 16 a1w M C D E rfl (by decide) _ _ _ rfl (a0n q _) ⟨x1.heap.size,0,none⟩ 1 1 [.int .i64 0,.int .i64 y] rfl rfl (by intro j u p;match j,p with | 0,p=>simp at p;subst p;simp[Addr.add] | 1,p=>simp at p;subst p;simp[Addr.add]) (by intro u J;simp at J;rcases J with rfl|rfl<;>rfl) (by have:=ae s;have:=ae F;unfold maxLen;omega) (by have:=ae s;have:=ae F;omega) (by simp;omega) ?_;intro v' x2 m d x;clear x);have A:=aH (v:=u5) d q (a0a _) r c;have z:=mY m;rw[←D8,←ae B]at z;clear m d q;go_wp2;go_roundw
   case rel=>exact⟨k+1,by have:=ae K;omega,by go_num,z,A⟩
   case measure=>simp[intOf];omega
  . have f:l.take k=l:=a0u (by omega);rw[f]at hq;obtain⟨va,vc,rfl⟩:=hq.form;clear f h;go_wp2;go_ret;exact⟨_,rfl,hq,b⟩
def Jc(a:Addr)(w:World):(method 480 162 (.pointer (some a)) "loop.example/corbel/impl.pass").run prog w = .ok (258,.pointer (some a)) w:=by kernel_rfl
def Ik(b:Nat)(s:ByteArray)(a:Option Addr)(cap:Nat)(l:List Int)(w:World)(h:oF w a (blank l))(hbo:eR l=true)(h4:l.length<=4000)(hs:s.size<=2000000)(hr:Rdr w b s 0)(hb:∀g o,a=some ⟨g,o,none⟩->0<l.length->g<b) :
  Calls prog 157 #[.slice a l.length cap,.func (.method "loop.example/corbel/impl.pass") #[.iface 162 (.pointer b)] #[]] w fun e w'=>
   ∃v,e = .returned v/\an w' (b+1) v (dX (ak s) 0 l)/\Rdr w' b s (gn l)/\Below b w w':=by
 have Hbo:=af hbo;have H4:=af h4;have Hs:=af hs;have h4':(l.length:Int)<=4000:=by omega
 have hbl:=nt l;clear hbo h4 hs;obtain⟨i0,hi,hz0,hz1,hz2⟩:=a0r Tryz.infoInt;have mp:=Jc ⟨b,0,none⟩;have Hb:=af hb;clear hb;go_enter func157,ntmps157;go_wp2_with fail
 go_loopw [5,7,10] (fun o _ i wr=>∃k:Nat,k<=l.length/\i = .int .i64 k/\an wr (b+1) o (dX (ak s) 0 (l.take k))/\Rdr wr b s (gn (l.take k))/\Below b w wr) (fun _ _ i _=>l.length-(intOf i).toNat)
 case atStart=>exact⟨0,a0g _,rfl,an.nil _ _,hr,a0c _ _⟩
 case round=>
  obtain⟨k,hk,rfl,hown,hrr,hbel⟩:=hrel;have hrl:=hrr.lt;by_cases hlt:k<l.length
  .
   obtain⟨g,o,rfl,hg,hc⟩:=h (by omega);have hgb:=ae Hb g o rfl (by omega);have hck:=hc k (by omega);rw[Hg l k hlt]at hck;have c0:=(hbel.cell (p:=⟨g,o+k*2,none⟩) hgb).trans hck.1;have c1:=(hbel.cell (p:=⟨g,o+k*2+1,none⟩) hgb).trans hck.2;have htk:=af (cn l k hlt);have hrd:=af (zB (ak s) 0 (l.take k) [l.getD k 0]);have hsu:=af (sN (l.take k) [l.getD k 0]);have hlk:Hid ((dX (ak s) 0 (l.take k)).length=k):=by show(dX (ak s) 0 (l.take k)).length=k;rw[xL];simp;omega
   obtain⟨y0,y1⟩:=D6 Hbo k hlt;have HK:=af hk;clear hc hk h hr hck hbl;generalize l.getD k 0=y at *
   obtain⟨c,rfl⟩:=a0p y0;go_wp2_with fail;refine(vJ b (gn (l.take k)) c 0 s _ (hrr.alloc _) Hs (by omega)).mono ?_;rintro e x1⟨rfl,hr1,hk1⟩;have hown1:an x1 (b+1) u5 (dX (ak s) 0 (l.take k)):=hk1.own (a0n hown _) (a0h _);have hbel1:=(hbel.alloc (a0s hrl) (.cells #[.int .i64 0,.int .i64 (c:Int)] 159)).trans hk1.1;have hr1l:=hr1.lt;generalize hX:ak s/2 ^ gn (l.take k)%2 ^ c=X at *
   have HX:=af hX;clear hX hown hrr hbel hk1;go_wp2_with (at_builtin;refine a0v _ rfl _ _ 122 rfl (b+1) 3 i0 (.int .i64 0) 1 8 a0D hi hz0 hz1 hz2 rfl (by decide) _ _ _ rfl (a0n hown1 _) ⟨x1.heap.size,0,none⟩ 1 1 [.int .i64 (X:Int)] rfl rfl (by intro j u hj;match j,hj with | 0,hj=>simp at hj;subst hj;simp[Addr.add]) (by intro u hu;simp at hu;subst hu;rfl) (by have:=ae hlk;have:=ae H4;unfold maxLen;omega) (by have:=ae hlk;have:=ae H4;omega) (by simp;omega) ?_;intro v' x3 hown hgrow hnil;clear hnil);have hr3:Rdr x3 b s (gn (l.take k)+c):=hr1.kept (aH (v:=u5) hgrow hown1 (a0a _) (by omega) (a0c _ _));have hbel3:Below b w x3:=aH (v:=u5) hgrow hown1 (a02 _) (by omega) hbel1;have hown3:=nM hown;clear hown hgrow hown1 hr1 hbel1;go_wp2;go_roundw
   case rel=>
    refine⟨k+1,by have:=ae HK;omega,by go_num,?_,?_,hbel3⟩
    . rw[ae htk,ae hrd];simp only[dX,a0H,a0o];rw[ae HX];exact hown3
    . rw[ae htk,ae hsu];simp only[gn,a0C,a1L,a0P,a3P,a0o,a1c];exact hr3
   case measure=>simp[intOf];omega
  . have hlk2:l.take k=l:=a0u (by omega);rw[hlk2]at hown hrr;obtain⟨va,vc,rfl⟩:=hown.form;clear hlk2 h hr;go_wp2;go_ret;exact⟨_,rfl,hown,hrr,hbel⟩
def J8(b:Nat)(s:ByteArray)(a:Option Addr)(cap:Nat)(l:List Int)(w:World)(h:oF w a (blank l))(f:eR l=true)(j:l.length<=4000)(m:s.size<=2000000)(k:Rdr w b s 0)(hb:∀g o,a=some ⟨g,o,none⟩->0<l.length->g<b) :
  Calls prog 125 #[.iface 162 (.pointer b),.slice a l.length cap] w fun e w'=>
   ∃v,e = .returned v/\an w' (b+1) v (dX (ak s) 0 l)/\Rdr w' b s (gn l)/\Below b w w':=by
 go_enter func125,ntmps125;go_wp2_with fail;refine(Ik b s a cap l _ h f j m k hb).mono ?_;rintro e w1⟨v,rfl,c,i,d⟩;obtain⟨va,vc,rfl⟩:=c.form;go_wp2;go_ret;exact⟨_,rfl,c,i,d⟩
def td(s:ByteArray)(a:Option Addr)(cap:Nat)(l:List Int)(w:World)(h:br w a l)(hs:s.size<=2000000)(hl:l.length<=2000000) :
  Calls prog 91 #[s,.slice a l.length cap] w fun e w'=>∃v,e = .returned (.tuple #[v,.bool (kh s.data.toList l)])/\an w' w.heap.size v (AW s.data.toList l)/\Below w.heap.size w w':=by
 have ac:(l.length:Int)<=2000000:=by omega
 have Y:=af hs;clear hs hl;by_cases S:l.length<=4000
 .
  have V:(l.length:Int)<=4000:=by omega
  have G:=af S;have C:=af (D7 l S);have j:=af (nt l);go_enter func91,ntmps91;go_wp2_with fail;refine(Ii a cap l _ h G).mono ?_;rintro e x1⟨v,rfl,hq,J⟩;obtain⟨va,vc,rfl⟩:=hq.formN j;have u:=hq.rowN j;clear h S;go_wp2_with fail;refine(uu va vc l.length (blank l) _ j u (by have:=ae G;omega)).mono ?_;rintro e x2⟨rfl,A⟩;rw[ae C];have O:=hq.later A (a0a _);have d:=O.rowN j;have c:=aj J A;have Q:=af c.size;clear u J A hq;rcases k:eR l with _|_
  .
   have b:=af (AX (s:=s.data.toList) (a0I k));rw[a0e (by simp)];go_wp2
   go_ret2
   refine⟨_,qk b.1.symm,?_,c⟩;rw[b.2];exact an.nil _ _
  .
   have U:=af k;have n:=af (LF (s:=s.data.toList) k G);have P:s.data.toList.length=s.size:=by simp
   have X:=P7 k;have hS:(gn l:Int)<=64000:=by have:=ae G;omega
   have aa:(0:Int)<=(gn l:Int):=by omega
   have r:=af (Fz s.data.toList (gn l));rw[P]at n r;rw[a0d rfl];have x:=af (LE (s:=s.data.toList) (l:=l));have t:=af (OV (s:=s.data.toList) (l:=l));have Z:cO s.data.toList=ak s:=rfl;rw[Z]at n r x;clear k X P Z;generalize hm:gn l=m at *
   have Hm:=af hm;clear hm;by_cases he:(s.size:Int)=((m:Int)+7)/8
   .
    have L:s.size=(m+7)/8:=by omega
    have I:=PQ x2 s 164;have z:Below x2.heap.size x2 (x2.alloc (.cells #[s,.int .i64 0,.bool false] 164)):=cC;have q:=d.later z;have M:∀g o,va=some ⟨g,o,none⟩->0<l.length->g<x2.heap.size:=by
     intro g o e h0;obtain⟨g',o',e',ab,_⟩:=d (by rw[ae j];exact h0);rw[e]at e';simp only[a0j,a0A,a0O]at e';omega
    have R:=af L;have HG:=af M;clear L M d;go_wp2_with fail;refine(J8 x2.heap.size s va vc l _ q U G Y I HG).mono ?_;rintro e x3⟨v,rfl,p,E,K⟩;have f:=aj c (z.trans K);rw[ae Hm]at E;clear I z q K c O;obtain⟨va',vc',rfl⟩:=p.form;go_wp2_with fail;refine(sJ x2.heap.size m s _ E Y (by have:=ae R;omega)).mono ?_;rintro e x4⟨rfl,W,B⟩;have D:=B.own p (a0h _);have i:=f.trans (B.1.mono Q);clear p E W B f;by_cases F:ak s/2 ^ m%2 ^ ((8-m%8)%8)=0
    .
     rw[a0y F];have N:kh s.data.toList l=true:=by
      rw[ae n,a0y (ae R),a0y ((r (ae R)).1 F)];rfl
     have H:=af N;clear N F;go_wp2
     go_ret2
     refine⟨_,qk H.symm,?_,i⟩;rw[ae x (ae H)];exact an.mono D (Nat.le_succ_of_le Q)
    .
     rw[a0m F];have b:kh s.data.toList l=false:=by
      rw[ae n,a0m (fun h=>F ((r (ae R)).2 h))];simp
     have y:=af b;have T:=af (ae t b);clear b F;go_wp2
     go_ret2
     refine⟨_,qk y.symm,?_,i⟩;rw[ae T];exact an.nil _ _
   .
    have b:kh s.data.toList l=false:=by
     rw[ae n,a0m (by omega)];rfl
    have ad:((s.size:Int) != ((m:Int)+7)/8)=true:=by simpa using he
    have y:=af b;have T:=af (ae t b);clear b;go_wp2
    go_ret2
    refine⟨_,qk y.symm,?_,c⟩;rw[ae T];exact an.nil _ _
 .
  have b:=af (AX (s:=s.data.toList) (l:=l) (Or.inr (by omega)));have V:4000<(l.length:Int):=by omega
  clear S;go_enter func91,ntmps91;go_wp2
  go_ret2
  refine⟨_,qk b.1.symm,?_,a0c _ _⟩;rw[b.2];exact an.nil _ _
