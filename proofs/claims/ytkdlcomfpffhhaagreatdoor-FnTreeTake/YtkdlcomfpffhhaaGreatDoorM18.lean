/- Of what the proof is made: 27 texts, one behind the other. -/
import Derived.Test.YtkdlcomfpffhhaaGreatDoorM8
import Derived.Test.YtkdlcomfpffhhaaGreatDoorM7
import Derived.Test.YtkdlcomfpffhhaaGreatDoorM1
import Derived.Test.YtkdlcomfpffhhaaGreatDoorM2
import Derived.Deep.CutRange
import Derived.Laws.IdiomStrings
import Derived.Laws.OwnMore
import Derived.Test.YtkdlcomfpffhhaaGreatDoorM4
import Derived.Test.YtkdlcomfpffhhaaGreatDoorM3
import Derived.Deep.RegionHeld3
import Derived.Deep.DrawnRows
set_option maxRecDepth 100000
set_option linter.unusedSimpArgs false
set_option linter.unusedVariables false
set_option maxHeartbeats 6400000
namespace Go.Proofs.YtkdlcomfpffhhaaGreatDoor
open Go.Proofs.Tryz
open Go.RowKit Corb
variable {P V b c crc g how i j k lg m o pk st:Nat}{W W2 WA w w':World}{l:List UInt8}{nm:ByteArray}{v v' v1:Value}{x y:Int}{xs:List Int}
def Bys(w:World)(b:Nat)(v:Value)(l:List UInt8):Prop:=w.ownsRow (b+1) 5 1 v l.length (bW l)
theorem Bys.form(h:Bys w b v l):∃a cap,v = .slice a l.length cap:=by
 rcases h.2 with⟨e,c⟩|⟨g,cap,_,e,_⟩
 . exact⟨none,0,by rw[e,c]⟩
 . exact⟨_,cap,e⟩
theorem Bys.set(h:Bys w b v l)(u:Value):Bys (w.setCell ⟨b,o,none⟩ u) b v l:=
 ownsRow_setCell_below h (a:=⟨b,o,none⟩) (a0l b) u
theorem Bys.drew(h:Bys w b v l):Bys w.drew b v l:=h
def Out(w:World)(b V m:Nat):Prop:=
 V<p2 m/\∃v,Three w b v (.int .i64 (V/p2 (8*(m/8)):Nat)) (.int .i64 (m%8:Nat))/\Bys w b v (leS (m/8) V)
theorem yP(V m x:Nat)(a:V<p2 m)(b:x<=1)(c:m%8<7) :
  V+x*p2 m<p2 (m+1)/\(V+x*p2 m)/p2 (8*((m+1)/8))=V/p2 (8*(m/8))+x*p2 (m%8)/\leS ((m+1)/8) (V+x*p2 m)=leS (m/8) V:=by
 refine⟨add_lt V x m a b,?_,?_⟩
 . rw[show(m+1)/8=m/8 by omega];have:=vI V x m (m/8) (by omega);rw[show m-8*(m/8)=m%8 by omega]at this;exact this
 . rw[show(m+1)/8=m/8 by omega];exact qN (m/8) V x m (by omega)
theorem yO(V m x:Nat)(e:V<p2 m)(f:x<=1)(g:m%8=7) :
  V+x*p2 m<p2 (m+1)/\(V+x*p2 m)/p2 (8*((m+1)/8))=0/\(m+1)%8=0 /\
   leS ((m+1)/8) (V+x*p2 m)=leS (m/8) V++[UInt8.ofNat (V/p2 (8*(m/8))+x*p2 (m%8))]:=by
 have b:=add_lt V x m e f;refine⟨b,?_,by omega,?_⟩
 .
  apply a2G;have:p2 (8*((m+1)/8))=2 ^ (m+1):=by unfold p2;rw[show 8*((m+1)/8)=m+1 by omega]
  rw[this];exact b
 . rw[show(m+1)/8=m/8+1 by omega];have a:=qN (m/8) V x m (by omega);have d:=vI V x m (m/8) (by omega);rw[show m-8*(m/8)=m%8 by omega]at d;have c:=vV (V+x*2 ^ m) (m+1) (m/8) b (by omega);rw[show m+1-8*(m/8)=8 by omega]at c;show leS (m/8) (V+x*2 ^ m)++[UInt8.ofNat ((V+x*2 ^ m)/2 ^ (8*(m/8))%256)]=_;rw[a1u c,a,d];rfl
theorem qM(V m:Nat)(a:V<p2 m):V/p2 (8*(m/8))<p2 (m%8):=by
 have:=vV V m (m/8) a (by omega);rw[show m-8*(m/8)=m%8 by omega]at this;exact this
theorem nw(k:Nat)(h:k<256):(UInt8.ofNat k).toNat=k:=by
 have:k%256=k:=a1u h;simp[this]
theorem sK{v2:Value}{x:UInt8}(T2:Three W2 b v v1 v2)(Y2:Bys W2 b v l)(j:Below b w W2)
  (d:Below (b+1) W2 WA) (a:w'.ownsRow (b+1) 5 1 v' (l.length+1) (bW l++[.int .u8 (x.toNat:Int)])) (c:WA.grownBy w' v.ownBlock) :
  (∃g cap,v' = .slice (some ⟨g,0,none⟩) (l.length+1) cap)/\Three w' b v v1 v2/\Bys w' b v' (l++[x])/\Below b w w':=by
 have h:=T2.2.2.2.2.2.2;have i:=a0i h d.size;have f:∀k,v.ownBlock=some k->b+1<=k:=fun k m=>(Y2.lt k m).1;have hb:Below (b+1) W2 w':=d.grown c (by omega) f;refine⟨?_,T2.kept hb,?_,j.trans (hb.mono (by omega))⟩
 .
  rcases a.2 with⟨_,n⟩|⟨g,cap,_,e,_⟩
  . omega
  . exact⟨g,cap,e⟩
 . show w'.ownsRow (b+1) 5 1 v' (l++[x]).length (bW (l++[x]));simpa[bW]using a
theorem Jt(n k:Nat):n%p2 (k+1)=n%p2 k+n/p2 k%2*p2 k:=yv n k
theorem wt(V n k m:Nat):V+n%p2 (k+1)*p2 m=V+n%p2 k*p2 m+n/p2 k%2*p2 (m+k):=by
 rw[Jt,a1F,a2x,show p2 k*p2 m=p2 (m+k) by unfold p2;rw[←a07,a2H]];omega
theorem xJ(n k:Nat):n/p2 k/2=n/p2 (k+1):=nC n k
theorem oa(b V m:Nat)(num bits:Int)(w:World)(h:Out w b V m)(n0:0<=num)(n1:num<65536)(b0:0<=bits)(b1:bits<=16)(hm:m<=100000) :
  Calls prog 238 #[.pointer (some ⟨b,0,none⟩),.int .i64 num,.int .i64 bits] w fun e w'=>e = .returned (.tuple #[]) /\
   Out w' b (V+num.toNat%p2 bits.toNat*p2 m) (m+bits.toNat)/\Below b w w':=by
 obtain⟨n,rfl⟩:=a0r n0;obtain⟨c,rfl⟩:=a0r b0;rw[a0x,a0x];obtain⟨i0,hi,a9,ba,bb⟩:=a0s Tryz.infoU8;go_enter func238,ntmps238;go_wp2
 go_loopw [1,6] (fun x i wr=>∃k:Nat,k<=c/\i = .int .i64 k/\x = .int .i64 (n/p2 k:Nat)/\Out wr b (V+n%p2 k*p2 m) (m+k)/\Below b w wr) (fun _ i _=>c-(intOf i).toNat)
 case atStart=>exact⟨0,a0h _,rfl,by simp[p2],by simpa[p2,a1w]using h,a0c _ _⟩
 case round=>
  obtain⟨k,hk,rfl,rfl,z,a⟩:=hrel;by_cases b6:k<c
  .
   have B:=af (wt V n k m);have g:=af (xJ n k);have a5:n/p2 k<=n:=a2k _ _;obtain⟨hV,v,s,G⟩:=z;obtain⟨sa,scap,rfl⟩:=G.form;have a4:=qM (V+n%p2 k*p2 m) (m+k) hV;generalize V+n%p2 k*p2 m=V1 at *
   generalize W:m+k=m1 at *
   have hx:n/p2 k%2<=1:=by omega
   have ad:((n/p2 k:Nat):Int)%2=((n/p2 k%2:Nat):Int):=by omega
   have bd:((n/p2 k:Nat):Int)<65536:=by omega
   have a6:p2 (m1%8)<=128:=nX (m1%8) 7 (by omega);have O:n/p2 k%2*p2 (m1%8)<=1*p2 (m1%8):=a2h _ hx;have y:((n/p2 k%2:Nat):Int)*((p2 (m1%8):Nat):Int)=((n/p2 k%2*p2 (m1%8):Nat):Int):=by simp
   have q:=yP V1 m1 (n/p2 k%2) hV hx;have d:=yO V1 m1 (n/p2 k%2) hV hx;have ab:m1%8<8:=a05 _ (by omega);have l:m1<=100016:=by omega
   have Q:(leS (m1/8) V1).length=m1/8:=aH _ _;generalize n/p2 k=nk at *
   generalize a7:nk%2=x at *
   generalize a0:V1/p2 (8*(m1/8))=L at *
   generalize ac:m1%8=r at *
   generalize N:p2 r=P at *
   generalize a1:x*P=X at *
   have an:=af N;have K:=af W;have ao:=af ac;have E:=af q;have C:=af d;clear W a0 ac N a1 hV q d a7 hx a5;obtain⟨k0,H,I,f0,f1,f2,F⟩:=s;have s:Hid (Three wr b _ _ _):=⟨k0,H,I,f0,f1,f2,F⟩;have b7:(r:Int)<8:=by omega
   have bs:(L:Int)<128:=by omega
   have b2:(X:Int)<=128:=by omega
   have S:(k:Int)<(c:Int):=by omega
   have bk:=af ab;have D:=af l;have Hk:=af hk;have al:Hid (IntKind.i64.wrap ((L:Int)+IntKind.i64.wrap ((nk:Int).tmod 2*(P:Int)))=(L:Int)+(X:Int)):=by
    show IntKind.i64.wrap ((L:Int)+IntKind.i64.wrap ((nk:Int).tmod 2*(P:Int)))=(L:Int)+(X:Int);rw[a15 (by omega),ad,y,bp (X:Int) (by omega) (by omega),bp ((L:Int)+(X:Int)) (by omega) (by omega)]
   clear ab l a6 O a4 hk hm;go_wp2_with fail;go_cut[]from 7 to 62 (fun wc=>wc=(wr.setCell ⟨b,1,none⟩ (.int .i64 ((L:Int)+(X:Int)))).drew)
   case first=>
    go_region_with (go_at_call 252;refine(ej _ _ (by omega)).mono ?_;rintro e w' ⟨rfl,rfl⟩;rw[a0x,ae an])
    all_goals
     go_wp2_with fail
     go_meet
     exact by rw[ae al]
   case rest=>
    have T1:=((ae s).set1 (.int .i64 ((L:Int)+(X:Int)))).drew;have Y1:=(G.set (o:=1) (.int .i64 ((L:Int)+(X:Int)))).drew;have B1:Below b w _:=(ap a (o:=1) (a0a _) (.int .i64 ((L:Int)+(X:Int)))).drew;rw[←hcut]at T1 Y1 B1;clear hcut G a s k0 H I f0 f1 f2 F y ad;have T1':=af T1;obtain⟨k0,H,I,f0,f1,f2,F⟩:=T1;by_cases aa:(r:Int)=7
    .
     have A:r=7:=by omega
     obtain⟨o1,o2,o3,o4⟩:=ae C A;have O1:=af o1;have O2:=af o2;have O3:=af o3;have O4:=af o4;have M:L+X<256:=by omega
     have a3:=af (nw (L+X) M);have b5:IntKind.u8.wrap ((L:Int)+(X:Int))=(L:Int)+(X:Int):=by
      rw[IntKind.wrap_u8'];omega
     subst A;clear o1 o2 o3 o4 aa M;have T2:=(ae T1').set2 (.int .i64 8);have Y2:=Y1.set (o:=2) (.int .i64 8);have B2:Below b w _:=ap B1 (o:=2) (a0a _) (.int .i64 8);have U:=af Q;clear Q;go_wp2_with fail;generalize wc.setCell ⟨b,2,none⟩ (.int .i64 8)=W2 at *
     clear k0 H I f0 f1 f2 T1' Y1 B1;have T2':=af T2;obtain⟨k0,H,I,f0,f1,f2,a2⟩:=T2;have R:Hid (((UInt8.ofNat (L+X)).toNat:Int)=(L:Int)+(X:Int)):=by
      show((UInt8.ofNat (L+X)).toNat:Int)=(L:Int)+(X:Int);rw[ae a3];omega
     have T:(leS (m1/8) V1).length<=20000:=by have:=ae U;have:=ae D;omega
     have J:=af T;clear T;go_cut[]from 7 to 62 (fun wc2=>∃v',Three wc2 b v' (.int .i64 ((L:Int)+(X:Int))) (.int .i64 8)/\Bys wc2 b v' (leS (m1/8) V1++[UInt8.ofNat (L+X)])/\Below b w wc2)
     case first=>
      go_region_law (refine ak rfl (.tmp 47) (.tmp 53) 22 rfl (b+1) 5 i0 (.int .u8 0) 1 1 a0S hi a9 ba bb rfl (by decide) _ _ _ (by simp[Act.eval]) (Y2.alloc _) ⟨W2.heap.size,0,none⟩ 1 1 [.int .u8 ((L:Int)+(X:Int))] (by simp[Act.eval]) rfl (by intro j u hj;match j,hj with | 0,hj=>simp at hj;subst hj;simp[Addr.add]) (by intro u hu;simp at hu;subst hu;rfl) (by have:=ae J;unfold maxLen;omega) (by have:=ae J;omega) (by simp;omega) ?_;intro v' w' p f Z;clear Z;rw[←ae R]at p;obtain⟨⟨g',bc,rfl⟩,T3,Y3,B3⟩:=sK (ae T2') Y2 B2 (by first|exact(a0c _ _).alloc (by omega) _|exact((a0c _ _).alloc (by omega) _).drew) p f;clear p f;have T3':=af T3;obtain⟨q0,q1,q2,e0,e1,e2,b3⟩:=T3)
      all_goals
       go_wp2_with fail
       go_meet
       exact⟨_,(ae T3').set0 _,Y3.set _,ap B3 (a0a _) _⟩
     case rest=>
      obtain⟨v',T4,Y4,B4⟩:=hcut;clear k0 H I f0 f1 f2 T2' Y2 B2 a2;obtain⟨va,vc,rfl⟩:=Y4.form;have T4':=af T4;obtain⟨k0,H,I,f0,f1,f2,b4⟩:=T4;go_wp2;go_roundw
      case rel=>
       refine⟨k+1,by have:=ae Hk;omega,by go_num,by rw[←ae g];go_num,?_,ap (ap B4 (a0a _) _) (a0a _) _⟩;rw[ae B,show m+(k+1)=m1+1 by have:=ae K;omega];refine⟨ae O1,.slice va (leS (m1/8) V1++[UInt8.ofNat (L+X)]).length vc,?_,?_⟩
       . rw[ae O2,ae O3];exact((ae T4').set1 _).set2 _
       . rw[ae O4];exact(Y4.set _).set _
      case measure=>simp[intOf];omega
    .
     have be:((r:Int)+1 == 8)=false:=by simp;omega
     have t:r<7:=by omega
     obtain⟨o1,o2,o3⟩:=ae E t;have O1:=af o1;have O2:=af o2;have O3:=af o3;have Y:Hid ((m1+1)%8=r+1):=by show(m1+1)%8=r+1;have:=ae ao;omega
     clear o1 o2 o3 t aa;go_wp2;go_roundw
     case rel=>
      refine⟨k+1,by have:=ae Hk;omega,by go_num,by rw[←ae g];go_num,?_,ap B1 (a0a _) _⟩;rw[ae B,show m+(k+1)=m1+1 by have:=ae K;omega];refine⟨ae O1,.slice sa (leS (m1/8) V1).length scap,?_,?_⟩
      . rw[ae O2,ae Y];exact(ae T1').set2 _
      . rw[ae O3];exact Y1.set _
     case measure=>simp[intOf];omega
  .
   have S:k=c:=by omega
   subst S;go_wp2
   go_end0
   exact⟨rfl,z,a⟩
def oZ(l:List (Int×Int)):List (Nat×Nat):=l.map (fun p=>(p.1.toNat,p.2.toNat))
def cO(l:List (Int×Int)):Nat×Nat:=iA (0,0) (oZ l)
def iF(l:List (Int×Int)):List UInt8:=leS (((cO l).2+7)/8) (cO l).1
def y9(l:List (Int×Int)):List UInt8:=if lOk l=true then iF l else []
theorem kU{l:List (Int×Int)}(h:lOk l=true):y9 l=iF l:=a0e h
theorem LY{l:List (Int×Int)}(h:lOk l=false):y9 l=[]:=a0d (by simp[h])
theorem Gg(l:List (Int×Int))(k:Nat)(h:k<l.length):cO (l.take (k+1)) =
  ((cO (l.take k)).1+(l.getD k (0,0)).1.toNat*p2 (cO (l.take k)).2,(cO (l.take k)).2+(l.getD k (0,0)).2.toNat):=by
 rw[a1i h,cO,oZ,a1d,kV];simp only[a0K,a2Q,iA];have e:l.getD k (0,0)=l[k]:=by simp[List.getD,h]
 rw[e];rfl
theorem Gf(l:List (Int×Int))(h:bm l=true):((cO l).2:Int)=bJ l:=by
 have key:∀(m:List (Int×Int)) (s:Nat×Nat),bm m=true->((iA s (oZ m)).2:Int)=(s.2:Int)+bJ m:=by
  intro m;induction m with
  | nil=>intro s _;simp[oZ,iA,bJ]
  | cons p m ih=>
   intro s a;simp only[bm,a2q,a0n]at a;have b:=aV.1 a.1;have:=ih (s.1+p.1.toNat*2 ^ s.2,s.2+p.2.toNat) a.2;simp only[oZ,a0K,iA]at this ⊢;rw[this];simp only[bJ,a0K,a0V];omega
 have:=key l (0,0) h;simpa[cO]using this
theorem Mq(l:List (Int×Int))(h:bm l=true):(cO l).1<p2 (cO l).2:=by
 have key:∀(m:List (Int×Int)) (s:Nat×Nat),s.1<p2 s.2->bm m=true->(iA s (oZ m)).1<p2 (iA s (oZ m)).2:=by
  intro m;induction m with
  | nil=>intro s b _;exact b
  | cons p m ih=>
   intro s b a;simp only[bm,a2q,a0n]at a;have d:=aV.1 a.1;have c:p.1.toNat<p2 p.2.toNat:=by omega
   exact ih _ (Jo s.1 s.2 p.1.toNat p.2.toNat b c) a.2
 exact key l (0,0) (by decide) h
theorem wl(w:World)(t:TypeId):Out (w.alloc (.cells #[.slice none 0 0,.int .i64 0,.int .i64 0] t)) w.heap.size 0 0:=by
 refine⟨by decide,.slice none 0 0,⟨by simp,by simp,by simp,by simp,by simp,by simp,by simp⟩,?_⟩;exact a1x _ _ _ _
theorem Dv{a b:List UInt8}(h:a=b):Ending.returned (.string ⟨a.toArray⟩) = .returned (.string ⟨b.toArray⟩):=by rw[h]
theorem jG(h:Bys w b v l) :
  (convert 22 9 v).run prog w = .ok (.string ⟨l.toArray⟩) w:=by
 rcases h.2 with⟨e,a⟩|⟨g,cap,_,e,_⟩
 . subst e;have d:l=[]:=a1P a;subst d;rw[run_convert_bytes_string w _ _ _ none 0 0 a0S a2C a1T];rfl
 .
  subst e;exact a3J w _ _ _ ⟨g,0,none⟩ cap l a0S a2C a1T (fun j c=>by
   have:=h.cells (g:=g) rfl j (.int .u8 (l[j].toNat:Int)) (by simp[bW,c]);exact this)
theorem mr.below{a:Option Addr}{l:List (Int×Int)}{B:Nat}(h:mr w a l)(b:w.heap.size<=B)(hb:Below B w w'):mr w' a l:=h.later (hb.mono b)
theorem Two.kept{v0:Value}(h:Two w b v0 v1)(hb:Below (b+1) w w'):Two w' b v0 v1:=by
 obtain⟨c0,c1,f0,f1,c⟩:=h;have a:=a0l b;exact⟨(hb.cell (p:=⟨b,0,none⟩) a).trans c0,(hb.cell (p:=⟨b,1,none⟩) a).trans c1,(hb.frozen (p:=⟨b,0,none⟩) a).trans f0,(hb.frozen (p:=⟨b,1,none⟩) a).trans f1,a0i c hb.size⟩
def jc(w:World)(b V m:Nat):Prop:=
 V<p2 m/\∃v,Two w b v (.int .i64 (m:Int))/\Bys w b v (leS ((m+7)/8) V)
theorem Jq{x:UInt8}(T2:Two W2 b v v1)(Y2:Bys W2 b v l)(j:Below b w W2)
  (d:Below (b+1) W2 WA) (a:w'.ownsRow (b+1) 5 1 v' (l.length+1) (bW l++[.int .u8 (x.toNat:Int)])) (c:WA.grownBy w' v.ownBlock) :
  (∃g cap,v' = .slice (some ⟨g,0,none⟩) (l.length+1) cap)/\Two w' b v v1/\Bys w' b v' (l++[x])/\Below b w w':=by
 have h:=T2.2.2.2.2;have i:=a0i h d.size;have f:∀k,v.ownBlock=some k->b+1<=k:=fun k m=>(Y2.lt k m).1;have hb:Below (b+1) W2 w':=d.grown c (by omega) f;refine⟨?_,T2.kept hb,?_,j.trans (hb.mono (by omega))⟩
 .
  rcases a.2 with⟨_,n⟩|⟨g,cap,_,e,_⟩
  . omega
  . exact⟨g,cap,e⟩
 . show w'.ownsRow (b+1) 5 1 v' (l++[x]).length (bW (l++[x]));simpa[bW]using a
theorem Bys.at{cap:Nat}(h:Bys w b (.slice (some ⟨g,0,none⟩) l.length cap) l)(a:j<l.length) :
  w.cell? ⟨g,j,none⟩=some (.int .u8 ((l.getD j 0).toNat:Int))/\w.frozen? ⟨g,j,none⟩=false/\b<g:=by
 refine⟨?_,a2B h j,(a0p h g rfl).1⟩;rw[a02 h j (by omega)];simp[bW,a,List.getD]
theorem Bys.put{cap:Nat}(h:Bys w b (.slice (some ⟨g,0,none⟩) l.length cap) l)(x:UInt8) :
  Bys (w.setCell ⟨g,j,none⟩ (.int .u8 (x.toNat:Int))) b (.slice (some ⟨g,0,none⟩) l.length cap) (l.set j x):=by
 have:=a1S h j (.int .u8 (x.toNat:Int));show World.ownsRow _ _ _ _ _ (l.set j x).length (bW (l.set j x));rw[a16];have e:bW (l.set j x)=(bW l).set j (.int .u8 (x.toNat:Int)):=by simp[bW,List.map_set]
 rw[e];exact this.1
theorem Om(V m x:Nat)(a:V<p2 m)(b:x<=1) :
  V+x*p2 m<p2 (m+1)/\leS ((m+1+7)/8) (V+x*p2 m)=(leS (m/8+1) V).set (m/8) (UInt8.ofNat (V/p2 (8*(m/8))+x*p2 (m%8))):=by
 refine⟨add_lt V x m a b,?_⟩;rw[show(m+1+7)/8=m/8+1 by omega];exact Ll (m/8) V x m rfl b a
theorem Ol(V m:Nat)(a:V<p2 m)(b:m%8=0):leS ((m+7)/8) V++[0]=leS (m/8+1) V:=by
 rw[show(m+7)/8=m/8 by omega];exact(Lk (m/8) V (by rw[show 8*(m/8)=m by omega];exact a)).symm
theorem Oe(V m:Nat)(a:m%8≠0):leS ((m+7)/8) V=leS (m/8+1) V:=by
 rw[show(m+7)/8=m/8+1 by omega]
theorem Oc(V m:Nat)(a:V<p2 m):((leS (m/8+1) V).getD (m/8) 0).toNat=V/p2 (8*(m/8)):=by
 rw[De _ _ _ (by omega)];have b:=qM V m a;have h2:=nX (m%8) 7 (by omega);have c:p2 7=128:=rfl;have e:V/2 ^ (8*(m/8))%256=V/p2 (8*(m/8)):=a1u (by show V/p2 (8*(m/8))<256;omega);rw[e,nw _ (by omega)]
def Box(w:World)(P:Nat)(x y:Int):Prop:=w.heap[P]?=some (.cells #[.int .i64 x,.int .i64 y] 173)
theorem KA(w:World)(x y:Int):Box (w.alloc (.cells #[.int .i64 x,.int .i64 y] 173)) w.heap.size x y:=by
 show(w.heap.push _)[w.heap.size]?=_;simp
theorem Box.cells(h:Box w P x y):w.cell? ⟨P,0,none⟩=some (.int .i64 x)/\w.cell? ⟨P,1,none⟩=some (.int .i64 y)/\P<w.heap.size:=by
 refine⟨by simp[World.cell?,show w.heap[P]?=_ from h],by simp[World.cell?,show w.heap[P]?=_ from h],?_⟩;have a:w.heap[P]?=some _:=h;exact(Array.getElem?_eq_some_iff.1 a).1
theorem Box.ne(h:Box w P x y)(i:Bys w b v l)(k:Nat)(a:v.ownBlock=some k):k≠P:=by
 rintro rfl;rcases i.2 with⟨e,_⟩|⟨g,cap,d,e,_,c,_⟩
 . subst e;simp[Value.ownBlock]at a
 . subst e;simp only[Value.ownBlock,a0m]at a;subst a;have f:w.heap[g]?=some (.cells #[.int .i64 x,.int .i64 y] 173):=h;rw[f]at c;simp at c
theorem Box.set(h:Box w P x y)(hb:b≠P)(u:Value):Box (w.setCell ⟨b,o,none⟩ u) P x y:=by
 show(w.setCell ⟨b,o,none⟩ u).heap[P]?=_;rw[a0T w ⟨b,o,none⟩ u P (fun e=>hb e.symm)];exact h
theorem Box.drew(h:Box w P x y):Box w.drew P x y:=h
theorem Box.alloc(h:Box w P x y)(o:Obj):Box (w.alloc o) P x y:=by
 show(w.alloc o).heap[P]?=_;rw[a2m w o P h.cells.2.2];exact h
theorem Box.grown(h:Box w P x y)(c:Bys w b v l)(a:w.grownBy w' v.ownBlock):Box w' P x y:=by
 show w'.heap[P]?=_;rw[a.block P h.cells.2.2 (fun e=>h.ne c P e.symm rfl)];exact h
def bw(b:Nat)(w w':World):Prop:=w.heap.size<=w'.heap.size/\∀k,k<w.heap.size->k≠b->(∀cur fr,w.heap[k]?≠some (.cells cur 5 fr))->w'.heap[k]?=w.heap[k]?
theorem bw.refl(b:Nat)(w:World):bw b w w:=⟨a0a _,fun _ _ _ _=>rfl⟩
theorem bw.trans{w1 w2:World}(h:bw b w w1)(k:bw b w1 w2):bw b w w2:=
 ⟨a0G h.1 k.1,fun j c hb d=>by
  have e:=h.2 j c hb d;rw[k.2 j (a0i c h.1) hb (fun a fr=>by rw[e];exact d a fr),e]⟩
theorem bw.drew(h:bw b w w'):bw b w w'.drew:=h
theorem bw.alloc(h:bw b w w')(o:Obj):bw b w (w'.alloc o):=
 h.trans ⟨by simp,fun j a _ _=>a2m w' o j a⟩
theorem bw.set(h:bw b w w')(u:Value):bw b w (w'.setCell ⟨b,o,none⟩ u):=
 h.trans ⟨by simp,fun j _ hb _=>a0T w' ⟨b,o,none⟩ u j hb⟩
theorem bw.setRow{cap:Nat}(h:bw b w w')(m:Bys w' c (.slice (some ⟨g,0,none⟩) l.length cap) l)(u:Value):bw b w (w'.setCell ⟨g,j,none⟩ u):=by
 refine h.trans ⟨by simp,fun k _ _ i=>?_⟩;by_cases e:k=g
 .
  subst e;rcases m.2 with⟨e,_⟩|⟨g',d,a,e,_,f,_⟩
  . simp at e
  . simp only[a0O,a0m,a0F,a1a,a2A]at e;obtain⟨rfl,_⟩:=e;exact absurd f (i a (0,0))
 . exact a0T w' ⟨g,j,none⟩ u k e
theorem bw.grown{w'':World}(h:bw b w w')(m:Bys w' c v l)(g:w'.grownBy w'' v.ownBlock):bw b w w'':=by
 refine h.trans ⟨g.size,fun k i _ j=>?_⟩;refine g.block k i (fun e=>?_);rcases m.2 with⟨e',_⟩|⟨g',f,a,e',_,d,_⟩
 . subst e';simp[Value.ownBlock]at e
 . subst e';simp only[Value.ownBlock,a0m]at e;subst e;exact j a (0,0) d
theorem Cj(B X r:Nat)(a:B<p2 r)(e:r<8)(b:X=0∨X=p2 r):bits .or .u8 (B:Int) (X:Int)=((B+X:Nat):Int):=by
 have d:=nX r 7 (by omega);have c:p2 7=128:=rfl;rw[u8_or_nat B X (by omega) (by omega)]
 congr 1
 rw[Nat.or_comm];rcases b with rfl|rfl
 . simp
 . rw[nat_join r (p2 r) B (by unfold p2;simp) a];omega
theorem Two.other{v0:Value}(h:Two w b v0 v1)(a:g≠b)(u:Value):Two (w.setCell ⟨g,o,none⟩ u) b v0 v1:=by
 obtain⟨c0,c1,f0,f1,hb⟩:=h;refine⟨?_,?_,by simpa using f0,by simpa using f1,by simpa using hb⟩
 . rw[World.cell?_setCell_other _ _ _ _ (by simp only[ne_eq,a0F];omega)];exact c0
 . rw[World.cell?_setCell_other _ _ _ _ (by simp only[ne_eq,a0F];omega)];exact c1
theorem vo{wr:World}{cap V1 m1 x L X:Nat}{p q:Int}(j:Two wr b (.slice (some ⟨g,0,none⟩) (leS (m1/8+1) V1).length cap) (.int .i64 (m1:Int)))
  (a:Bys (wr.setCell ⟨g,m1/8,none⟩ (.int .u8 ((UInt8.ofNat (L+X)).toNat:Int))) b (.slice (some ⟨g,0,none⟩) (leS (m1/8+1) V1).length cap) ((leS (m1/8+1) V1).set (m1/8) (UInt8.ofNat (L+X))))
  (k:V1+x*p2 m1<p2 (m1+1)) (l:leS ((m1+1+7)/8) (V1+x*p2 m1)=(leS (m1/8+1) V1).set (m1/8) (UInt8.ofNat (L+X)))
  (h:(UInt8.ofNat (L+X)).toNat=L+X) (o:b<g) (n:g≠P) (m:P≠b) (d:Box wr P p q) (c:Below b w wr) (f:Bys wr b (.slice (some ⟨g,0,none⟩) (leS (m1/8+1) V1).length cap) (leS (m1/8+1) V1)) (i:bw b w wr) :
  jc ((wr.setCell ⟨g,m1/8,none⟩ (.int .u8 ((L:Int)+(X:Int)))).setCell ⟨b,1,none⟩ (.int .i64 ((m1:Int)+1))).drew b (V1+x*p2 m1) (m1+1) /\
  Box ((wr.setCell ⟨g,m1/8,none⟩ (.int .u8 ((L:Int)+(X:Int)))).setCell ⟨b,1,none⟩ (.int .i64 ((m1:Int)+1))).drew P p q /\
  Below b w ((wr.setCell ⟨g,m1/8,none⟩ (.int .u8 ((L:Int)+(X:Int)))).setCell ⟨b,1,none⟩ (.int .i64 ((m1:Int)+1))).drew /\
  bw b w ((wr.setCell ⟨g,m1/8,none⟩ (.int .u8 ((L:Int)+(X:Int)))).setCell ⟨b,1,none⟩ (.int .i64 ((m1:Int)+1))).drew:=by
 have e:((UInt8.ofNat (L+X)).toNat:Int)=(L:Int)+(X:Int):=by rw[h];omega
 rw[e]at a;refine⟨⟨k,.slice (some ⟨g,0,none⟩) (leS (m1/8+1) V1).length cap,?_,?_⟩,?_,?_,?_⟩
 . exact((j.other (by omega) _).set1 _).drew
 . rw[l];exact(a.set _).drew
 . exact((d.set (by omega) _).set (by omega) _).drew
 . exact(ap (ap c (by omega) _) (a0a _) _).drew
 . exact((i.setRow f _).set _).drew
theorem Jn(b V m:Nat)(num bits:Int)(w:World)(h:jc w b V m)(hp:pOk num bits=true)(hm:m<=100000) :
  Calls prog 329 #[.pointer (some ⟨b,0,none⟩),.agg #[.int .i64 num,.int .i64 bits]] w fun e w'=>e = .returned (.int .i64 num) /\
   jc w' b (V+num.toNat*p2 m) (m+bits.toNat)/\Below b w w'/\bw b w w':=by
 obtain⟨⟨b0,b1⟩,n0,n1⟩:=aV.1 hp;have hq:=(Jp bits b1).2;obtain⟨n,rfl⟩:=a0r n0;obtain⟨c,rfl⟩:=a0r b0;rw[a0x,a0x];rw[a0x]at n1 hq;have Z:Hid (n%p2 c=n):=a1u (by omega);have cu:(n:Int)<65536:=by omega
 obtain⟨i0,hi,cg,ch,ck⟩:=a0s Tryz.infoU8;have ct:b<w.heap.size:=by obtain⟨_,v,ht,_⟩:=h;exact ht.2.2.2.2
 have C:=KA w (n:Int) (c:Int);have h0:jc (w.alloc (.cells #[.int .i64 (n:Int),.int .i64 (c:Int)] 173)) b V m:=by
  obtain⟨W,v,ht,hy⟩:=h;exact⟨W,v,ht.kept ((a0c _ _).alloc (by omega) _),a0k hy _⟩
 have A:Below b w (w.alloc (.cells #[.int .i64 (n:Int),.int .i64 (c:Int)] 173)):=(a0c _ _).alloc (by omega) _;clear n1 hq h hp;go_enter func329,ntmps329;go_wp2_with fail
 go_loopw [5,8] (fun _ i wr=>∃k:Nat,k<=c/\i = .int .i64 k/\jc wr b (V+n%p2 k*p2 m) (m+k)/\Box wr w.heap.size n c/\Below b w wr/\bw b w wr) (fun _ i _=>c-(intOf i).toNat)
 case atStart=>exact⟨0,a0h _,rfl,by simpa[p2,a1w]using h0,C,A,(bw.refl _ _).alloc _⟩
 case round=>
  obtain⟨k,hk,rfl,G,d,p,t⟩:=hrel;clear h0 C A;obtain⟨bc0,bc1,J⟩:=d.cells;by_cases b6:k<c
  .
   have Q:=af (wt V n k m);have b7:n/p2 k<=n:=a2k _ _;have ad:Hid ((n:Int)/2 ^ k=((n/p2 k:Nat):Int)):=(Int.natCast_ediv n (2 ^ k)).symm;obtain⟨W,v,bs,a⟩:=G;obtain⟨sa,scap,rfl⟩:=a.form;have a7:=qM (V+n%p2 k*p2 m) (m+k) W;generalize V+n%p2 k*p2 m=V1 at *
   generalize a9:m+k=m1 at *
   have hx:n/p2 k%2<=1:=by omega
   have bb:((n/p2 k:Nat):Int)<65536:=by omega
   have bc:=pQ ((n/p2 k:Nat):Int) (a3C _) (Int.lt_trans bb (by omega));have b5:((n/p2 k:Nat):Int)%2=((n/p2 k%2:Nat):Int):=by omega
   rw[b5]at bc;have b8:p2 (m1%8)<=128:=nX (m1%8) 7 (by omega);have a1:n/p2 k%2*p2 (m1%8)<=1*p2 (m1%8):=a2h _ hx;have cq:((n/p2 k%2:Nat):Int)*(2:Int) ^ (m1%8)=((n/p2 k%2*p2 (m1%8):Nat):Int):=by rw[a1I,pd]
   have K:n/p2 k%2*p2 (m1%8)=0∨n/p2 k%2*p2 (m1%8)=p2 (m1%8):=by
    rcases (show n/p2 k%2=0∨n/p2 k%2=1 by omega)with e|e<;>rw[e]<;>simp
   obtain⟨b2,b3⟩:=Om V1 m1 (n/p2 k%2) W hx;have b4:=Oc V1 m1 W;have cv:=Cj (V1/p2 (8*(m1/8))) (n/p2 k%2*p2 (m1%8)) (m1%8) a7 (by omega) K;have H:=af (Ol V1 m1 W);have y:=af (Oe V1 m1);have O:(leS (m1/8+1) V1).length=m1/8+1:=aH _ _;have D:(leS ((m1+7)/8) V1).length=(m1+7)/8:=aH _ _;have F:m1<=100016:=by omega
   have z:V1/p2 (8*(m1/8))+n/p2 k%2*p2 (m1%8)<256:=by omega
   have a3:=nw _ z;have a5:(k:Int)<(c:Int):=by omega
   have co:(k:Int)<=16:=by omega
   have be:(m1:Int)%8<8:=by omega
   have cp:(m1:Int)<=100016:=by omega
   have cs:((n/p2 k%2*p2 (m1%8):Nat):Int)<=128:=by omega
   have cr:((n/p2 k%2:Nat):Int)<=1:=by omega
   have ac:=af a9;have HK:=af hk;have s:=af O;have T:=af D;have U:=af F;have al:=af b2;have an:=af b3;have ao:=af b4;have aa:=af a3;have cy:=ae ad;clear ad b5 K a7 b8 a1 b2 b3 b4 O D F z a3 b7 hx a9 hk W b6;generalize n/p2 k=nk at *
   generalize nk%2=x at *
   generalize x*p2 (m1%8)=X at *
   generalize V1/p2 (8*(m1/8))=L at *
   have l:=af bs;obtain⟨k0,k1,f0,f1,cm⟩:=bs;have a0:w.heap.size≠b:=by omega
   by_cases hr:m1%8=0
   .
    have cc:((m1:Int)%8 == 0)=true:=by simp;omega
    have bd:=af (ae H hr);clear hr H y be hm;have a6:(leS ((m1+7)/8) V1).length<=20000:=by have:=ae T;have:=ae U;omega
    have ab:=af a6;clear a6;go_wp2_with (at_builtin;refine a0v _ rfl _ _ 22 rfl (b+1) 5 i0 (.int .u8 0) 1 1 a0S hi cg ch ck rfl (by decide) _ _ _ rfl (a0k a _) ⟨wr.heap.size,0,none⟩ 1 1 [.int .u8 0] rfl rfl (by intro j u hj;match j,hj with | 0,hj=>simp at hj;subst hj;simp[Addr.add]) (by intro u hu;simp at hu;subst hu;rfl) (by have:=ae ab;unfold maxLen;omega) (by have:=ae ab;omega) (by simp;omega) ?_;intro v' w' P q ba;clear ba;have B:=(d.alloc _).grown (a0k a _) q;have M:=(t.alloc (.cells #[.int .u8 0] 5)).grown (a0k a _) q;obtain⟨⟨g,cap,rfl⟩,T3,Y3,B3⟩:=Jq (x:=0) (ae l) a p ((a0c _ _).alloc (by omega) _) P q;clear P q a d p t l k0 k1 f0 f1;have T3':=af T3;obtain⟨k0,k1,f0,f1,a2⟩:=T3);have E:(leS ((m1+7)/8) V1).length+1=(leS (m1/8+1) V1).length:=by rw[←ae bd,a0o];rfl
    rw[E]at Y3 ⊢;have T4:=(ae T3').set0 (.slice (some ⟨g,0,none⟩) (leS (m1/8+1) V1).length cap);have a:=Y3.set (o:=0) (.slice (some ⟨g,0,none⟩) (leS (m1/8+1) V1).length cap);rw[ae bd]at a;have d:=B.set (b:=b) (o:=0) (by omega) (.slice (some ⟨g,0,none⟩) (leS (m1/8+1) V1).length cap);have t:=M.set (o:=0) (.slice (some ⟨g,0,none⟩) (leS (m1/8+1) V1).length cap);have p:Below b w _:=ap B3 (o:=0) (a0a _) (.slice (some ⟨g,0,none⟩) (leS (m1/8+1) V1).length cap);clear Y3 B3 T3' k0 k1 f0 f1 B M bc0 bc1 J E a2;generalize w'.setCell ⟨b,0,none⟩ (.slice (some ⟨g,0,none⟩) (leS (m1/8+1) V1).length cap)=wA at *
    have l:=af T4;obtain⟨k0,k1,f0,f1,a2⟩:=T4;obtain⟨bc0,bc1,J⟩:=d.cells;obtain⟨gc,gf,gb⟩:=a.at (j:=m1/8) (by have:=ae s;omega);rw[ae ao]at gc;have I:=af (a.put (j:=m1/8) (UInt8.ofNat (L+X)));have Y:g≠w.heap.size:=d.ne a g rfl;have R:=af a;have S:=af t;clear t;have f:=ae s;rw[f]at k0;generalize hN:m1/8+1=N at k0;have a4:(m1:Int)/8<(N:Int):=by omega
    clear hN f a
    go_region
    all_goals
     go_wp2;go_roundw
     case rel=>
      have r:=vo (ae l) (ae I) (ae al) (ae an) (ae aa) gb Y a0 d p (ae R) (ae S);refine⟨k+1,by have:=ae HK;omega,by go_num,?_,r.2.1,r.2.2.1,r.2.2.2⟩;rw[ae Q,show m+(k+1)=m1+1 by have:=ae ac;omega];exact r.1
     case measure=>simp[intOf];omega
   .
    have cc:((m1:Int)%8 == 0)=false:=by simp;omega
    have bk:=ae y hr;rw[bk]at a k0 l;obtain⟨g,cap,hform⟩:∃g cap,Value.slice sa (leS (m1/8+1) V1).length scap = .slice (some ⟨g,0,none⟩) (leS (m1/8+1) V1).length cap:=by
     rcases a.2 with⟨_,h0⟩|⟨g,cap,_,e,_⟩
     . have:=ae s;omega
     . exact⟨g,cap,e⟩
    rw[hform]at a k0 l;obtain⟨gc,gf,gb⟩:=a.at (j:=m1/8) (by have:=ae s;omega);rw[ae ao]at gc;have I:=af (a.put (j:=m1/8) (UInt8.ofNat (L+X)));have Y:g≠w.heap.size:=d.ne a g rfl;have R:=af a;have S:=af t;clear t;have f:=ae s;rw[f]at k0;generalize hN:m1/8+1=N at k0;have a4:(m1:Int)/8<(N:Int):=by omega
    clear hN f hform bk hr H y a hm be;go_wp2_with fail
    go_region
    all_goals
     go_wp2;go_roundw
     case rel=>
      have r:=vo (ae l) (ae I) (ae al) (ae an) (ae aa) gb Y a0 d p (ae R) (ae S);refine⟨k+1,by have:=ae HK;omega,by go_num,?_,r.2.1,r.2.2.1,r.2.2.2⟩;rw[ae Q,show m+(k+1)=m1+1 by have:=ae ac;omega];exact r.1
     case measure=>simp[intOf];omega
  .
   have a5:k=c:=by omega
   subst a5;rw[ae Z]at G;go_wp2;go_ret;exact⟨rfl,G,p,t⟩
def Ints(w:World)(b:Nat)(v:Value)(xs:List Int):Prop:=w.ownsRow (b+1) 3 1 v xs.length (xs.map (Value.int .i64))
theorem Ints.keep(h:Ints w b v xs)(f:bw b w w'):Ints w' b v xs:=by
 refine⟨h.1,?_⟩;rcases h.2 with e|⟨g,cap,a,e,hb,c,i⟩
 . exact .inl e
 . refine .inr ⟨g,cap,a,e,hb,?_,i⟩;rw[f.2 g (Array.getElem?_eq_some_iff.1 c).1 (by omega) (fun d fr=>by rw[c];simp)];exact c
theorem Bys.other{o:Value}(h:Bys w b v l)(p:Ints w c o xs)(n:w.grownBy w' o.ownBlock):Bys w' b v l:=by
 refine a1y h n ?_;cases f:v.ownBlock with
 | none=>exact .inl rfl
 | some k=>
  refine .inr (fun e=>?_);rcases h.2 with⟨e1,_⟩|⟨g,cap,m,e1,_,d,_⟩
  . subst e1;simp[Value.ownBlock]at f
  .
   rcases p.2 with⟨e2,_⟩|⟨g2,i,j,e2,_,a,_⟩
   . subst e2;simp[Value.ownBlock]at e
   . subst e1 e2;simp only[Value.ownBlock,a0m]at f e;subst f;subst e;rw[d]at a;simp at a
theorem jc.alloc(h:jc w b V m)(o:Obj):jc (w.alloc o) b V m:=by
 obtain⟨c,v,a,d⟩:=h;exact⟨c,v,a.kept ((a0c _ _).alloc (by have:=a.2.2.2.2;omega) _),a0k d _⟩
theorem jc.other{o:Value}(h:jc w b V m)(c:Ints w b o xs)(a:w.grownBy w' o.ownBlock):jc w' b V m:=by
 obtain⟨e,v,d,g⟩:=h;exact⟨e,v,d.kept ((a0c _ _).grown a (by have:=d.2.2.2.2;omega) (fun k f=>(a0p c k f).1)),g.other c a⟩
theorem jc.lt(h:jc w b V m):b<w.heap.size:=by
 obtain⟨c,v,a,d⟩:=h;exact a.2.2.2.2
theorem Fg(a:Addr)(w:World):(method 500 236 (.pointer (some a)) "loop.example/corbel/impl.pass").run prog w = .ok (329,.pointer (some a)) w:=by kernel_rfl
theorem Ee(b:Nat)(a:Option Addr)(cap:Nat)(l:List (Int×Int))(w0 w:World)(h:mr w0 a l)(h0:Below b w0 w)(hs:w0.heap.size<=b)(hok:lOk l=true)(hw:jc w b 0 0) :
  Calls prog 197 #[.slice a l.length cap,.func (.method "loop.example/corbel/impl.pass") #[.iface 236 (.pointer (some ⟨b,0,none⟩))] #[]] w fun e w'=>
   (∃v,e = .returned v)/\jc w' b (cO l).1 (cO l).2/\Below b w w':=by
 simp only[lOk,a0n,a20]at hok;obtain⟨hall,h4⟩:=hok;have hall':=af hall;have H4:=af h4;have h4':(l.length:Int)<=4000:=by omega
 clear hall h4;obtain⟨i0,hi,hz0,hz1,hz2⟩:=a0s Tryz.infoInt;have mp:=Fg ⟨b,0,none⟩;go_enter func197,ntmps197;go_wp2_with fail
 go_loopw [5,7,10] (fun o _ i wr=>∃(k:Nat) (xs:List Int),k<=l.length/\i = .int .i64 k/\xs.length=k/\Ints wr b o xs/\jc wr b (cO (l.take k)).1 (cO (l.take k)).2/\Below b w wr) (fun _ _ i _=>l.length-(intOf i).toNat)
 case atStart=>exact⟨0,[],a0h _,rfl,rfl,a1x _ _ _ _,hw,a0c _ _⟩
 case round=>
  obtain⟨k,xs,hk,rfl,hxs,hints,hout,hbel⟩:=hrel;have hltb:=hout.lt;by_cases hlt:k<l.length
  .
   obtain⟨g,o,rfl,hg,hc⟩:=(h.below hs (h0.trans hbel)) (by omega);obtain⟨c0,c1⟩:=hc k hlt;have hmb:=Gf (l.take k) (kh (ae hall') k);obtain⟨s0,s1⟩:=BU (kh (ae hall') k);have s2:((l.take k).length:Int)<=4000:=by simp;omega
   have hml:Hid ((cO (l.take k)).2<=64000):=by show(cO (l.take k)).2<=64000;omega
   have hpk:=af (DO (ae hall') k hlt);have hstep:=af (Gg l k hlt);have HK:=af hk;have HX:=af hxs;clear hmb s0 s1 s2 hc hk hxs hw;generalize (l.getD k (0,0)).1=x at *
   generalize (l.getD k (0,0)).2=y at *
   generalize cO (l.take k)=S at *
   go_wp2_with fail;refine(Jn b S.1 S.2 x y _ (hout.alloc _) (ae hpk) (by have:=ae hml;omega)).mono ?_;rintro e w1 ⟨rfl,hout1,hbel1,hkp1⟩;have hints1:Ints w1 b u5 xs:=Ints.keep (a0k hints _) hkp1;have hbel2:=(hbel.alloc (a0y hltb) (.cells #[.int .i64 x,.int .i64 y] 173)).trans hbel1;have hlt1:=hout1.lt;clear hout hints hbel hbel1 hkp1;go_wp2_with (at_builtin;refine a0v _ rfl _ _ 146 rfl (b+1) 3 i0 (.int .i64 0) 1 8 a0L hi hz0 hz1 hz2 rfl (by decide) _ _ _ rfl (a0k hints1 _) ⟨w1.heap.size,0,none⟩ 1 1 [.int .i64 x] rfl rfl (by intro j u hj;match j,hj with | 0,hj=>simp at hj;subst hj;simp[Addr.add]) (by intro u hu;simp at hu;subst hu;rfl) (by have:=ae HX;have:=ae H4;unfold maxLen;omega) (by have:=ae HX;have:=ae H4;omega) (by simp;omega) ?_;intro v' w2 hown hgrow hnil;clear hnil);have hout2:jc w2 b _ _:=(hout1.alloc (.cells #[.int .i64 x] 3)).other (a0k hints1 _) hgrow;have hints2:Ints w2 b v' (xs++[x]):=by
    show World.ownsRow _ _ _ _ _ (xs++[x]).length _;simpa using hown
   have hbel3:Below b w w2:=(hbel2.alloc (a0y hlt1) _).grown hgrow (by simp;omega) (fun j hj=>a0y (a0p hints1 j hj).1);clear hown hgrow hints1 hout1 hbel2;go_wp2;go_roundw
   case rel=>exact⟨k+1,xs++[x],by have:=ae HK;omega,by go_num,by have:=ae HX;simp;omega,hints2,by rw[ae hstep];exact hout2,hbel3⟩
   case measure=>simp[intOf];omega
  .
   have hlk:Hid (l.take k=l):=a0D (by omega);clear h hw;obtain⟨va,vc,rfl⟩:∃va vc,u5 = .slice va xs.length vc:=by
    rcases hints.2 with⟨e,h0⟩|⟨g,cp,_,e,_⟩
    . exact⟨none,0,by rw[e,h0]⟩
    . exact⟨_,cp,e⟩
   go_wp2;go_ret;rw[ae hlk]at hout;exact⟨⟨_,rfl⟩,hout,hbel⟩
theorem Gi(b:Nat)(a:Option Addr)(cap:Nat)(l:List (Int×Int))(w0 w:World)(h:mr w0 a l)(g:Below b w0 w)(i:w0.heap.size<=b)(f:lOk l=true)(j:jc w b 0 0) :
  Calls prog 159 #[.iface 236 (.pointer (some ⟨b,0,none⟩)),.slice a l.length cap] w fun e w'=>
   (∃v,e = .returned v)/\jc w' b (cO l).1 (cO l).2/\Below b w w':=by
 go_enter func159,ntmps159;go_wp2_with fail;refine(Ee b a cap l w0 _ h g i f j).mono ?_;rintro e w1 ⟨⟨v,rfl⟩,d,c⟩;go_wp2;go_ret;exact⟨⟨_,rfl⟩,d,c⟩
theorem Kf(w:World)(t:TypeId):jc (w.alloc (.cells #[.slice none 0 0,.int .i64 0] t)) w.heap.size 0 0:=
 ⟨by decide,.slice none 0 0,⟨by simp,by simp,by simp,by simp,by simp⟩,a1x _ _ _ _⟩
theorem qx(a:Option Addr)(cap:Nat)(l:List (Int×Int))(w:World)(h:mr w a l)(m:l.length<=1000000000) :
  CD 131 #[.slice a l.length cap] w (.string ⟨(y9 l).toArray⟩):=by
 cases b:lOk l
 . have i:=af (LY b);have g:=si b;go_enter func131,ntmps131;go_wp2_with (go_at_call 158;refine(fX _ _ _ _ h m).mono ?_;rintro e w1 ⟨rfl,c⟩;rw[g]);go_ret;exact⟨Dv (a:=[]) (ae i).symm,c⟩
 .
  have i:=af (kU b);have g:=uI b;have d:bm l=true:=by simp only[lOk,a0n]at b;exact b.1
  obtain⟨s0,_⟩:=BU d;generalize bJ l=sb at *
  clear d;go_enter func131,ntmps131;go_wp2_with fail;refine(fX _ _ _ _ h m).mono ?_;rintro e w1 ⟨rfl,c⟩;rw[g];clear g;have o:=h.later c;go_wp2_with fail;refine(Gi w1.heap.size a cap l w1 _ o ((a0c _ _).alloc (a0a _) _) (a0a _) b (Kf w1 _)).mono ?_;rintro e w2 ⟨⟨v0,rfl⟩,⟨_,v,T,Y⟩,j⟩;have k:=jG Y;obtain⟨va,vc,rfl⟩:=Y.form;obtain⟨k0,q,f0,f1,p⟩:=T;clear q Y;generalize f:(leS (((cO l).2+7)/8) (cO l).1)=res at *
  have n:Hid (res=y9 l):=by have h:=ae i;rw[h,←f];exact rfl
  clear f;go_wp2;go_ret;exact⟨Dv (ae n),am c (((a0c _ _).alloc (a0a _) _).trans j)⟩
theorem uF(q k V W:Nat)(a:V<2 ^ (8*q)):leS (q+k) (V+W*2 ^ (8*q))=leS q V++leS k W:=by
 induction k with
 | zero=>simp[leS,qN q V W (8*q) (a0a _)]
 | succ k ih=>
  rw[show q+(k+1)=(q+k)+1 by omega];simp only[leS];rw[ih,a0U]
  congr 3
  have e:2 ^ (8*(q+k))=2 ^ (8*q)*2 ^ (8*k):=by rw[←a07];congr 1;omega
  rw[e,←a2v,Nat.add_mul_div_right _ _ (a1D _),a2G a,a0B]
theorem BE(V m:Nat)(l:List (Nat×Nat)):iA (V,m) l=(V+(iA (0,0) l).1*2 ^ m,m+(iA (0,0) l).2):=by
 have key:∀(l:List (Nat×Nat)) (W k:Nat),iA (V+W*2 ^ m,m+k) l=(V+(iA (W,k) l).1*2 ^ m,m+(iA (W,k) l).2):=by
  intro l;induction l with
  | nil=>intro W k;rfl
  | cons p l ih=>
   intro W k;simp only[iA];have e:V+W*2 ^ m+p.1*2 ^ (m+k)=V+(W+p.1*2 ^ k)*2 ^ m:=by
    rw[a1F,a07,a2x,a1E (2 ^ m)];omega
   rw[e,Nat.add_assoc m k p.2];exact ih _ _
 have:=key l 0 0;simpa using this
theorem zR(l m:List (Int×Int)):cO (l++m)=((cO l).1+(cO m).1*2 ^ (cO l).2,(cO l).2+(cO m).2):=by
 rw[cO,oZ,a1d,kV];exact BE _ _ _
theorem vv(l m:List (Int×Int)):bm (l++m)=(bm l&&bm m):=by simp[bm]
theorem Ml(f b:List (Int×Int))(d:lOk f=true)(hb:lOk b=true)(l:f.length+b.length<=4000)(i:(cO f).2%8=0):y9 (f++b)=y9 f++y9 b:=by
 have a:bm f=true:=by simp only[lOk,a0n]at d;exact d.1
 have c:bm b=true:=by simp only[lOk,a0n]at hb;exact hb.1
 have h:lOk (f++b)=true:=by
  simp only[lOk,a0n,a20,vv];exact⟨⟨a,c⟩,by simpa using l⟩
 rw[kU h,kU d,kU hb,iF,iF,iF,zR];have g:=Mq f a;generalize cO f=F at *
 generalize cO b=B at *
 obtain⟨V,m⟩:=F;obtain⟨W,k⟩:=B;have j:m%8=0:=i;have e:m=8*(m/8):=by omega
 show leS ((m+k+7)/8) (V+W*2 ^ m)=leS ((m+7)/8) V++leS ((k+7)/8) W;rw[show(m+k+7)/8=m/8+(k+7)/8 by omega,show(m+7)/8=m/8 by omega];have:=uF (m/8) ((k+7)/8) V W (by rw[←e];exact g);rw[←e]at this;exact this
theorem IB(V:Nat):leS 4 V=leS 2 (V%65536)++leS 2 (V/65536):=by
 have:=uF 2 2 (V%65536) (V/65536) (a05 _ (by decide));rw[←this]
 congr 1
 show V=V%65536+V/65536*2 ^ 16;omega
def dR(ws:List Nat):List (Int×Int):=ws.map fun(x:Nat)=>(((x:Nat):Int),(16:Int))
theorem zT{ws:List Nat}(h:∀x∈ws,x<65536)(c:ws.length<=100):lOk (dR ws)=true:=by
 unfold lOk;simp only[a0n,a0E];refine⟨?_,by unfold dR;rw[a1l];omega⟩;unfold bm dR;rw[List.all_map,a06];intro x b;have a:p2 (16:Int).toNat=65536:=by decide
 have:=h x b;show pOk ((x:Nat):Int) 16=true;exact aV.2 ⟨by omega,by omega,by rw[a];omega⟩
theorem Gk{ws:List Nat}(h:∀x∈ws,x<65536)(b:ws.length<=100):y9 (dR ws)=ws.flatMap (leS 2):=by
 induction ws with
 | nil=>decide
 | cons x ws ih=>
  have d:x<65536:=h x (by simp);have c:lOk (dR [x])=true:=zT (fun y a=>by rw[a1g.1 a];exact d) (by simp);have h2:lOk (dR ws)=true:=zT (fun y a=>h y (by simp[a])) (by simp at b;omega);have e:dR (x :: ws)=dR [x]++dR ws:=rfl;have e1:cO (dR [x])=(x,16):=by simp[cO,oZ,iA,dR]
  rw[e,Ml _ _ c h2 (by unfold dR;simp at b ⊢;omega) (by rw[e1];exact(by decide:(16:Nat)%8=0)),ih (fun y a=>h y (by simp[a])) (by simp at b;omega),kU c,iF,e1,a1c];show leS ((16+7)/8) x++_=_;rw[show(16+7)/8=2 by decide]
theorem aJ(V many:Nat)(w:World)(M:V<1099511627776)(P:many<=10) :
  CD 103 #[.int .i64 (V:Int),.int .i64 (many:Int)] w (.string ⟨(leS many V).toArray⟩):=by
 obtain⟨i0,H,A,B,C⟩:=a0s Tryz.infoU8;have J:(many:Int)<=10:=by omega
 have p:Hid (aK (w.alloc (.cells #[] 5)) w.heap.size (.slice (some ⟨w.heap.size,0,none⟩) 0 0) (leS 0 V)):=aK.lit _ _ (a0a _);have j:Hid (Below w.heap.size w (w.alloc (.cells #[] 5))):=(a0c _ _).alloc (a0a _) _;go_enter func103,ntmps103;go_wp2_with fail
 go_loopw [0,5,6] (fun x v i wr=>∃k:Nat,k<=many/\i = .int .i64 k/\x = .int .i64 ((V/2 ^ (8*k):Nat):Int)/\aK wr w.heap.size v (leS k V)/\Below w.heap.size w wr) (fun _ _ i _=>many-(intOf i).toNat)
 case atStart=>exact⟨0,a0h _,rfl,by simp,ae p,ae j⟩
 case round=>
  obtain⟨k,O,rfl,rfl,hq,a⟩:=hrel;have e:Hid ((leS k V).length=k):=aH k V;obtain⟨va,vc,rfl⟩:=hq.formN (ae e);clear p j;by_cases I:k<many
  .
   have n:(k:Int)<(many:Int):=by omega
   have N:V/2 ^ (8*k)<=V:=a2k _ _;have s:Hid (leS k V++[UInt8.ofNat (V/2 ^ (8*k)%256)]=leS (k+1) V):=rfl;have m:Hid (V/2 ^ (8*k)/256=V/2 ^ (8*(k+1))):=by show _=_;rw[a2v,show 8*(k+1)=8*k+8 by omega,a07]
   generalize V/2 ^ (8*k)=x at *
   have K:(x:Int)<=1099511627776:=by omega
   obtain⟨y,hy⟩:∃y,x%256=y:=⟨_,rfl⟩;have u:(x:Int)%256=(y:Int):=by omega
   have L:Int.tmod (x:Int) 256=(y:Int):=by rw[a15 (by omega)];exact u
   have Q:IntKind.u8.wrap (y:Int)=(y:Int):=by simp only[IntKind.wrap,IntKind.bits,IntKind.signed];simp;omega
   have z:((UInt8.ofNat y).toNat:Int)=(y:Int):=by rw[a3M];omega
   obtain⟨d,hd⟩:∃d,x/256=d:=⟨_,rfl⟩;have G:(x:Int)/256=(d:Int):=by omega
   rw[hy]at s;rw[hd]at m;have D:Hid (k+1<=maxLen/\(k+1)*1<=140737488355328):=by show _/\_;unfold maxLen;omega
   have r:=af (hq.own (ae e));have l:=a.size;have h:=af a;clear hq a hy hd;go_wp2_with (at_builtin;refine a0v _ rfl _ _ 22 rfl w.heap.size 5 i0 (.int .u8 0) 1 1 a0S H A B C rfl (by decide) _ _ _ rfl (a0k (ae r) _) ⟨wr.heap.size,0,none⟩ 1 1 [.int .u8 (y:Int)] rfl rfl (bo _ _ rfl _ _) (one_byte _) (ae D).1 (ae D).2 (av l _) ?_;intro v' x2 g c o;clear o);have t:=aI (v:=.slice va k vc) c (ae r) (a0a _) l (ae h);have f:World.ownsRow x2 w.heap.size 5 1 v' (k+1) (bW (leS k V)++[.int .u8 ((UInt8.ofNat y).toNat:Int)]):=by rw[z];exact g
   have q:=bO (b:=UInt8.ofNat y) (ae e) f;rw[ae s]at q;clear g f c;go_wp2;go_roundw
   case rel=>exact⟨k+1,by omega,by go_num,by rw[←ae m],q,t⟩
   case measure=>simp[intOf];omega
  .
   obtain rfl:k=many:=by omega
   have n:¬ (k:Int)<(k:Int):=by omega
   have F:=hq.text;have E:=af a;clear hq a;go_wp2;go_ret;exact⟨rfl,ae E⟩
def cJ(ws:List Nat):List Int:=ws.map fun(x:Nat)=>((x:Nat):Int)
theorem Gj(ws:List Nat)(k:Nat)(h:k<ws.length):(cJ ws).getD k 0=((ws.getD k 0:Nat):Int):=by
 unfold cJ;simp[List.getD,h]
theorem Cl(ws:List Nat)(k:Nat)(h:k<ws.length):dR (ws.take (k+1))=dR (ws.take k)++[(((ws.getD k 0:Nat):Int),(16:Int))]:=by
 unfold dR;rw[a1i h,a1d];simp[List.getD,h]
theorem Ke(x:Int)(w:World):CD 133 #[.int .i64 x] w (.agg #[.int .i64 x,.int .i64 16]):=by
 go_enter func133,ntmps133;go_wp2;refine a0R (v:=.agg #[.int .i64 x,.int .i64 16]) (by simp[results,results133,go_sem]) rfl ⟨rfl,?_⟩;exact(a0c _ _).alloc (a0a _) _
theorem AE(a:Option Addr)(cap n:Nat)(ws:List Nat)(w:World)(B:ws.length=n)(h:bn w a (cJ ws))(I:n<=100) :
  Calls prog 132 #[.slice a n cap,.func (.func 133) #[] #[]] w fun e w'=>∃v,e = .returned v/\Pcs w' w.heap.size v (dR ws)/\Below w.heap.size w w':=by
 have O:(n:Int)<=100:=by omega
 have x:=af B;have M:=af I;have G:Hid ((cJ ws).length=n):=by show _=_;unfold cJ;rw[a1l];exact B
 clear B I;obtain⟨i0,N,D,E,F⟩:=a0s Tryz.infoPiece;go_enter func132,ntmps132;go_wp2_with fail
 go_loopw [5,7,10] (fun o _ i wr=>∃k:Nat,k<=n/\i = .int .i64 k/\Pcs wr w.heap.size o (dR (ws.take k))/\Below w.heap.size w wr) (fun _ _ i _=>n-(intOf i).toNat)
 case atStart=>exact⟨0,a0h _,rfl,a1x _ _ _ _,a0c _ _⟩
 case round=>
  obtain⟨k,H,rfl,hq,b⟩:=hrel;by_cases p:k<n
  .
   obtain⟨g,o,rfl,P,r⟩:=(h.later b) (by rw[ae G];omega);have c0:=r k (by rw[ae G];exact p);rw[Gj ws k (by rw[ae x];exact p)]at c0;have C:=af (Cl ws k (by rw[ae x];exact p));have A:Hid ((dR (ws.take k)).length=k):=by show _=_;unfold dR;have:=ae x;simp;omega
   have L:=af H;clear r H h;generalize ((ws.getD k 0:Nat):Int)=y at *
   have HP:=af (Ke y wr);go_wp2_with fail;refine(ae HP).mono ?_;rintro e x1 ⟨rfl,m⟩;have q:=Pcs.later hq m (a0a _);have c:=am b m;have j:=c.size;have f:Hid ((dR (ws.take k)).length+1<=maxLen/\((dR (ws.take k)).length+1)*16<=140737488355328):=by
    show _/\_;rw[ae A];have:=ae M;unfold maxLen;omega
   clear hq b m HP;go_wp2_with (at_builtin;refine a0v _ rfl _ _ 170 rfl w.heap.size 173 i0 (.agg #[.int .i64 0,.int .i64 0]) 2 16 underlying170 N D E F rfl (by decide) _ _ _ rfl (a0k q _) ⟨x1.heap.size,0,none⟩ 1 1 [.int .i64 y,.int .i64 16] rfl rfl (Mm x1 _ _ _) (Mk _ _) (ae f).1 (ae f).2 (av j _) ?_;intro v' x2 l d t;clear t);have z:=aI (v:=u5) d q (a0a _) j c;have u:=yZ l;rw[←ae C]at u;clear l d q;go_wp2;go_roundw
   case rel=>exact⟨k+1,by have:=ae L;omega,by go_num,u,z⟩
   case measure=>simp[intOf];omega
  . have s:ws.take k=ws:=a0D (by rw[ae x];omega);rw[s]at hq;have K:=af hq;have J:=af b;clear hq b s;go_wp2;go_ret;exact⟨_,rfl,ae K,ae J⟩
theorem ez(a:Option Addr)(cap n:Nat)(ws:List Nat)(w:World)(l:ws.length=n)(h:bn w a (cJ ws))(k:n<=100)(p:∀x∈ws,x<65536) :
  CD 89 #[.slice a n cap] w (.string ⟨(ws.flatMap (leS 2)).toArray⟩):=by
 have m:=af (AE a cap n ws w l h k);have r:=af (Gk p (by omega));have o:(dR ws).length=n:=by unfold dR;rw[a1l];exact l
 have d:=af o;have s:=af k;clear l h k p o;go_enter func89,ntmps89;go_wp2_with fail;refine(ae m).mono ?_;rintro e w1 ⟨v,rfl,j,b⟩;obtain⟨a1,c1,rfl⟩:=j.formN (ae d);have g:=qx a1 c1 (dR ws) w1 (j.rowN (ae d)) (by have:=ae d;have:=ae s;omega);rw[ae r,ae d]at g;have i:=af g;have q:=af b;clear j b g m;go_wp2_with fail;refine(ae i).mono ?_;rintro e w2 ⟨rfl,c⟩;have f:=af (am (ae q) c);clear c;go_wp2;go_ret;exact⟨rfl,ae f⟩
theorem dW(V:Nat)(w:World)(k:V<4294967296) :
  CD 90 #[.int .i64 (V:Int)] w (.string ⟨(leS 4 V).toArray⟩):=by
 have e1:bits .and .i64 (V:Int) 65535=((V%65536:Nat):Int):=by
  have:=xP (V:Int) (by omega) (by omega);rw[this];omega
 have d:Hid ([V%65536,V/65536].flatMap (leS 2)=leS 4 V):=by
  show _=_;rw[IB];simp
 have hq:V/65536<65536:=by omega
 have f:Hid (bn (w.alloc (.cells #[.int .i64 ((V%65536:Nat):Int),.int .i64 ((V/65536:Nat):Int)] 3)) (some ⟨w.heap.size,0,none⟩) (cJ [V%65536,V/65536])):=by
  intro _;refine⟨w.heap.size,0,rfl,by simp,fun i j=>?_⟩
  match i,j with
  | 0,_=>simp[cJ]
  | 1,_=>simp[cJ]
 have c:=af (ez (some ⟨w.heap.size,0,none⟩) 2 2 [V%65536,V/65536] _ rfl (ae f) (by omega) (fun x b=>by
  simp only[a1h,List.mem_nil_iff,a1C]at b;rcases b with rfl|rfl
  . exact a05 _ (by decide)
  . exact hq))
 rw[ae d]at c;have g:Hid (Below w.heap.size w (w.alloc (.cells #[.int .i64 ((V%65536:Nat):Int),.int .i64 ((V/65536:Nat):Int)] 3))):=(a0c _ _).alloc (a0a _) _;generalize b:V%65536=x at *
 generalize l:V/65536=y at *
 have e2:(V:Int)/65536=(y:Int):=by omega
 clear d f b;go_enter func90,ntmps90;go_wp2_with fail;refine(ae c).mono ?_;rintro e w1 ⟨rfl,a⟩;have h:=af (am (ae g) a);clear a;go_wp2;go_ret;exact⟨rfl,ae h⟩
def Kq(W:World)(g:Nat)(how st crc pk lg:Nat)(nm:ByteArray):Prop:=W.cell? ⟨g,0,none⟩=some (.int .i64 (how:Nat))/\W.cell? ⟨g,1,none⟩=some (.int .i64 (st:Nat))/\W.cell? ⟨g,2,none⟩=some (.int .i64 (crc:Nat))/\W.cell? ⟨g,3,none⟩=some (.int .i64 (pk:Nat))/\W.cell? ⟨g,4,none⟩=some (.int .i64 (lg:Nat))/\W.cell? ⟨g,5,none⟩=some (.string nm)
def tt(w:World)(how st crc pk lg:Nat)(nm:ByteArray)(W:World):Prop:=Below w.heap.size w W/\w.heap.size<W.heap.size/\Kq W w.heap.size how st crc pk lg nm
theorem tt.later{W':World}(h:tt w how st crc pk lg nm W)(hb:Below W.heap.size W W'):tt w how st crc pk lg nm W':=by
 have a:∀j,W'.cell? ⟨w.heap.size,j,none⟩=W.cell? ⟨w.heap.size,j,none⟩:=fun j=>hb.cell (p:=⟨w.heap.size,j,none⟩) h.2.1;exact⟨h.1.trans (hb.mono (a0y h.2.1)),a0i h.2.1 hb.size,(a 0).trans h.2.2.1,(a 1).trans h.2.2.2.1,(a 2).trans h.2.2.2.2.1,(a 3).trans h.2.2.2.2.2.1,(a 4).trans h.2.2.2.2.2.2.1,(a 5).trans h.2.2.2.2.2.2.2⟩
theorem F3(W:World)(x y z:Nat):bn (W.alloc (.cells #[.int .i64 ((x:Nat):Int),.int .i64 ((y:Nat):Int),.int .i64 ((z:Nat):Int)] 3)) (some ⟨W.heap.size,0,none⟩) (cJ [x,y,z]):=by
 intro _;refine⟨W.heap.size,0,rfl,by simp,fun i a=>?_⟩
 match i,a with
 | 0,_=>simp[cJ]
 | 1,_=>simp[cJ]
 | 2,_=>simp[cJ]
theorem Mn(W:World)(x y:Nat):bn (W.alloc (.cells #[.int .i64 ((x:Nat):Int),.int .i64 ((y:Nat):Int)] 3)) (some ⟨W.heap.size,0,none⟩) (cJ [x,y]):=by
 intro _;refine⟨W.heap.size,0,rfl,by simp,fun i a=>?_⟩
 match i,a with
 | 0,_=>simp[cJ]
 | 1,_=>simp[cJ]
def ts(w:World)(how st crc pk lg:Nat)(nm:ByteArray)(W:World)(r0 r1:Option Nat):Prop:=tt w how st crc pk lg nm W/\(∀g,r0=some g->bn W (some ⟨g,0,none⟩) (cJ [20,0,how]))/\∀g,r1=some g->bn W (some ⟨g,0,none⟩) (cJ [nm.size,0])
theorem ts.later{W':World}{a b:Option Nat}(h:ts w how st crc pk lg nm W a b)(hb:Below W.heap.size W W'):ts w how st crc pk lg nm W' a b:=⟨h.1.later hb,fun g e=>(h.2.1 g e).later hb,fun g e=>(h.2.2 g e).later hb⟩
theorem ts.new0{a:Option Nat}(h:ts w how st crc pk lg nm W none a):ts w how st crc pk lg nm (W.alloc (.cells #[.int .i64 20,.int .i64 0,.int .i64 ((how:Nat):Int)] 3)) (some W.heap.size) a:=by
 have h2:=h.later ((a0c W.heap.size W).alloc (a0a _) (.cells #[.int .i64 20,.int .i64 0,.int .i64 ((how:Nat):Int)] 3));exact⟨h2.1,fun g e=>by cases e;exact F3 W 20 0 how,h2.2.2⟩
theorem ts.new1{a:Option Nat}(h:ts w how st crc pk lg nm W a none):ts w how st crc pk lg nm (W.alloc (.cells #[.int .i64 ((nm.size:Nat):Int),.int .i64 0] 3)) a (some W.heap.size):=by
 have h2:=h.later ((a0c W.heap.size W).alloc (a0a _) (.cells #[.int .i64 ((nm.size:Nat):Int),.int .i64 0] 3));exact⟨h2.1,h2.2.1,fun g e=>by cases e;exact Mn W nm.size 0⟩
def az(l:List UInt8):ByteArray:=⟨l.toArray⟩
def dI(how st crc pk lg n:Nat):ByteArray:=az ([20,0,how].flatMap (leS 2))++az (leS 4 st)++az (leS 4 crc)++az (leS 4 pk)++az (leS 4 lg)++az ([n,0].flatMap (leS 2))
theorem zG(how st d k lg:Nat)(nm:ByteArray)(w:World)(C:how<65536)(z:st<4294967296)(h2:d<4294967296)(A:k<4294967296)(B:lg<4294967296)(D:nm.size<65536) :
  CD 130 #[.agg #[.int .i64 (how:Nat),.int .i64 (st:Nat),.int .i64 (d:Nat),.int .i64 (k:Nat),.int .i64 (lg:Nat),.string nm]] w (.string (dI how st d k lg nm.size)):=by
 have r:prog.follows .mixedOrders=true:=by kernel_rfl
 have s:Hid (∀g W,bn W (some ⟨g,0,none⟩) (cJ [20,0,how])->CD 89 #[.slice (some ⟨g,0,none⟩) 3 3] W (.string (az ([20,0,how].flatMap (leS 2))))):=fun g W h=>ez _ 3 3 [20,0,how] W rfl h (by omega) (fun x y=>by simp at y;omega);have t:Hid (∀g W,bn W (some ⟨g,0,none⟩) (cJ [nm.size,0])->CD 89 #[.slice (some ⟨g,0,none⟩) 2 2] W (.string (az ([nm.size,0].flatMap (leS 2))))):=fun g W h=>ez _ 2 2 [nm.size,0] W rfl h (by omega) (fun x y=>by simp at y;omega);have n:Hid (∀W,CD 90 #[.int .i64 (st:Int)] W (.string (az (leS 4 st)))):=fun W=>dW st W z;have o:Hid (∀W,CD 90 #[.int .i64 (d:Int)] W (.string (az (leS 4 d)))):=fun W=>dW d W h2;have p:Hid (∀W,CD 90 #[.int .i64 (k:Int)] W (.string (az (leS 4 k)))):=fun W=>dW k W A;have q:Hid (∀W,CD 90 #[.int .i64 (lg:Int)] W (.string (az (leS 4 lg)))):=fun W=>dW lg W B;have m:∀l:List UInt8,(az l).size=l.length:=fun l=>by simp[az,ByteArray.size]
 have z0:((az ([20,0,how].flatMap (leS 2))).size:Int)<=100:=by rw[m];simp[aH]
 have z5:((az ([nm.size,0].flatMap (leS 2))).size:Int)<=100:=by rw[m];simp[aH]
 have z1:((az (leS 4 st)).size:Int)<=100:=by rw[m,aH];omega
 have z2:((az (leS 4 d)).size:Int)<=100:=by rw[m,aH];omega
 have z3:((az (leS 4 k)).size:Int)<=100:=by rw[m,aH];omega
 have z4:((az (leS 4 lg)).size:Int)<=100:=by rw[m,aH];omega
 unfold dI;generalize az ([20,0,how].flatMap (leS 2))=A0 at *
 generalize az ([nm.size,0].flatMap (leS 2))=A5 at *
 generalize az (leS 4 st)=A1 at *
 generalize az (leS 4 d)=A2 at *
 generalize az (leS 4 k)=A3 at *
 generalize az (leS 4 lg)=A4 at *
 have E:(nm.size:Int)<65536:=by omega
 have T0':Hid (tt w how st d k lg nm (w.alloc (.cells #[.int .i64 (how:Nat),.int .i64 (st:Nat),.int .i64 (d:Nat),.int .i64 (k:Nat),.int .i64 (lg:Nat),.string nm] 61))):=⟨(a0c _ _).alloc (a0a _) _,by simp,by simp,by simp,by simp,by simp,by simp,by simp⟩;clear C z h2 A B D m;go_enter func130,ntmps130;go_wp2_with fail;obtain⟨W0,hW0⟩:∃x,w.alloc (.cells #[.int .i64 (how:Nat),.int .i64 (st:Nat),.int .i64 (d:Nat),.int .i64 (k:Nat),.int .i64 (lg:Nat),.string nm] 61)=x:=⟨_,rfl⟩;rw[hW0]at T0';rw[hW0];have T0:=T0';clear T0' hW0;refine a0H (S:=fun W=>Kq W w.heap.size how st d k lg nm) r (ae T0).2.2 (fun c=>?_);refine ag 0 (.pointer (some ⟨w.heap.size,0,none⟩)) rfl (by kernel_rfl) (fun _ _ _ h=>h) rfl (fun W a=>by obtain⟨s0,s1,s2,s3,s4,s5⟩:=a;go_simp) c ?_;refine ag 1 (.int .i64 (how:Nat)) rfl (by kernel_rfl) (fun _ _ _ h=>h) rfl (fun W a=>by obtain⟨s0,s1,s2,s3,s4,s5⟩:=a;go_simp) c ?_;refine ag 4 (.pointer (some ⟨w.heap.size,1,none⟩)) rfl (by kernel_rfl) (fun _ _ _ h=>h) rfl (fun W a=>by obtain⟨s0,s1,s2,s3,s4,s5⟩:=a;go_simp) c ?_;refine ag 5 (.int .i64 (st:Nat)) rfl (by kernel_rfl) (fun _ _ _ h=>h) rfl (fun W a=>by obtain⟨s0,s1,s2,s3,s4,s5⟩:=a;go_simp) c ?_;refine ag 8 (.pointer (some ⟨w.heap.size,2,none⟩)) rfl (by kernel_rfl) (fun _ _ _ h=>h) rfl (fun W a=>by obtain⟨s0,s1,s2,s3,s4,s5⟩:=a;go_simp) c ?_;refine ag 9 (.int .i64 (d:Nat)) rfl (by kernel_rfl) (fun _ _ _ h=>h) rfl (fun W a=>by obtain⟨s0,s1,s2,s3,s4,s5⟩:=a;go_simp) c ?_;refine ag 12 (.pointer (some ⟨w.heap.size,3,none⟩)) rfl (by kernel_rfl) (fun _ _ _ h=>h) rfl (fun W a=>by obtain⟨s0,s1,s2,s3,s4,s5⟩:=a;go_simp) c ?_;refine ag 13 (.int .i64 (k:Nat)) rfl (by kernel_rfl) (fun _ _ _ h=>h) rfl (fun W a=>by obtain⟨s0,s1,s2,s3,s4,s5⟩:=a;go_simp) c ?_;refine ag 16 (.pointer (some ⟨w.heap.size,4,none⟩)) rfl (by kernel_rfl) (fun _ _ _ h=>h) rfl (fun W a=>by obtain⟨s0,s1,s2,s3,s4,s5⟩:=a;go_simp) c ?_;refine ag 17 (.int .i64 (lg:Nat)) rfl (by kernel_rfl) (fun _ _ _ h=>h) rfl (fun W a=>by obtain⟨s0,s1,s2,s3,s4,s5⟩:=a;go_simp) c ?_;refine ag 20 (.pointer (some ⟨w.heap.size,5,none⟩)) rfl (by kernel_rfl) (fun _ _ _ h=>h) rfl (fun W a=>by obtain⟨s0,s1,s2,s3,s4,s5⟩:=a;go_simp) c ?_;refine ag 21 (.string nm) rfl (by kernel_rfl) (fun _ _ _ h=>h) rfl (fun W a=>by obtain⟨s0,s1,s2,s3,s4,s5⟩:=a;go_simp) c ?_;refine ag 22 (.int .i64 (nm.size:Nat)) rfl (by kernel_rfl) (fun _ _ _ h=>h) rfl (fun W a=>by obtain⟨s0,s1,s2,s3,s4,s5⟩:=a;go_simp) c ?_;have b:ts w how st d k lg nm W0.drew none none:=⟨⟨(ae T0).1.drew,(ae T0).2.1,(ae T0).2.2⟩,nofun,nofun⟩;generalize W0.drew=W at b c ⊢;refine a0z (rs:=[2,23]) (by kernel_rfl) (by simp) ?_;repeat' first
  | exact a0Y
  | refine a0C rfl (fun K f=>?_) ?_
  | (refine gQ 5 rfl ?_;go_simp;have b:=b.new0;refine a0f f _ _ b.1.2.2 (fun c=>?_);clear f K;generalize W.alloc (.cells #[.int .i64 20,.int .i64 0,.int .i64 ((how:Nat):Int)] 3)=V at b c ⊢;generalize W.heap.size=g at b ⊢;revert V;intro W c b;(first|refine a0z (rs:=[3,23]) (by decide +kernel) (by simp) ?_|refine a0z (rs:=[3]) (by decide +kernel) (by simp) ?_))
  | (refine gQ 26 rfl ?_;go_simp;have b:=b.new1;refine a0f f _ _ b.1.2.2 (fun c=>?_);clear f K;generalize W.alloc (.cells #[.int .i64 ((nm.size:Nat):Int),.int .i64 0] 3)=V at b c ⊢;generalize W.heap.size=g at b ⊢;revert V;intro W c b;(first|refine a0z (rs:=[2]) (by decide +kernel) (by simp) ?_|refine a0z (rs:=[3]) (by decide +kernel) (by simp) ?_|refine a0z (rs:=[6]) (by decide +kernel) (by simp) ?_|refine a0z (rs:=[10]) (by decide +kernel) (by simp) ?_|refine a0z (rs:=[14]) (by decide +kernel) (by simp) ?_|refine a0z (rs:=[18]) (by decide +kernel) (by simp) ?_|refine a0z (rs:=[24]) (by decide +kernel) (by simp) ?_))
  | (refine gQ 6 rfl ?_;go_simp;go_at_call 89;refine(ae s _ _ (b.2.1 _ rfl)).mono ?_;rintro e W ⟨rfl,j⟩;have b:=b.later j;refine a0f f _ _ b.1.2.2 (fun c=>?_);clear f K;clear j;(first|refine a0z (rs:=[6,23]) (by decide +kernel) (by simp) ?_|refine a0z (rs:=[6]) (by decide +kernel) (by simp) ?_))
  | (refine gQ 9 rfl ?_;go_simp;go_at_call 90;refine(ae n _).mono ?_;rintro e W ⟨rfl,j⟩;have b:=b.later j;refine a0f f _ _ b.1.2.2 (fun c=>?_);clear f K;clear j;refine a0Q (i:=7) (v:=.string (A0++A1)) rfl (by kernel_rfl) (by kernel_rfl) (by kernel_rfl) (fun _ _ _ h=>h) (a0I ⟨by rfl,fun W a=>by go_simp<;>omega⟩) c ?_;(first|refine a0z (rs:=[10,23]) (by decide +kernel) (by simp) ?_|refine a0z (rs:=[10]) (by decide +kernel) (by simp) ?_))
  | (refine gQ 13 rfl ?_;go_simp;go_at_call 90;refine(ae o _).mono ?_;rintro e W ⟨rfl,j⟩;have b:=b.later j;refine a0f f _ _ b.1.2.2 (fun c=>?_);clear f K;clear j;refine a0Q (i:=11) (v:=.string (A0++A1++A2)) rfl (by kernel_rfl) (by kernel_rfl) (by kernel_rfl) (fun _ _ _ h=>h) (a0I ⟨by rfl,fun W a=>by go_simp<;>omega⟩) c ?_;(first|refine a0z (rs:=[14,23]) (by decide +kernel) (by simp) ?_|refine a0z (rs:=[14]) (by decide +kernel) (by simp) ?_))
  | (refine gQ 17 rfl ?_;go_simp;go_at_call 90;refine(ae p _).mono ?_;rintro e W ⟨rfl,j⟩;have b:=b.later j;refine a0f f _ _ b.1.2.2 (fun c=>?_);clear f K;clear j;refine a0Q (i:=15) (v:=.string (A0++A1++A2++A3)) rfl (by kernel_rfl) (by kernel_rfl) (by kernel_rfl) (fun _ _ _ h=>h) (a0I ⟨by rfl,fun W a=>by go_simp<;>omega⟩) c ?_;(first|refine a0z (rs:=[18,23]) (by decide +kernel) (by simp) ?_|refine a0z (rs:=[18]) (by decide +kernel) (by simp) ?_))
  | (refine gQ 21 rfl ?_;go_simp;go_at_call 90;refine(ae q _).mono ?_;rintro e W ⟨rfl,j⟩;have b:=b.later j;refine a0f f _ _ b.1.2.2 (fun c=>?_);clear f K;clear j;refine a0Q (i:=19) (v:=.string (A0++A1++A2++A3++A4)) rfl (by kernel_rfl) (by kernel_rfl) (by kernel_rfl) (fun _ _ _ h=>h) (a0I ⟨by rfl,fun W a=>by go_simp<;>omega⟩) c ?_;(first|refine a0z (rs:=[23]) (by decide +kernel) (by simp) ?_|refine a0z (rs:=[24]) (by decide +kernel) (by simp) ?_))
  | (refine gQ 27 rfl ?_;go_simp;go_at_call 89;refine(ae t _ _ (b.2.2 _ rfl)).mono ?_;rintro e W ⟨rfl,j⟩;have b:=b.later j;refine a0f f _ _ b.1.2.2 (fun c=>?_);clear f K;clear j;refine a0Q (i:=25) (v:=.string (A0++A1++A2++A3++A4++A5)) rfl (by kernel_rfl) (by kernel_rfl) (by kernel_rfl) (fun _ _ _ h=>h) (a0I ⟨by rfl,fun W a=>by go_simp<;>omega⟩) c ?_;refine a0z (rs:=[26]) (by kernel_rfl) (by simp) ?_)
  | (refine gQ 2 rfl ?_;go_simp;refine a0f f _ _ b.1.2.2 (fun c=>?_);clear f K;refine a0u (by kernel_rfl) ?_ _;generalize u:A0++A1++A2++A3++A4++A5=AA;go_wp2;go_ret;exact⟨by subst u;rfl,b.1.1⟩)
theorem bu(l:List UInt8):(az l).size=l.length:=by simp[az,ByteArray.size]
theorem fg(how st a b lg n:Nat):(dI how st a b lg n).size=26:=by
 unfold dI;rw[a0N,a0N,a0N,a0N,a0N];simp only[bu,a1c,a2s,a0o,aH,a04]
def eE(how st crc pk lg:Nat)(nm:ByteArray):ByteArray:=(⟨#[80,75,3,4]⟩:ByteArray)++dI how st crc pk lg nm.size++nm
theorem xM(how st b c lg:Nat)(nm i:ByteArray)(w:World)(m:how<65536)(n:st<4294967296)(h2:b<4294967296)(o:c<4294967296)(p:lg<4294967296)(q:nm.size<65536) :
  CD 87 #[.agg #[.int .i64 (how:Nat),.int .i64 (st:Nat),.int .i64 (b:Nat),.int .i64 (c:Nat),.int .i64 (lg:Nat),.string nm,.string i]] w (.string (eE how st b c lg nm)):=by
 have l:=af (fun W=>zG how st b c lg nm W m n h2 o p q);have g:prog.follows .mixedOrders=true:=by kernel_rfl
 obtain⟨A,hA⟩:∃A,dI how st b c lg nm.size=A:=⟨_,rfl⟩;have s:(A.size:Int)<=1000:=by
  rw[←hA,fg];omega
 have t:(nm.size:Int)<65536:=by omega
 have r:eE how st b c lg nm=(⟨#[80,75,3,4]⟩:ByteArray)++A++nm:=by unfold eE;rw[hA]
 rw[hA]at l;rw[r];have T0':Hid (tt w how st b c lg nm (w.alloc (.cells #[.int .i64 (how:Nat),.int .i64 (st:Nat),.int .i64 (b:Nat),.int .i64 (c:Nat),.int .i64 (lg:Nat),.string nm,.string i] 63))):=⟨(a0c _ _).alloc (a0a _) _,by simp,by simp,by simp,by simp,by simp,by simp,by simp⟩;clear m n h2 o p q hA r;go_enter func87,ntmps87;go_wp2_with fail;obtain⟨W0,hW0⟩:∃x,w.alloc (.cells #[.int .i64 (how:Nat),.int .i64 (st:Nat),.int .i64 (b:Nat),.int .i64 (c:Nat),.int .i64 (lg:Nat),.string nm,.string i] 63)=x:=⟨_,rfl⟩;rw[hW0]at T0';rw[hW0];have T0:=T0';clear T0' hW0;refine a0H (S:=fun W=>Kq W w.heap.size how st b c lg nm) g (ae T0).2.2 (fun d=>?_);refine ag 0 (.pointer (some ⟨w.heap.size,0,none⟩)) rfl (by kernel_rfl) (fun _ _ _ h=>h) rfl (fun W a=>by obtain⟨s0,s1,s2,s3,s4,s5⟩:=a;go_simp) d ?_;refine ag 1 (.agg #[.int .i64 (how:Nat),.int .i64 (st:Nat),.int .i64 (b:Nat),.int .i64 (c:Nat),.int .i64 (lg:Nat),.string nm]) rfl (by kernel_rfl) (fun _ _ _ h=>h) rfl (fun W a=>by obtain⟨s0,s1,s2,s3,s4,s5⟩:=a;go_simp) d ?_;refine ag 4 (.pointer (some ⟨w.heap.size,0,none⟩)) rfl (by kernel_rfl) (fun _ _ _ h=>h) rfl (fun W a=>by obtain⟨s0,s1,s2,s3,s4,s5⟩:=a;go_simp) d ?_;refine ag 5 (.pointer (some ⟨w.heap.size,5,none⟩)) rfl (by kernel_rfl) (fun _ _ _ h=>h) rfl (fun W a=>by obtain⟨s0,s1,s2,s3,s4,s5⟩:=a;go_simp) d ?_;refine ag 6 (.string nm) rfl (by kernel_rfl) (fun _ _ _ h=>h) rfl (fun W a=>by obtain⟨s0,s1,s2,s3,s4,s5⟩:=a;go_simp) d ?_;have T1:Hid (tt w how st b c lg nm W0.drew):=⟨(ae T0).1.drew,(ae T0).2.1,(ae T0).2.2⟩;generalize W0.drew=W1 at *
 refine ah 2 (by kernel_rfl) rfl fun K f=>?_;go_simp;go_at_call 130;refine(ae l W1).mono ?_;rintro e W2 ⟨rfl,k⟩;have T2:=af ((ae T1).later k);refine a0f f _ _ (ae T2).2.2 (fun d=>?_);clear f K k;refine ag 3 (.string ((⟨#[80,75,3,4]⟩:ByteArray)++A)) rfl (by kernel_rfl) (fun _ _ _ h=>h) rfl (fun W a=>by obtain⟨s0,s1,s2,s3,s4,s5⟩:=a;go_simp<;>omega) d ?_;refine ag 7 (.string ((⟨#[80,75,3,4]⟩:ByteArray)++A++nm)) rfl (by kernel_rfl) (fun _ _ _ h=>h) rfl (fun W a=>by obtain⟨s0,s1,s2,s3,s4,s5⟩:=a;go_simp<;>omega) d ?_;refine ah 8 (by kernel_rfl) rfl fun K f=>?_;go_simp;refine a0f f _ _ (ae T2).2.2 (fun d=>?_);clear f K;refine a0u (by kernel_rfl) ?_ _;generalize j:(⟨#[80,75,3,4]⟩:ByteArray)++A++nm=AA;go_wp2;go_ret;exact⟨by subst j;rfl,(ae T2).1⟩
theorem ry(how st a b lg:Nat)(nm:ByteArray):(eE how st a b lg nm).size=30+nm.size:=by
 unfold eE;rw[a0N,a0N,fg];have:(⟨#[80,75,3,4]⟩:ByteArray).size=4:=rfl;omega
theorem xL(how st a d lg:Nat)(nm b:ByteArray)(w:World)(l:how<65536)(m:st<4294967296)(h2:a<4294967296)(n:d<4294967296)(o:lg<4294967296)(q:nm.size<65536)(s:b.size<=100000) :
  CD 60 #[.agg #[.int .i64 (how:Nat),.int .i64 (st:Nat),.int .i64 (a:Nat),.int .i64 (d:Nat),.int .i64 (lg:Nat),.string nm,.string b]] w (.string (eE how st a d lg nm++b)):=by
 have i:prog.follows .mixedOrders=true:=by kernel_rfl
 have r:=af (fun W=>xM how st a d lg nm b W l m h2 n o q);have t:((eE how st a d lg nm).size:Int)<=70000:=by rw[ry];omega
 have u:(b.size:Int)<=100000:=by omega
 generalize eE how st a d lg nm=A at *
 have T0':Hid (tt w how st a d lg nm (w.alloc (.cells #[.int .i64 (how:Nat),.int .i64 (st:Nat),.int .i64 (a:Nat),.int .i64 (d:Nat),.int .i64 (lg:Nat),.string nm,.string b] 63))/\(w.alloc (.cells #[.int .i64 (how:Nat),.int .i64 (st:Nat),.int .i64 (a:Nat),.int .i64 (d:Nat),.int .i64 (lg:Nat),.string nm,.string b] 63)).cell? ⟨w.heap.size,6,none⟩=some (.string b)):=⟨⟨(a0c _ _).alloc (a0a _) _,by simp,by simp,by simp,by simp,by simp,by simp,by simp⟩,by simp⟩;clear l m h2 n o q s;go_enter func60,ntmps60;go_wp2_with fail;obtain⟨W0,hW0⟩:∃x,w.alloc (.cells #[.int .i64 (how:Nat),.int .i64 (st:Nat),.int .i64 (a:Nat),.int .i64 (d:Nat),.int .i64 (lg:Nat),.string nm,.string b] 63)=x:=⟨_,rfl⟩;rw[hW0]at T0';rw[hW0];have T0:=T0';clear T0' hW0;refine a0H (S:=fun W=>Kq W w.heap.size how st a d lg nm/\W.cell? ⟨w.heap.size,6,none⟩=some (.string b)) i ⟨(ae T0).1.2.2,(ae T0).2⟩ (fun f=>?_);refine ag 0 (.agg #[.int .i64 (how:Nat),.int .i64 (st:Nat),.int .i64 (a:Nat),.int .i64 (d:Nat),.int .i64 (lg:Nat),.string nm,.string b]) rfl (by kernel_rfl) (fun _ _ _ h=>h) rfl (fun W c=>by obtain⟨⟨s0,s1,s2,s3,s4,s5⟩,s6⟩:=c;go_simp) f ?_;refine ag 2 (.pointer (some ⟨w.heap.size,6,none⟩)) rfl (by kernel_rfl) (fun _ _ _ h=>h) rfl (fun W c=>by obtain⟨⟨s0,s1,s2,s3,s4,s5⟩,s6⟩:=c;go_simp) f ?_;refine ag 3 (.string b) rfl (by kernel_rfl) (fun _ _ _ h=>h) rfl (fun W c=>by obtain⟨⟨s0,s1,s2,s3,s4,s5⟩,s6⟩:=c;go_simp) f ?_;have T1:Hid (tt w how st a d lg nm W0.drew/\W0.drew.cell? ⟨w.heap.size,6,none⟩=some (.string b)):=⟨⟨(ae T0).1.1.drew,(ae T0).1.2.1,(ae T0).1.2.2⟩,(ae T0).2⟩;generalize W0.drew=W1 at *
 refine ah 1 (by kernel_rfl) rfl fun K g=>?_;go_simp;go_at_call 87;refine(ae r W1).mono ?_;rintro e W2 ⟨rfl,j⟩;have T2:Hid (tt w how st a d lg nm W2/\W2.cell? ⟨w.heap.size,6,none⟩=some (.string b)):=⟨(ae T1).1.later j,by rw[j.cell (p:=⟨w.heap.size,6,none⟩) (ae T1).1.2.1];exact(ae T1).2⟩;refine a0f g _ _ ⟨(ae T2).1.2.2,(ae T2).2⟩ (fun f=>?_);clear g K j;refine ag 4 (.string (A++b)) rfl (by kernel_rfl) (fun _ _ _ h=>h) rfl (fun W c=>by obtain⟨⟨s0,s1,s2,s3,s4,s5⟩,s6⟩:=c;go_simp<;>omega) f ?_;refine ah 5 (by kernel_rfl) rfl fun K g=>?_;go_simp;refine a0f g _ _ ⟨(ae T2).1.2.2,(ae T2).2⟩ (fun f=>?_);clear g K;refine a0u (by kernel_rfl) ?_ _;generalize k:A++b=AA;go_wp2;go_ret;exact⟨by subst k;rfl,(ae T2).1.1⟩
theorem IC(l:List UInt8):leS l.length (db l)=l:=by
 apply a3a
 . rw[aH]
 . intro j a h2;have h:=De l.length (db l) j h2;rw[zP]at h;rw[List.getD_eq_getElem?_getD,List.getElem?_eq_getElem a,List.getD_eq_getElem?_getD,List.getElem?_eq_getElem h2]at h;simpa using h
theorem zQ(k V:Nat):db (leS k V)=V%2 ^ (8*k):=by
 induction k with
 | zero=>simp[leS,db,a1w]
 | succ k ih=>
  simp only[leS];rw[iT,ih,aH];have e:2 ^ (8*(k+1))=2 ^ (8*k)*256:=by rw[a2w,a07]
  rw[e,Nat.mod_mul]
  congr 2
  simp[db]
theorem nU(V p k:Nat):V/2 ^ p%2 ^ (k+1)=V/2 ^ p%2 ^ k+V/2 ^ (p+k)%2*2 ^ k:=by
 rw[yv,a2v,←a07]
def fu(l:List Int):Nat:=(l.map Int.toNat).sum
theorem zo(a b:List Int):fu (a++b)=fu a+fu b:=by simp[fu]
theorem pu(x:Int)(b:List Int):fu (x :: b)=x.toNat+fu b:=by simp[fu]
def fp(V:Nat):Nat->List Int->List Int
 | _,[]=>[]
 | p,b :: bs=>((V/2 ^ p%2 ^ b.toNat:Nat):Int) :: fp V (p+b.toNat) bs
theorem uS(V p:Nat)(l:List Int):(fp V p l).length=l.length:=by
 induction l generalizing p with
 | nil=>rfl
 | cons b l ih=>simp[fp,ih]
theorem wz(V p:Nat)(a b:List Int):fp V p (a++b)=fp V p a++fp V (p+fu a) b:=by
 induction a generalizing p with
 | nil=>simp[fp,fu]
 | cons x a ih=>simp[fp,ih,pu,Nat.add_assoc]
def dM(l:List Int):Bool:=l.all (fun b=>decide (0<=b)&&decide (b<=16))
def iN(s:List UInt8)(l:List Int):Bool:=dM l&&decide (l.length<=4000)&&decide (s.length=(fu l+7)/8)&&decide (db s<2 ^ fu l)
def xG(s:List UInt8)(l:List Int):List Int:=if iN s l=true then fp (db s) 0 l else []
theorem Ak{l:List Int}(h:dM l=true)(k:Nat)(a:k<l.length):0<=l.getD k 0/\l.getD k 0<=16:=by
 have:=a06.1 h (l.getD k 0) (by simp[List.getD,a]);simpa using this
theorem Mg{l:List Int}(h:dM l=true):fu l<=16*l.length:=by
 induction l with
 | nil=>simp[fu]
 | cons b l ih=>
  have a:(0<=b/\b<=16)/\dM l=true:=by simpa[dM]using h
  have:=ih a.2;rw[pu,a0J];omega
theorem BH(s:List UInt8)(m:Nat)(h:s.length=(m+7)/8):(db s/2 ^ m%2 ^ ((8-m%8)%8)=0)<->db s<2 ^ m:=by
 have a:=ot s;have e:8*s.length=m+(8-m%8)%8:=by omega
 rw[e,a07]at a;have h2:db s/2 ^ m<2 ^ ((8-m%8)%8):=Nat.div_lt_of_lt_mul a;rw[a1u h2];constructor
 .
  intro b;rcases Nat.div_eq_zero_iff.1 b with h|h
  . have:=a1D m;omega
  . exact h
 . exact a2G
def kH(n:Nat):Nat:=1+n*256+(65535-n)*16777216
def sY(L:List UInt8):List UInt8:=if L.length<=300 then leS 5 (kH L.length)++L else []
def KB(b:Nat)(w w':World):Prop:=Below b w w'/\bw b w w'
theorem KB.refl(b:Nat)(w:World):KB b w w:=⟨a0c _ _,bw.refl _ _⟩
theorem KB.trans{w1 w2:World}(h:KB b w w1)(k:KB b w1 w2):KB b w w2:=⟨h.1.trans k.1,h.2.trans k.2⟩
theorem KB.drew(h:KB b w w'):KB b w w'.drew:=⟨h.1.drew,h.2.drew⟩
theorem KB.set(h:KB b w w')(o:Nat)(u:Value):KB b w (w'.setCell ⟨b,o,none⟩ u):=⟨ap h.1 (a0a _) u,h.2.set u⟩
theorem KB.below{w'':World}(h:KB b w w')(hb:Below w'.heap.size w' w'')(c:b<=w'.heap.size):KB b w w'':=
 ⟨h.1.trans (hb.mono c),h.2.trans ⟨hb.size,fun k a _ _=>hb.block k a⟩⟩
theorem y8{v2:Value}{x:UInt8}(T2:Three W2 b v v1 v2)(Y2:Bys W2 b v l)(h:KB b w W2)
  (e:Below (b+1) W2 WA) (d:bw b W2 WA) (f:Bys WA b v l) (c:w'.ownsRow (b+1) 5 1 v' (l.length+1) (bW l++[.int .u8 (x.toNat:Int)])) (a:WA.grownBy w' v.ownBlock) :
  (∃g cap,v' = .slice (some ⟨g,0,none⟩) (l.length+1) cap)/\Three w' b v v1 v2/\Bys w' b v' (l++[x])/\KB b w w':=by
 obtain⟨i,h2,j,k⟩:=sK T2 Y2 h.1 e c a;exact⟨i,h2,j,k,h.2.trans (d.grown f a)⟩
theorem Js(b V m:Nat)(num bits:Int)(w:World)(h:Out w b V m)(n0:0<=num)(n1:num<65536)(b0:0<=bits)(b1:bits<=16)(hm:m<=100000) :
  Calls prog 238 #[.pointer (some ⟨b,0,none⟩),.int .i64 num,.int .i64 bits] w fun e w'=>e = .returned (.tuple #[]) /\
   Out w' b (V+num.toNat%p2 bits.toNat*p2 m) (m+bits.toNat)/\KB b w w':=by
 obtain⟨n,rfl⟩:=a0r n0;obtain⟨c,rfl⟩:=a0r b0;rw[a0x,a0x];obtain⟨i0,hi,a9,ba,bb⟩:=a0s Tryz.infoU8;go_enter func238,ntmps238;go_wp2
 go_loopw [1,6] (fun x i wr=>∃k:Nat,k<=c/\i = .int .i64 k/\x = .int .i64 (n/p2 k:Nat)/\Out wr b (V+n%p2 k*p2 m) (m+k)/\KB b w wr) (fun _ i _=>c-(intOf i).toNat)
 case atStart=>exact⟨0,a0h _,rfl,by simp[p2],by simpa[p2,a1w]using h,KB.refl _ _⟩
 case round=>
  obtain⟨k,hk,rfl,rfl,z,a⟩:=hrel;by_cases b6:k<c
  .
   have B:=af (wt V n k m);have g:=af (xJ n k);have a5:n/p2 k<=n:=a2k _ _;obtain⟨hV,v,s,G⟩:=z;obtain⟨sa,scap,rfl⟩:=G.form;have a4:=qM (V+n%p2 k*p2 m) (m+k) hV;generalize V+n%p2 k*p2 m=V1 at *
   generalize W:m+k=m1 at *
   have hx:n/p2 k%2<=1:=by omega
   have ad:((n/p2 k:Nat):Int)%2=((n/p2 k%2:Nat):Int):=by omega
   have bd:((n/p2 k:Nat):Int)<65536:=by omega
   have a6:p2 (m1%8)<=128:=nX (m1%8) 7 (by omega);have O:n/p2 k%2*p2 (m1%8)<=1*p2 (m1%8):=a2h _ hx;have y:((n/p2 k%2:Nat):Int)*((p2 (m1%8):Nat):Int)=((n/p2 k%2*p2 (m1%8):Nat):Int):=by simp
   have q:=yP V1 m1 (n/p2 k%2) hV hx;have d:=yO V1 m1 (n/p2 k%2) hV hx;have ab:m1%8<8:=a05 _ (by omega);have l:m1<=100016:=by omega
   have Q:(leS (m1/8) V1).length=m1/8:=aH _ _;generalize n/p2 k=nk at *
   generalize a7:nk%2=x at *
   generalize a0:V1/p2 (8*(m1/8))=L at *
   generalize ac:m1%8=r at *
   generalize N:p2 r=P at *
   generalize a1:x*P=X at *
   have an:=af N;have K:=af W;have ao:=af ac;have E:=af q;have C:=af d;clear W a0 ac N a1 hV q d a7 hx a5;obtain⟨k0,H,I,f0,f1,f2,F⟩:=s;have s:Hid (Three wr b _ _ _):=⟨k0,H,I,f0,f1,f2,F⟩;have b7:(r:Int)<8:=by omega
   have bs:(L:Int)<128:=by omega
   have b2:(X:Int)<=128:=by omega
   have S:(k:Int)<(c:Int):=by omega
   have bk:=af ab;have D:=af l;have Hk:=af hk;have al:Hid (IntKind.i64.wrap ((L:Int)+IntKind.i64.wrap ((nk:Int).tmod 2*(P:Int)))=(L:Int)+(X:Int)):=by
    show IntKind.i64.wrap ((L:Int)+IntKind.i64.wrap ((nk:Int).tmod 2*(P:Int)))=(L:Int)+(X:Int);rw[a15 (by omega),ad,y,bp (X:Int) (by omega) (by omega),bp ((L:Int)+(X:Int)) (by omega) (by omega)]
   clear ab l a6 O a4 hk hm;go_wp2_with fail;go_cut[]from 7 to 62 (fun wc=>wc=(wr.setCell ⟨b,1,none⟩ (.int .i64 ((L:Int)+(X:Int)))).drew)
   case first=>
    go_region_with (go_at_call 252;refine(ej _ _ (by omega)).mono ?_;rintro e w' ⟨rfl,rfl⟩;rw[a0x,ae an])
    all_goals
     go_wp2_with fail
     go_meet
     exact by rw[ae al]
   case rest=>
    have T1:=((ae s).set1 (.int .i64 ((L:Int)+(X:Int)))).drew;have Y1:=(G.set (o:=1) (.int .i64 ((L:Int)+(X:Int)))).drew;have B1:KB b w _:=(a.set 1 (.int .i64 ((L:Int)+(X:Int)))).drew;rw[←hcut]at T1 Y1 B1;clear hcut G a s k0 H I f0 f1 f2 F y ad;have T1':=af T1;obtain⟨k0,H,I,f0,f1,f2,F⟩:=T1;by_cases aa:(r:Int)=7
    .
     have A:r=7:=by omega
     obtain⟨o1,o2,o3,o4⟩:=ae C A;have O1:=af o1;have O2:=af o2;have O3:=af o3;have O4:=af o4;have M:L+X<256:=by omega
     have a3:=af (nw (L+X) M);have b5:IntKind.u8.wrap ((L:Int)+(X:Int))=(L:Int)+(X:Int):=by
      rw[IntKind.wrap_u8'];omega
     subst A;clear o1 o2 o3 o4 aa M;have T2:=(ae T1').set2 (.int .i64 8);have Y2:=Y1.set (o:=2) (.int .i64 8);have B2:KB b w _:=B1.set 2 (.int .i64 8);have U:=af Q;clear Q;go_wp2_with fail;generalize wc.setCell ⟨b,2,none⟩ (.int .i64 8)=W2 at *
     clear k0 H I f0 f1 f2 T1' Y1 B1;have T2':=af T2;obtain⟨k0,H,I,f0,f1,f2,a2⟩:=T2;have R:Hid (((UInt8.ofNat (L+X)).toNat:Int)=(L:Int)+(X:Int)):=by
      show((UInt8.ofNat (L+X)).toNat:Int)=(L:Int)+(X:Int);rw[ae a3];omega
     have T:(leS (m1/8) V1).length<=20000:=by have:=ae U;have:=ae D;omega
     have J:=af T;clear T;go_cut[]from 7 to 62 (fun wc2=>∃v',Three wc2 b v' (.int .i64 ((L:Int)+(X:Int))) (.int .i64 8)/\Bys wc2 b v' (leS (m1/8) V1++[UInt8.ofNat (L+X)])/\KB b w wc2)
     case first=>
      go_region_law (refine ak rfl (.tmp 47) (.tmp 53) 22 rfl (b+1) 5 i0 (.int .u8 0) 1 1 a0S hi a9 ba bb rfl (by decide) _ _ _ (by simp[Act.eval]) (Y2.alloc _) ⟨W2.heap.size,0,none⟩ 1 1 [.int .u8 ((L:Int)+(X:Int))] (by simp[Act.eval]) rfl (by intro j u hj;match j,hj with | 0,hj=>simp at hj;subst hj;simp[Addr.add]) (by intro u hu;simp at hu;subst hu;rfl) (by have:=ae J;unfold maxLen;omega) (by have:=ae J;omega) (by simp;omega) ?_;intro v' w' p f Z;clear Z;rw[←ae R]at p;obtain⟨⟨g',bc,rfl⟩,T3,Y3,B3⟩:=y8 (ae T2') Y2 B2 (by first|exact(a0c _ _).alloc (by omega) _|exact((a0c _ _).alloc (by omega) _).drew) (by first|exact(bw.refl _ _).alloc _|exact((bw.refl _ _).alloc _).drew) (by first|exact Y2.alloc _|exact(Y2.alloc _).drew) p f;clear p f;have T3':=af T3;obtain⟨q0,q1,q2,e0,e1,e2,b3⟩:=T3)
      all_goals
       go_wp2_with fail
       go_meet
       exact⟨_,(ae T3').set0 _,Y3.set _,B3.set _ _⟩
     case rest=>
      obtain⟨v',T4,Y4,B4⟩:=hcut;clear k0 H I f0 f1 f2 T2' Y2 B2 a2;obtain⟨va,vc,rfl⟩:=Y4.form;have T4':=af T4;obtain⟨k0,H,I,f0,f1,f2,b4⟩:=T4;go_wp2;go_roundw
      case rel=>
       refine⟨k+1,by have:=ae Hk;omega,by go_num,by rw[←ae g];go_num,?_,(B4.set _ _).set _ _⟩;rw[ae B,show m+(k+1)=m1+1 by have:=ae K;omega];refine⟨ae O1,.slice va (leS (m1/8) V1++[UInt8.ofNat (L+X)]).length vc,?_,?_⟩
       . rw[ae O2,ae O3];exact((ae T4').set1 _).set2 _
       . rw[ae O4];exact(Y4.set _).set _
      case measure=>simp[intOf];omega
    .
     have be:((r:Int)+1 == 8)=false:=by simp;omega
     have t:r<7:=by omega
     obtain⟨o1,o2,o3⟩:=ae E t;have O1:=af o1;have O2:=af o2;have O3:=af o3;have Y:Hid ((m1+1)%8=r+1):=by show(m1+1)%8=r+1;have:=ae ao;omega
     clear o1 o2 o3 t aa;go_wp2;go_roundw
     case rel=>
      refine⟨k+1,by have:=ae Hk;omega,by go_num,by rw[←ae g];go_num,?_,B1.set _ _⟩;rw[ae B,show m+(k+1)=m1+1 by have:=ae K;omega];refine⟨ae O1,.slice sa (leS (m1/8) V1).length scap,?_,?_⟩
      . rw[ae O2,ae Y];exact(ae T1').set2 _
      . rw[ae O3];exact Y1.set _
     case measure=>simp[intOf];omega
  .
   have S:k=c:=by omega
   subst S;go_wp2
   go_end0
   exact⟨rfl,z,a⟩
theorem kf(b V m:Nat)(w:World)(h:Out w b V m)(d:m<=90000) :
  Calls prog 239 #[.pointer (some ⟨b,0,none⟩)] w fun e w'=>e = .returned (.tuple #[])/\Out w' b V (8*((m+7)/8))/\Below b w w':=by
 have j:=af h;obtain⟨k,v,u,n⟩:=h;obtain⟨k0,o,x,f0,f1,f2,q⟩:=u;by_cases l:m%8=0
 .
  have g:((m%8:Nat):Int)=0:=by omega
  have s:Hid (8*((m+7)/8)=m):=by show _=_;omega
  clear l k n k0 o d;go_enter func239,ntmps239;go_wp2
  go_end0
  exact⟨rfl,by rw[ae s];exact ae j,a0c _ _⟩
 .
  have g:(0:Int)<((m%8:Nat):Int):=by omega
  have t:((m%8:Nat):Int)<8:=by omega
  have a:Hid (m+(8-m%8)=8*((m+7)/8)):=by show _=_;omega
  have i:Hid ((8-((m%8:Nat):Int)).toNat=8-m%8):=by show(8-((m%8:Nat):Int)).toNat=8-m%8;omega
  have f:=af d;clear l k n k0 o d;generalize ((m%8:Nat):Int)=r at *
  go_enter func239,ntmps239;go_wp2_with fail;refine(oa b V m 0 (8-r) _ (ae j) (by omega) (by omega) (by omega) (by omega) (by have:=ae f;omega)).mono ?_;rintro e w1 ⟨rfl,c,hb⟩;rw[ae i]at c;simp only[Int.toNat_zero,Nat.zero_mod,Nat.zero_mul,a1H]at c;rw[ae a]at c;have p:=af c;clear c;go_wp2
  go_end0
  exact⟨rfl,ae p,hb⟩
theorem KC(l:List UInt8)(s:ByteArray):(⟨l.toArray⟩:ByteArray)++s=⟨(l++s.data.toList).toArray⟩:=by
 apply a2y;rw[a2t];apply Array.ext';simp
theorem ye(s:ByteArray)(w:World)(A:s.size<=300) :
  CD 220 #[.string s] w (.string ⟨(leS 5 (kH s.size)++s.data.toList).toArray⟩):=by
 have E:(s.size:Int)<=300:=by omega
 have B:=af (wl w 326);have m:Hid (Below w.heap.size w (w.alloc (.cells #[.slice none 0 0,.int .i64 0,.int .i64 0] 326))):=(a0c _ _).alloc (a0a _) _;have q:=af A;clear A;go_enter func220,ntmps220;go_wp2_with fail;refine(oa _ 0 0 1 1 _ (ae B) (by omega) (by omega) (by omega) (by omega) (by omega)).mono ?_;rintro e x1 ⟨rfl,r,d⟩;go_wp2_with fail;refine(oa _ _ _ 0 2 _ r (by omega) (by omega) (by omega) (by omega) (by omega)).mono ?_;rintro e x2 ⟨rfl,h2,f⟩;have a:Out x2 w.heap.size 1 3:=h2;clear r h2;go_wp2_with fail;refine(kf _ _ _ _ a (by omega)).mono ?_;rintro e x3 ⟨rfl,t,g⟩;have b:Out x3 w.heap.size 1 8:=t;have n:=af (((ae m).trans d).trans (f.trans g));clear a t d f g;go_wp2_with fail;refine(oa _ _ _ (s.size:Int) 16 _ b (by omega) (by omega) (by omega) (by omega) (by omega)).mono ?_;rintro e x4 ⟨rfl,u,h⟩;clear b;go_wp2_with fail;refine(oa _ _ _ (65535-(s.size:Int)) 16 _ u (by omega) (by omega) (by omega) (by omega) (by omega)).mono ?_;rintro e x5 ⟨rfl,x,i⟩;have z:1+((s.size:Int).toNat%p2 (16:Int).toNat*p2 8)+((65535-(s.size:Int)).toNat%p2 (16:Int).toNat*p2 (8+(16:Int).toNat))=kH s.size:=by
  have e16:p2 (16:Int).toNat=65536:=by decide
  have e8:p2 8=256:=by decide
  have e24:p2 (8+(16:Int).toNat)=16777216:=by decide
  rw[e16,e8,e24];unfold kH;have:=ae q;rw[a0x,show(65535-(s.size:Int)).toNat=65535-s.size by omega,a1u (by omega),a1u (by omega)]
 have l:Out x5 w.heap.size (kH s.size) 40:=by rw[←z];exact x
 obtain⟨_,v,T,Y⟩:=l;have j:=jG Y;have o:=af ((ae n).trans (h.trans i));obtain⟨k0,F,G,f0,f1,f2,D⟩:=T;have k:leS (40/8) (kH s.size)=leS 5 (kH s.size):=rfl;rw[k]at j;have p:=af (KC (leS 5 (kH s.size)) s);clear u x z h i Y F G k;have c:=aH 5 (kH s.size);generalize y:leS 5 (kH s.size)=P at j p c;have HP:=af y;have C:¬ 9223372036854775807<P.length+s.size:=by have:=ae q;omega
 clear y c;go_wp2;go_ret;exact⟨by rw[ae HP,←ae p];rfl,ae o⟩
def wd(l:List UInt8)(i k:Nat):Nat:=db ((l.drop i).take k)
theorem DF(l:List UInt8)(i k:Nat):wd l i k<2 ^ (8*k):=by
 unfold wd;refine a0i (ot _) (a0W (by decide) ?_);rw[a0t];omega
theorem gJ(l:List UInt8)(i:Nat):wd l i 2<65536:=DF l i 2
theorem dQ(l:List UInt8)(i:Nat):wd l i 4<4294967296:=DF l i 4
theorem dX(h:i+k<=l.length):((l.drop i).take k).length=k:=by
 rw[a0t,a01];omega
theorem gh(h:i+k<=l.length):leS k (wd l i k)=(l.drop i).take k:=by
 have:=IC ((l.drop i).take k);rw[dX h]at this;exact this
theorem Nv(k:Nat)(h:i+j<=l.length):wd l i (j+k)=wd l i j+2 ^ (8*j)*wd l (i+j) k:=by
 unfold wd;rw[a3g,iT,dX h,a1Y]
theorem Od(h:i+2<=l.length):wd l i 4=wd l i 2+65536*wd l (i+2) 2:=Nv (j:=2) 2 h
theorem qm{v:Nat}(h:i+k<=l.length)(a:v<2 ^ (8*k)):wd l i k=v<->(l.drop i).take k=leS k v:=by
 constructor
 . intro e;rw[←e,gh h]
 . intro e;unfold wd;rw[e,zQ,a1u a]
theorem Ge(h:i+k<=l.length):db l/2 ^ (8*i)%2 ^ (8*k)=wd l i k:=by
 have e1:db l=db (l.take i)+2 ^ (8*i)*db (l.drop i):=by
  have a:=iT (l.take i) (l.drop i);rw[a13,a0t,a1s (by omega)]at a;exact a
 have l1:db (l.take i)<2 ^ (8*i):=by
  have:=ot (l.take i);rw[a0t,a1s (by omega)]at this;exact this
 have e2:db (l.drop i)=wd l i k+2 ^ (8*k)*db ((l.drop i).drop k):=by
  have a:=iT ((l.drop i).take k) ((l.drop i).drop k);rw[a13,dX h]at a;exact a
 rw[e1,Nat.add_mul_div_left _ _ (a1D _),a2G l1,a0B,e2,Nat.add_mul_mod_self_left,a1u (DF l i k)]
theorem sO(V b:Nat):∀(n p j:Nat),j<n->(fp V p (List.replicate n ((b:Nat):Int))).getD j 0=((V/2 ^ (p+b*j)%2 ^ b:Nat):Int)
 | 0,_,_,h=>by omega
 | n+1,p,0,_=>by simp[List.replicate_succ,fp]
 | n+1,p,j+1,h=>by
  rw[List.replicate_succ];simp only[fp,a2Z];rw[sO V b n _ j (by omega),a0x,show p+b+b*j=p+b*(j+1) by rw[a2w];omega]
theorem vU(h:30<=l.length):iN (l.take 30) (List.replicate 15 16)=true:=by
 have e1:fu (List.replicate 15 16)=240:=by decide
 have e2:(l.take 30).length=30:=by rw[a0t];omega
 have e3:dM (List.replicate 15 16)=true:=by decide
 have e4:=ot (l.take 30);rw[e2]at e4;unfold iN;rw[e1,e2,e3];simpa using e4
theorem AP(h:30<=l.length)(j:Nat)(b:j<15):(xG (l.take 30) (List.replicate 15 16)).getD j 0=((wd l (2*j) 2:Nat):Int):=by
 unfold xG;rw[a0e (vU h)];have a:=sO (db (l.take 30)) 16 15 0 j b;rw[show((16:Nat):Int)=16 from rfl]at a;rw[a];have e2:(l.take 30).length=30:=by rw[a0t];omega
 have h2:=Ge (l:=l.take 30) (i:=2*j) (k:=2) (by omega);rw[show 0+16*j=8*(2*j) by omega,show(16:Nat)=8*2 from rfl,h2]
 congr 1
 unfold wd;rw[a3R,a3h,a1s (by omega)]
theorem Il(h:30<=l.length):(xG (l.take 30) (List.replicate 15 16)).length=15:=by
 unfold xG;rw[a0e (vU h),uS,a0A]
def mB(l:List UInt8):Bool:=decide (wd l 0 4=67324752)&&(decide (wd l 4 2=20)&&(decide (wd l 6 2=0)&&decide (wd l 28 2=0)))
theorem Bz(l:List UInt8)(n:Nat):l.take (30+n)=(l.drop 0).take 4++((l.drop 4).take 2++((l.drop 6).take 2++((l.drop 8).take 2++((l.drop 10).take 4++((l.drop 14).take 4++((l.drop 18).take 4++((l.drop 22).take 4++((l.drop 26).take 2++((l.drop 28).take 2++(l.drop 30).take n))))))))):=by
 have st:∀i k m,(l.drop i).take (k+m)=(l.drop i).take k++(l.drop (i+k)).take m:=fun i k m=>by rw[a3g,a1Y]
 rw[←st 28 2 n,←st 26 2 _,←st 22 4 _,←st 18 4 _,←st 14 4 _,←st 10 4 _,←st 8 2 _,←st 6 2 _,←st 4 2 _,←st 0 4 _,a17]
 congr 1
 omega
theorem rz(how st a b lg:Nat)(nm:ByteArray):(eE how st a b lg nm).data.toList=leS 4 67324752++(leS 2 20++(leS 2 0++(leS 2 how++(leS 4 st++(leS 4 a++(leS 4 b++(leS 4 lg++(leS 2 nm.size++(leS 2 0++nm.data.toList))))))))):=by
 have e:leS 4 67324752=[80,75,3,4]:=by decide +kernel
 rw[e];unfold eE dI az;simp
theorem Im(h:30+wd l 26 2<=l.length)(b:nm.data.toList=(l.drop 30).take (wd l 26 2)) :
  (eE (wd l 8 2) (wd l 10 4) (wd l 14 4) (wd l 18 4) (wd l 22 4) nm).data.toList.isPrefixOf l=mB l:=by
 have c:nm.size=wd l 26 2:=by
  have:=congrArg List.length b;rw[dX h]at this;simpa using this
 have a:(eE (wd l 8 2) (wd l 10 4) (wd l 14 4) (wd l 18 4) (wd l 22 4) nm).data.toList.length=30+wd l 26 2:=by
  rw[rz,b];simp only[a0o,aH,dX h];omega
 rw[a2j,List.isPrefixOf_iff_prefix,List.prefix_iff_eq_take,a,Bz,rz,c,b,
  gh (i:=8) (k:=2) (by omega),gh (i:=10) (k:=4) (by omega),gh (i:=14) (k:=4) (by omega),gh (i:=18) (k:=4) (by omega),gh (i:=22) (k:=4) (by omega),gh (i:=26) (k:=2) (by omega)]
 simp only[mB,a0n,a0E];rw[qm (i:=0) (k:=4) (by omega) (by decide),qm (i:=4) (k:=2) (by omega) (by decide),qm (i:=6) (k:=2) (by omega) (by decide),qm (i:=28) (k:=2) (by omega) (by decide)];constructor
 . intro e;obtain⟨e1,e⟩:=a2d e (by rw[aH,dX (by omega)]);obtain⟨e2,e⟩:=a2d e (by rw[aH,dX (by omega)]);obtain⟨e3,e⟩:=a2d e (by rw[aH,dX (by omega)]);have e:=a2u (a2u (a2u (a2u (a2u (a2u e)))));obtain⟨e4,_⟩:=a2d e (by rw[aH,dX (by omega)]);exact⟨e1.symm,e2.symm,e3.symm,e4.symm⟩
 . rintro⟨e1,e2,e3,e4⟩;rw[e1,e2,e3,e4]
theorem Mr(k:Nat)(h:i<l.length):wd l i (k+1)=(l.getD i 0).toNat+256*wd l (i+1) k:=by
 have e:(l.drop i).take (k+1)=l[i] :: (l.drop (i+1)).take k:=by rw[a3q h,a3S]
 unfold wd;rw[e,List.getD_eq_getElem?_getD,List.getElem?_eq_getElem h];simp only[db,a1q]
theorem Nw{a b:List UInt8}(k:Nat)(h:a.length=m):wd (a++b) (m+i) k=wd b i k:=by
 unfold wd;rw[←h,List.drop_append,a3T (by omega),a1v,a2o]
theorem Mt(b:List UInt8)(h:V<2 ^ (8*k)):wd (leS k V++b) 0 k=V:=by
 unfold wd;rw[a17,a1J (by rw[aH];exact a0a _),a0D (by rw[aH];exact a0a _),zQ,a1u h]
attribute [local go_sem ↓] Go.wp_at_zero Go.wp_at_succ
theorem I5(V p k:Nat)(h:k<=16):V/2 ^ p%2 ^ k<65536:=by
 have a:V/2 ^ p%2 ^ k<2 ^ k:=a05 _ (a1D k);have h2:2 ^ k<=2 ^ 16:=a0W (by omega) h;omega
theorem qR(k:Nat)(h:k<=16):p2 k<=65536:=by
 have h2:2 ^ k<=2 ^ 16:=a0W (by omega) h;have a:p2 k=2 ^ k:=rfl;omega
theorem f9(b p c:Nat)(s:ByteArray)(w:World)(h:Rdr w b s p)(A:s.size<=2000000)(u:c<=16) :
  Calls prog 232 #[.pointer (some ⟨b,0,none⟩),.int .i64 (c:Int)] w fun e w'=>e = .returned (.int .i64 (ai s/2 ^ p%2 ^ c:Nat))/\Rdr w' b s (p+c)/\aw b w w':=by
 have D:=af A;have F:(c:Int)<=16:=by omega
 have B:=af u;clear A u;go_enter func232,ntmps232;go_wp2_with fail
 go_loopw [5,6] (fun n i wr=>∃k:Nat,k<=c/\i = .int .i64 k/\n = .int .i64 (ai s/2 ^ p%2 ^ k:Nat)/\Rdr wr b s (p+k)/\aw b w wr) (fun _ i _=>c-(intOf i).toNat)
 case atStart=>exact⟨0,a0h _,rfl,by simp[a1w],h,aw.refl _ _⟩
 case round=>
  obtain⟨k,v,rfl,rfl,q,d⟩:=hrel;clear h;have C:=af v;by_cases H:k<c
  .
   have G:(k:Int)<(c:Int):=by omega
   have a:k<=16:=by have:=ae B;omega
   have t:Hid (ai s/2 ^ p%2 ^ (k+1)=ai s/2 ^ p%2 ^ k+ai s/2 ^ (p+k)%2*p2 k):=nU (ai s) p k;have m:=I5 (ai s) p k a;have I:ai s/2 ^ (p+k)%2<=1:=by omega
   have o:=qR k a;have f:=af (jY b (p+k) s wr q (ae D));have j:=af (fun W=>LX k (p2 k) W (by omega) rfl);generalize ai s/2 ^ p%2 ^ k=n at *
   generalize ai s/2 ^ (p+k)%2=x at *
   generalize p2 k=PW at *
   have g:x*PW<=65536:=by rcases (show x=0∨x=1 by omega)with e|e<;>subst e<;>omega
   have e1:IntKind.i64.wrap ((x:Int)*(PW:Int))=((x*PW:Nat):Int):=by rw[←a1I];exact bp _ (by omega) (by omega)
   have e1':((x:Int)*(PW:Int))=((x*PW:Nat):Int):=by rw[←a1I]
   have z:(n:Int)<65536:=by omega
   have y:((x*PW:Nat):Int)<=65536:=by omega
   generalize E:x*PW=M at *
   clear E a I o m g v q;go_wp2_with fail;refine(ae f).mono ?_;rintro e x1 ⟨rfl,r,l⟩;go_wp2_with fail;refine(ae j _).mono ?_;rintro e x2 ⟨rfl,rfl⟩;go_wp2;go_roundw
   case rel=>exact⟨k+1,by omega,by go_num,by rw[ae t];go_num,r,d.trans l⟩
   case measure=>simp[intOf];omega
  .
   obtain rfl:k=c:=by have:=ae C;omega
   go_wp2;go_ret;exact⟨rfl,q,d⟩
theorem rest_step(V p j:Nat):(V/2 ^ p%2 ^ (j+1)=0)<->(V/2 ^ p%2 ^ j=0/\V/2 ^ (p+j)%2=0):=by
 rw[nU];have:=a1D j;constructor
 .
  intro h;have a:=Nat.eq_zero_of_add_eq_zero_right h;have h2:=Nat.eq_zero_of_add_eq_zero_left h;rcases Nat.mul_eq_zero.1 h2 with b|b
  . exact⟨a,b⟩
  . omega
 . rintro⟨a,h2⟩;rw[a,h2];simp
theorem wB(b p:Nat)(s:ByteArray)(w:World)(h:Rdr w b s p)(J:s.size<=2000000)(T:p<=8*s.size) :
  Calls prog 219 #[.pointer (some ⟨b,0,none⟩)] w fun e w'=>e = .returned (.bool (decide (ai s/2 ^ p%2 ^ ((8-p%8)%8)=0)))/\Rdr w' b s (p+(8-p%8)%8)/\aw b w w':=by
 have N:=af J;have E:(8-p%8)%8<=7:=by omega
 have F:(p+(8-p%8)%8)%8=0:=by omega
 have y:p+(8-p%8)%8<=8*s.size:=by omega
 have f:∀j,j<(8-p%8)%8->(p+j)%8≠0:=by omega
 have V:(s.size:Int)<=2000000:=by omega
 generalize (8-p%8)%8=c at *
 have B:=af y;clear J T y;go_enter func219,ntmps219;go_wp2_with fail
 go_loopw [3] (fun n wr=>∃k m:Nat,k<=c/\n = .int .i64 (m:Nat)/\m<=k/\(m=0<->ai s/2 ^ p%2 ^ k=0)/\Rdr wr b s (p+k)/\aw b w wr) (fun _ wr=>c+p-(match wr.cell? ⟨b,1,none⟩with|some (.int _ i)=>i.toNat|_=>0))
 case atStart=>exact⟨0,0,a0h _,rfl,a0a _,by simp[a1w],h,aw.refl _ _⟩
 case round=>
  obtain⟨k,m,I,rfl,v,u,z,d⟩:=hrel;clear h;have P:=z.at (by have:=ae B;omega);obtain⟨c0,c1,c2,f0,f1,f2,Q⟩:=P;have M:=af I;have r:=af u;have U:((p+k:Nat):Int)<=16000000:=by have:=ae B;omega
  clear u;by_cases g:k<c
  .
   have S:¬ ((p+k:Nat):Int)%8=0:=by have:=f k g;omega
   have G:=af (rest_step (ai s) p k);have K:ai s/2 ^ (p+k)%2<=1:=by omega
   have t:=af (jY b (p+k) s wr z (ae N));generalize ai s/2 ^ (p+k)%2=x at *
   have W:(x:Int)<=1:=by omega
   have R:(m:Int)<=7:=by omega
   have L:=af K;have A:=af v;have q:=af g;have C:=af (show p+k<8*s.size by have:=ae B;omega);clear f K I v g z F E;generalize a:p+k=pk at *
   have o:=af a;clear a;go_wp2_with fail;refine(ae t).mono ?_;rintro e x1 ⟨rfl,l,D⟩;go_wp2;go_roundw
   case rel=>exact⟨k+1,m+x,ae q,by go_num,by have:=ae A;have:=ae L;omega,by rw[ae G,←ae r];omega,by rw[←ae o]at l;exact l,d.trans D⟩
   case measure=>
    have O:=(l.at (by have:=ae C;omega)).2.1;rw[O,c1];have:=ae o;have:=ae q;simp;omega
  .
   obtain rfl:k=c:=by have:=ae M;omega
   have X:((p+k:Nat):Int)%8=0:=by omega
   generalize a:p+k=pk at *
   go_wp2;go_ret;refine⟨aj ?_,by rw[a];exact z,d⟩;rw[show decide (ai s/2 ^ p%2 ^ k=0)=decide (m=0)from decide_eq_decide.2 (ae r).symm];rcases a2E m with H|H
   . subst H;rfl
   . rw[a0j (by omega)];first|(exact a0j (by omega))|(exact beq_false_of_ne (by omega))|(exact(by omega:False).elim)
end Go.Proofs.YtkdlcomfpffhhaaGreatDoor
namespace Go.Proofs.YtkdlcomfpffhhaaGreatDoor
open Go.Proofs.Tryz
open Go.RowKit Corb
variable {b p:Nat}{s:ByteArray}{w:World}
theorem Box.keep1{w':World}{P:Nat}{x y:Int}(h:Box w P x y)(a:aw b w w')(hb:P≠b):Box w' P x y:=by
 unfold Box at *
 rw[a.2 P (Array.getElem?_eq_some_iff.1 h).1 hb];exact h
theorem LH(n x k M:Nat)(d:n<p2 k)(g:x<=1)(c:k<=16)(a:x*p2 k=M):bits .or .i64 (n:Int) (M:Int)=((n+M:Nat):Int):=by
 have f:=qR k c;have b:M<=65536:=by
  rcases (show x=0∨x=1 by omega)with e|e<;>subst e<;>omega
 rw[mD n M (by omega) (by omega)]
 congr 1
 rw[Nat.or_comm];rw[nat_join k M n (by rw[←a];exact Nat.mul_mod_left _ _) d];omega
theorem sN(b p c:Nat)(num:Int)(s:ByteArray)(w:World)(h:Rdr w b s p)(B:s.size<=2000000)(z:c<=16) :
  Calls prog 274 #[.pointer (some ⟨b,0,none⟩),.agg #[.int .i64 num,.int .i64 (c:Int)]] w fun e w'=>e = .returned (.int .i64 (ai s/2 ^ p%2 ^ c:Nat))/\Rdr w' b s (p+c)/\aw b w w':=by
 have F:=af B;have G:(c:Int)<=16:=by omega
 have D:=af z;have q:=h.lt;have y:=h.alloc (.cells #[.int .i64 num,.int .i64 (c:Int)] 173);have j:aw b w (w.alloc (.cells #[.int .i64 num,.int .i64 (c:Int)] 173)):=(aw.refl _ _).alloc (by omega) _;clear B z h;go_enter func274,ntmps274;go_wp2_with fail
 go_loopw [5,6,9] (fun n _ i wr=>∃k:Nat,k<=c/\i = .int .i64 k/\n = .int .i64 (ai s/2 ^ p%2 ^ k:Nat)/\Rdr wr b s (p+k)/\aw b w wr) (fun _ _ i _=>c-(intOf i).toNat)
 case atStart=>exact⟨0,a0h _,rfl,by simp[a1w],y,j⟩
 case round=>
  obtain⟨k,A,rfl,rfl,t,d⟩:=hrel;clear y j;have E:=af A;by_cases q:k<c
  .
   have H:(k:Int)<(c:Int):=by omega
   have a:k<=16:=by have:=ae D;omega
   have v:Hid (ai s/2 ^ p%2 ^ (k+1)=ai s/2 ^ p%2 ^ k+ai s/2 ^ (p+k)%2*p2 k):=nU (ai s) p k;have m:ai s/2 ^ p%2 ^ k<p2 k:=a05 _ (a1D k);have C:ai s/2 ^ (p+k)%2<=1:=by omega
   have r:=qR k a;have g:=af (pf b (p+k) s wr t (ae F));have f:=pd k;generalize ai s/2 ^ p%2 ^ k=n at *
   generalize ai s/2 ^ (p+k)%2=x at *
   have I:=LH n x k (x*p2 k) m C a rfl;have l:x*p2 k<=65536:=by rcases (show x=0∨x=1 by omega)with e|e<;>rw[e]<;>omega
   have e1':(x:Int)*2 ^ k=((x*p2 k:Nat):Int):=by rw[a1I,f]
   have e1:IntKind.i64.wrap ((x:Int)*2 ^ k)=((x*p2 k:Nat):Int):=by rw[e1'];exact bp _ (by omega) (by omega)
   generalize x*p2 k=M at *
   have e2:IntKind.i64.wrap (M:Int)=(M:Int):=bp _ (by omega) (by omega);have J:(k:Int)<=16:=by omega
   clear a C r l A t m f;go_wp2_with fail;refine(ae g).mono ?_;rintro e x1 ⟨rfl,u,o⟩;go_wp2;go_roundw
   case rel=>exact⟨k+1,by omega,by go_num,by rw[ae v];go_num,u,d.trans o⟩
   case measure=>simp[intOf];omega
  .
   obtain rfl:k=c:=by have:=ae E;omega
   go_wp2;go_ret;exact⟨rfl,t,d⟩
theorem LF(m x:Nat)(a:m<=1)(b:x<=1):∃y:Nat,bits .or .i64 (m:Int) (x:Int)=(y:Int)/\y<=1/\(y=0<->m=0/\x=0):=by
 refine⟨m ||| x,mD m x (by omega) (by omega),?_,?_⟩
 . rcases (show m=0∨m=1 by omega)with e|e<;>rcases (show x=0∨x=1 by omega)with f|f<;>subst e<;>subst f<;>decide
 . rcases (show m=0∨m=1 by omega)with e|e<;>rcases (show x=0∨x=1 by omega)with f|f<;>subst e<;>subst f<;>decide
theorem qd(b p:Nat)(s:ByteArray)(w:World)(h:Rdr w b s p)(M:s.size<=2000000)(W:p<=8*s.size) :
  Calls prog 160 #[.pointer (some ⟨b,0,none⟩)] w fun e w'=>e = .returned (.bool (decide (ai s/2 ^ p%2 ^ ((8-p%8)%8)=0)))/\Rdr w' b s (p+(8-p%8)%8)/\aw b w w':=by
 have Q:=af M;have H:(8-p%8)%8<=7:=by omega
 have I:(p+(8-p%8)%8)%8=0:=by omega
 have z:p+(8-p%8)%8<=8*s.size:=by omega
 have f:∀j,j<(8-p%8)%8->(p+j)%8≠0:=by omega
 have Y:(s.size:Int)<=2000000:=by omega
 generalize (8-p%8)%8=c at *
 have E:=af z;clear M W z;go_enter func160,ntmps160;go_wp2_with fail
 go_loopw [3] (fun n wr=>∃k m:Nat,k<=c/\n = .int .i64 (m:Nat)/\m<=1/\(m=0<->ai s/2 ^ p%2 ^ k=0)/\Rdr wr b s (p+k)/\aw b w wr) (fun _ wr=>c+p-(match wr.cell? ⟨b,1,none⟩with|some (.int _ i)=>i.toNat|_=>0))
 case atStart=>exact⟨0,0,a0h _,rfl,by omega,by simp[a1w],h,aw.refl _ _⟩
 case round=>
  obtain⟨k,m,L,rfl,v,u,C,d⟩:=hrel;clear h;have S:=C.at (by have:=ae E;omega);obtain⟨c0,c1,c2,f0,f1,f2,T⟩:=S;have P:=af L;have r:=af u;have X:((p+k:Nat):Int)<=16000000:=by have:=ae E;omega
  clear u;by_cases g:k<c
  .
   have U:¬ ((p+k:Nat):Int)%8=0:=by have:=f k g;omega
   have J:=af (rest_step (ai s) p k);have N:ai s/2 ^ (p+k)%2<=1:=by omega
   have t:=af (pf b (p+k) s wr C (ae Q));generalize ai s/2 ^ (p+k)%2=x at *
   obtain⟨y,V,B,A⟩:=LF m x v N;have O:=af A;have D:=af B;have q:=af g;have F:=af (show p+k<8*s.size by have:=ae E;omega);clear f N L v g C I H A B;generalize a:p+k=pk at *
   have o:=af a;clear a;go_wp2_with fail;refine(ae t).mono ?_;rintro e x1 ⟨rfl,l,G⟩;go_wp2;go_roundw
   case rel=>exact⟨k+1,y,ae q,rfl,ae D,by rw[ae J,←ae r];exact ae O,by rw[←ae o]at l;exact l,d.trans G⟩
   case measure=>
    have R:=(l.at (by have:=ae F;omega)).2.1;rw[R,c1];have:=ae o;have:=ae q;simp;omega
  .
   obtain rfl:k=c:=by have:=ae P;omega
   have Z:((p+k:Nat):Int)%8=0:=by omega
   generalize a:p+k=pk at *
   go_wp2;go_ret;refine⟨aj ?_,by rw[a];exact C,d⟩;rw[show decide (ai s/2 ^ p%2 ^ k=0)=decide (m=0)from decide_eq_decide.2 (ae r).symm];rcases a2E m with K|K
   . subst K;rfl
   . rw[a0j (by omega)];first|(exact a0j (by omega))|(exact beq_false_of_ne (by omega))|(exact(by omega:False).elim)
def da(s:ByteArray)(p k:Nat):Int:=if p+k<=s.size then((wd s.data.toList p k:Nat):Int)else -1
theorem fH{k:Nat}(h:p+k<=s.size):da s p k=((wd s.data.toList p k:Nat):Int):=a0e h
theorem wk{k:Nat}(h:¬ p+k<=s.size):da s p k = -1:=a0d h
theorem GV(s:ByteArray)(i:Nat)(h:i<s.size):s.data.toList.getD i 0=s[i]:=by
 have a:i<s.data.toList.length:=by simpa using h
 rw[List.getD_eq_getElem?_getD,List.getElem?_eq_getElem a];rfl
theorem Mu(s:ByteArray){i:Nat}(k:Nat)(h:i<s.size):wd s.data.toList i (k+1)=256*wd s.data.toList (i+1) k+s[i].toNat:=by
 rw[Mr k (by simpa using h),GV s i h,a2H]
theorem Gl{X:Nat}{b:UInt8}(a:(X:Int)<16777216):wrap64 (256*(X:Int)+wrap64 (b.toNat:Int))=((256*X+b.toNat:Nat):Int):=by
 have:=b.toNat_lt;simp only[wrap64];omega
theorem cR(s:ByteArray)(p k:Nat)(w:World)(y:p<=4000000)(v:k<=4)(C:(s.size:Int)<=4611686018427387904) :
  CD 68 #[.string s,.int .i64 (p:Int),.int .i64 (k:Int)] w (.int .i64 (da s p k)):=by
 have h:(k:Int)<=4:=by omega
 have z:(0:Int)<=(p:Int):=by omega
 have g:(0:Int)<=(k:Int):=by omega
 by_cases c:p+k<=s.size
 .
  rw[fH c];have d:(p:Int)+(k:Int)<=(s.size:Int):=by omega
  have r:=af c;clear c;go_enter func68,ntmps68;go_wp2_with fail
  go_loopw [7,8] (fun x i wr=>∃q j:Nat,q+j=k/\i = .int .i64 ((q:Int)-1)/\x = .int .i64 ((wd s.data.toList (p+q) j:Nat):Int)/\Below w.heap.size w wr) (fun _ i _=>(intOf i+1).toNat)
  case atStart=>exact⟨k,0,rfl,rfl,by simp[wd,db],a0c _ _⟩
  case round=>
   obtain⟨q,j,e,rfl,rfl,b⟩:=hrel;have a:=af b;clear b;rcases q with _|q
   .
    obtain rfl:j=k:=by omega
    go_wp2;go_ret;exact⟨rfl,ae a⟩
   .
    have l:p+q<s.size:=by have:=ae r;omega
    have o:=af (Mu s j l);have u:wd s.data.toList (p+q+1) j<16777216:=a0i (DF _ _ _) (by
     have:8*j<=24:=by omega
     exact a0G (a0W (by decide) this) (by decide))
    have e1:((q+1:Nat):Int)-1=(q:Int):=by omega
    have e2:p+(q+1)=p+q+1:=rfl;rw[e1,e2];generalize wd s.data.toList (p+q+1) j=X at *
    have f:(X:Int)<16777216:=by omega
    have t:=af e;have A:(p:Int)+(q:Int)<(s.size:Int):=by omega
    have m:0<=(p:Int)+(q:Int):=by omega
    have n:(p:Int)+(q:Int)<=4611686018427387904:=by omega
    have B:(q:Int)<=4:=by omega
    clear u e1 e2 e d h g v y;go_wp2;go_roundw
    case rel=>exact⟨q,j+1,by have:=ae t;omega,by go_num,by rw[ae o,Gl f],ae a⟩
    case measure=>simp[intOf]
 .
  rw[wk c];have d:(s.size:Int)<(p:Int)+(k:Int):=by omega
  clear c;go_enter func68,ntmps68;go_wp2;go_ret;exact⟨rfl,a0c _ _⟩
theorem EH(s:ByteArray)(p:Int)(w:World)(a:p<0) :
  CD 68 #[.string s,.int .i64 p,.int .i64 2] w (.int .i64 (-1)):=by
 go_enter func68,ntmps68;go_wp2;go_ret;exact⟨rfl,a0c _ _⟩
def d9(w:World)(b:Nat)(s:ByteArray)(p:Nat):Prop:=Three w b (.string s) (.int .i64 (min p (8*s.size):Nat)) (.bool true)
theorem d9.before(h:d9 w b s p)(a:p<8*s.size):Three w b (.string s) (.int .i64 (p:Int)) (.bool true):=by
 unfold d9 at h;rwa[a1s (by omega)]at h
theorem d9.next(h:Three w b (.string s) (.int .i64 ((p:Int)+1)) (.bool true))(a:p<8*s.size):d9 w b s (p+1):=by
 unfold d9;rwa[a1s (by omega)]
theorem d9.past(h:d9 w b s p)(a:8*s.size<=p):Three w b (.string s) (.int .i64 (8*s.size:Nat)) (.bool true):=by
 unfold d9 at h;rwa[a27 (by omega)]at h
theorem d9.bad(h:Three w b (.string s) (.int .i64 (8*s.size:Nat)) (.bool true))(a:8*s.size<=p):d9 w b s (p+1):=by
 unfold d9;rwa[a27 (by omega)]
theorem d9.at(h:d9 w b s p)(a:p<=8*s.size):Three w b (.string s) (.int .i64 (p:Int)) (.bool true):=by
 unfold d9 at h;rwa[a1s (by omega)]at h
theorem d9.kept{w':World}(h:d9 w b s p)(hb:Below (b+1) w w'):d9 w' b s p:=Three.kept h hb
theorem d9.lt(h:d9 w b s p):b<w.heap.size:=h.2.2.2.2.2.2
theorem d9.cut(h:d9 w b s p):∃q,q<=8*s.size/\d9 w b s q:=⟨min p (8*s.size),a3f _ _,by unfold d9 at h ⊢;rw[a1s (a3f p (8*s.size))];exact h⟩
attribute [local go_sem ↓] Go.wp_at_zero Go.wp_at_succ
theorem rf(b p:Nat)(s:ByteArray)(w:World)(h:d9 w b s p)(r:s.size<=2000000) :
  Calls prog 231 #[.pointer (some ⟨b,0,none⟩)] w fun e w'=>e = .returned (.int .i64 (ai s/2 ^ p%2:Nat))/\d9 w' b s (p+1)/\aw b w w':=by
 have u:(s.size:Int)<=2000000:=by omega
 by_cases g:p<8*s.size
 .
  have d:=h.before g;have hq:p/8<s.size:=by omega
  have hb:=su s p hq;generalize m:ai s/2 ^ p%2=N at *
  have l:=af g;have t:(p:Int)<8*(s.size:Int):=by omega
  have j:p2 (p%8)<=128:=nX (p%8) 7 (by omega);have i:=kS (p%8);have a:=af d;obtain⟨c0,c1,c2,f0,f1,f2,n⟩:=d;have c:(s[p/8]).toNat/p2 (p%8)%2=N:=hb;clear h m hb;obtain⟨Q,hQ⟩:∃Q,p/8=Q:=⟨_,rfl⟩;obtain⟨R,hR⟩:∃R,p%8=R:=⟨_,rfl⟩;simp only[hQ,hR]at c j i hq;have o:=(s[Q]).toNat_lt;generalize f:p2 R=PW at *
  have k:=af (fun W=>LX R PW W (by omega) f);have e1:IntKind.i64.wrap (Q:Int)=(Q:Int):=bp _ (by omega) (by omega);have e2:(p:Int)/8=(Q:Int):=by omega
  have e3:(p:Int)%8=(R:Int):=by omega
  have e4:Int.tmod (p:Int) 8=(R:Int):=by rw[a15 (by omega)];exact e3
  have e5:(Q:Int)<(s.size:Int):=by omega
  have e6:(0:Int)<=(Q:Int):=by omega
  have q:(s[Q]).toNat/PW<=(s[Q]).toNat:=a2k _ _;have e7:((s[Q]).toNat:Int)/(PW:Int)=(((s[Q]).toNat/PW:Nat):Int):=by simp
  have e0:(0:Int)<=((s[Q]).toNat:Int)/(PW:Int)/\((s[Q]).toNat:Int)/(PW:Int)<=255:=by rw[e7];exact⟨a3C _,by omega⟩
  have e8:IntKind.i64.wrap (((s[Q]).toNat:Int)/(PW:Int))=((s[Q]).toNat:Int)/(PW:Int):=bp _ (by omega) (by omega);have e10:((s[Q]).toNat:Int)/(PW:Int)%2=(N:Int):=by rw[e7];exact_mod_cast c
  have e9:Int.tmod (((s[Q]).toNat:Int)/(PW:Int)) 2=(N:Int):=by rw[a15 e0.1];exact e10
  have e14:IntKind.i64.wrap ((s[Q]).toNat:Int)=((s[Q]).toNat:Int):=bp _ (by omega) (by omega);have e12:¬ PW=0:=by omega
  clear r g hQ hR f c q o j i e7 e0;go_enter a3D,a3E;go_wp2
  go_quiet (fail)
  go_wp2
  go_region_held3 (fun W=>W.cell? ⟨b,0,none⟩=some (.string s)/\W.cell? ⟨b,1,none⟩=some (.int .i64 (p:Int))) (first|exact⟨c0,c1⟩|assumption) (first|(go_at_call 252;refine(ae k _).mono ?_;rintro e w' ⟨rfl,rfl⟩))
  all_goals
   go_wp2;go_ret;exact⟨rfl,d9.next (by exact(ae a).set1 _) (ae l),hH _ _ _ _ _⟩
 .
  have d:=h.past (by omega);have a:=af d;have l:=af g;have m:=af (lI s p (by omega));obtain⟨c0,c1,c2,f0,f1,f2,n⟩:=d;rw[a1I]at c1;clear h g r;go_enter a3D,a3E;go_wp2
  go_quiet (fail)
  go_wp2;go_ret;exact⟨aO (by rw[ae m];rfl),d9.bad ((ae a).set2 _) (by have:=ae l;omega),hH _ _ _ _ _⟩
theorem Ai(b p c:Nat)(s:ByteArray)(w:World)(h:d9 w b s p)(A:s.size<=2000000)(u:c<=16) :
  Calls prog 232 #[.pointer (some ⟨b,0,none⟩),.int .i64 (c:Int)] w fun e w'=>e = .returned (.int .i64 (ai s/2 ^ p%2 ^ c:Nat))/\d9 w' b s (p+c)/\aw b w w':=by
 have D:=af A;have F:(c:Int)<=16:=by omega
 have B:=af u;clear A u;go_enter func232,ntmps232;go_wp2_with fail
 go_loopw [5,6] (fun n i wr=>∃k:Nat,k<=c/\i = .int .i64 k/\n = .int .i64 (ai s/2 ^ p%2 ^ k:Nat)/\d9 wr b s (p+k)/\aw b w wr) (fun _ i _=>c-(intOf i).toNat)
 case atStart=>exact⟨0,a0h _,rfl,by simp[a1w],h,aw.refl _ _⟩
 case round=>
  obtain⟨k,v,rfl,rfl,q,d⟩:=hrel;clear h;have C:=af v;by_cases H:k<c
  .
   have G:(k:Int)<(c:Int):=by omega
   have a:k<=16:=by have:=ae B;omega
   have t:Hid (ai s/2 ^ p%2 ^ (k+1)=ai s/2 ^ p%2 ^ k+ai s/2 ^ (p+k)%2*p2 k):=nU (ai s) p k;have m:=I5 (ai s) p k a;have I:ai s/2 ^ (p+k)%2<=1:=by omega
   have o:=qR k a;have f:=af (rf b (p+k) s wr q (ae D));have j:=af (fun W=>LX k (p2 k) W (by omega) rfl);generalize ai s/2 ^ p%2 ^ k=n at *
   generalize ai s/2 ^ (p+k)%2=x at *
   generalize p2 k=PW at *
   have g:x*PW<=65536:=by rcases (show x=0∨x=1 by omega)with e|e<;>subst e<;>omega
   have e1:IntKind.i64.wrap ((x:Int)*(PW:Int))=((x*PW:Nat):Int):=by rw[←a1I];exact bp _ (by omega) (by omega)
   have e1':((x:Int)*(PW:Int))=((x*PW:Nat):Int):=by rw[←a1I]
   have z:(n:Int)<65536:=by omega
   have y:((x*PW:Nat):Int)<=65536:=by omega
   generalize E:x*PW=M at *
   clear E a I o m g v q;go_wp2_with fail;refine(ae f).mono ?_;rintro e x1 ⟨rfl,r,l⟩;go_wp2_with fail;refine(ae j _).mono ?_;rintro e x2 ⟨rfl,rfl⟩;go_wp2;go_roundw
   case rel=>exact⟨k+1,by omega,by go_num,by rw[ae t];go_num,r,d.trans l⟩
   case measure=>simp[intOf];omega
  .
   obtain rfl:k=c:=by have:=ae C;omega
   go_wp2;go_ret;exact⟨rfl,q,d⟩
theorem vD(b p:Nat)(s:ByteArray)(w:World)(h:d9 w b s p)(J:s.size<=2000000)(T:p<=8*s.size) :
  Calls prog 219 #[.pointer (some ⟨b,0,none⟩)] w fun e w'=>e = .returned (.bool (decide (ai s/2 ^ p%2 ^ ((8-p%8)%8)=0)))/\d9 w' b s (p+(8-p%8)%8)/\aw b w w':=by
 have N:=af J;have E:(8-p%8)%8<=7:=by omega
 have F:(p+(8-p%8)%8)%8=0:=by omega
 have y:p+(8-p%8)%8<=8*s.size:=by omega
 have f:∀j,j<(8-p%8)%8->(p+j)%8≠0:=by omega
 have V:(s.size:Int)<=2000000:=by omega
 generalize (8-p%8)%8=c at *
 have B:=af y;clear J T y;go_enter func219,ntmps219;go_wp2_with fail
 go_loopw [3] (fun n wr=>∃k m:Nat,k<=c/\n = .int .i64 (m:Nat)/\m<=k/\(m=0<->ai s/2 ^ p%2 ^ k=0)/\d9 wr b s (p+k)/\aw b w wr) (fun _ wr=>c+p-(match wr.cell? ⟨b,1,none⟩with|some (.int _ i)=>i.toNat|_=>0))
 case atStart=>exact⟨0,0,a0h _,rfl,a0a _,by simp[a1w],h,aw.refl _ _⟩
 case round=>
  obtain⟨k,m,I,rfl,v,u,z,d⟩:=hrel;clear h;have P:=z.at (by have:=ae B;omega);obtain⟨c0,c1,c2,f0,f1,f2,Q⟩:=P;have M:=af I;have r:=af u;have U:((p+k:Nat):Int)<=16000000:=by have:=ae B;omega
  clear u;by_cases g:k<c
  .
   have S:¬ ((p+k:Nat):Int)%8=0:=by have:=f k g;omega
   have G:=af (rest_step (ai s) p k);have K:ai s/2 ^ (p+k)%2<=1:=by omega
   have t:=af (rf b (p+k) s wr z (ae N));generalize ai s/2 ^ (p+k)%2=x at *
   have W:(x:Int)<=1:=by omega
   have R:(m:Int)<=7:=by omega
   have L:=af K;have A:=af v;have q:=af g;have C:=af (show p+k<8*s.size by have:=ae B;omega);clear f K I v g z F E;generalize a:p+k=pk at *
   have o:=af a;clear a;go_wp2_with fail;refine(ae t).mono ?_;rintro e x1 ⟨rfl,l,D⟩;go_wp2;go_roundw
   case rel=>exact⟨k+1,m+x,ae q,by go_num,by have:=ae A;have:=ae L;omega,by rw[ae G,←ae r];omega,by rw[←ae o]at l;exact l,d.trans D⟩
   case measure=>
    have O:=(l.at (by have:=ae C;omega)).2.1;rw[O,c1];have:=ae o;have:=ae q;simp;omega
  .
   obtain rfl:k=c:=by have:=ae M;omega
   have X:((p+k:Nat):Int)%8=0:=by omega
   generalize a:p+k=pk at *
   go_wp2;go_ret;refine⟨aj ?_,by rw[a];exact z,d⟩;rw[show decide (ai s/2 ^ p%2 ^ k=0)=decide (m=0)from decide_eq_decide.2 (ae r).symm];rcases a2E m with H|H
   . subst H;rfl
   . rw[a0j (by omega)];first|(exact a0j (by omega))|(exact beq_false_of_ne (by omega))|(exact(by omega:False).elim)
end Go.Proofs.YtkdlcomfpffhhaaGreatDoor
namespace Go.Proofs.YtkdlcomfpffhhaaGreatDoor
open Go.Proofs.Tryz
open Go.RowKit Corb
variable {l:List Int}{s:List UInt8}
theorem rC(a:Option Addr)(cap n:Nat)(l:List (Int×Int))(w:World)(c:l.length=n)(h:mr w a l)(b:n<=1000000000) :
  CD 158 #[.slice a n cap] w (.int .i64 (nS l)):=by
 subst c;exact fX a cap l w h b
theorem Rdr.over{w:World}{b p:Nat}{s:ByteArray}(h:Rdr w b s p)(a:8*s.size<p):Three w b (.string s) (.int .i64 (8*(s.size:Int))) (.bool true):=by
 unfold Rdr at h;rw[a27 (by omega),a0w (by omega)]at h;exact h
theorem xH(h:dM l=false∨4000<l.length):iN s l=false/\xG s l=[]:=by
 have a:iN s l=false:=by
  unfold iN;rcases h with h|h
  . simp[h]
  . simp;omega
 exact⟨a,a0d (by simp[a])⟩
theorem Ij(h:dM l=true)(a:l.length<=4000):iN s l=(decide (s.length=(fu l+7)/8)&&decide (db s<2 ^ fu l)):=by
 simp[iN,h,a]
theorem KX(h:iN s l=false):xG s l=[]:=a0d (by simp[h])
theorem Ii(h:iN s l=true):xG s l=fp (db s) 0 l:=a0e h
theorem od{v:Value}{a b:Bool}(h:a=b):Ending.returned (.tuple #[v,.bool a]) = .returned (.tuple #[v,.bool b]):=by rw[h]
def blank(l:List Int):List (Int×Int):=l.map fun b=>(0,b)
theorem lr(l:List Int):(blank l).length=l.length:=by simp[blank]
theorem Fw(b:Int):pOk 0 b=inB b 0 16:=by
 rw[a2j,aV,aG];have:=kS b.toNat
 constructor
 . exact fun h=>h.1
 . exact fun h=>⟨h,by omega,by omega⟩
theorem GU(l:List Int):bm (blank l)=dM l:=by
 simp only[bm,dM,blank,List.all_map]
 congr 1
 funext b
 exact Fw b
theorem DZ(l:List Int)(h:dM l=true):bJ (blank l)=(fu l:Int):=by
 induction l with
 | nil=>rfl
 | cons b l ih=>
  have a:(0<=b/\b<=16)/\dM l=true:=by simpa[dM]using h
  have:=ih a.2;simp only[bJ,blank,a0K,a0V]at this ⊢;rw[pu,this];omega
theorem Al(l:List Int)(a:l.length<=4000):nS (blank l)=if dM l=true then(fu l:Int)else -1:=by
 unfold nS lOk;rw[GU,lr];rcases hb:dM l with _|_
 . simp
 . simp[a,DZ l hb]
theorem Am(l:List Int)(b:Int):blank (l++[b])=blank l++[(0,b)]:=by simp[blank]
theorem DY(l:List Int)(k:Nat)(h:k<l.length):(blank l).getD k (0,0)=(0,l.getD k 0):=by
 simp[blank,List.getD,h]
theorem wS(b:Int)(w:World) :
  CD 157 #[.int .i64 b] w (.agg #[.int .i64 0,.int .i64 b]):=by
 go_enter func157,ntmps157;go_wp2;exact a0R (v:=.agg #[.int .i64 0,.int .i64 b]) (by simp[results,results157,go_sem]) rfl ⟨rfl,(a0c _ _).alloc (a0a _) _⟩
theorem Ec(a:Option Addr)(cap:Nat)(l:List Int)(w:World)(h:bn w a l)(G:l.length<=4000) :
  Calls prog 132 #[.slice a l.length cap,.func (.func 157) #[] #[]] w fun e w'=>∃v,e = .returned v/\Pcs w' w.heap.size v (blank l)/\Below w.heap.size w w':=by
 have F:=af G;have L:(l.length:Int)<=4000:=by omega
 clear G;obtain⟨i0,M,C,D,E⟩:=a0s Tryz.infoPiece;go_enter func132,ntmps132;go_wp2_with fail
 go_loopw [5,7,10] (fun o _ i wr=>∃k:Nat,k<=l.length/\i = .int .i64 k/\Pcs wr w.heap.size o (blank (l.take k))/\Below w.heap.size w wr) (fun _ _ i _=>l.length-(intOf i).toNat)
 case atStart=>exact⟨0,a0h _,rfl,a1x _ _ _ _,a0c _ _⟩
 case round=>
  obtain⟨k,I,rfl,hq,b⟩:=hrel;by_cases t:k<l.length
  .
   obtain⟨g,o,rfl,N,H⟩:=(h.later b) (by omega);have c0:=H k t;have B:=af (dy l k t);have s:Hid ((blank (l.take k)).length=k):=by show(blank (l.take k)).length=k;rw[lr];simp;omega
   have K:=af I;clear H I h;generalize l.getD k 0=y at *
   go_wp2_with fail;refine(wS y _).mono ?_;rintro e x1 ⟨rfl,n⟩;have q:=Pcs.later hq n (a0a _);have c:=am b n;have r:=c.size;clear hq b n;go_wp2_with (at_builtin;refine a0v _ rfl _ _ 170 rfl w.heap.size 173 i0 (.agg #[.int .i64 0,.int .i64 0]) 2 16 underlying170 M C D E rfl (by decide) _ _ _ rfl (a0k q _) ⟨x1.heap.size,0,none⟩ 1 1 [.int .i64 0,.int .i64 y] rfl rfl (by intro j u p;match j,p with | 0,p=>simp at p;subst p;simp[Addr.add] | 1,p=>simp at p;subst p;simp[Addr.add]) (by intro u J;simp at J;rcases J with rfl|rfl<;>rfl) (by have:=ae s;have:=ae F;unfold maxLen;omega) (by have:=ae s;have:=ae F;omega) (by simp;omega) ?_;intro v' x2 m d x;clear x);have A:=aI (v:=u5) d q (a0a _) r c;have z:=yZ m;rw[←Am,←ae B]at z;clear m d q;go_wp2;go_roundw
   case rel=>exact⟨k+1,by have:=ae K;omega,by go_num,z,A⟩
   case measure=>simp[intOf];omega
  . have f:l.take k=l:=a0D (by omega);rw[f]at hq;obtain⟨va,vc,rfl⟩:=hq.form;clear f h;go_wp2;go_ret;exact⟨_,rfl,hq,b⟩
theorem Ff(a:Addr)(w:World):(method 500 213 (.pointer (some a)) "loop.example/corbel/impl.pass").run prog w = .ok (274,.pointer (some a)) w:=by kernel_rfl
theorem Ed(b:Nat)(s:ByteArray)(a:Option Addr)(cap:Nat)(l:List Int)(w:World)(h:mr w a (blank l))(hbo:dM l=true)(h4:l.length<=4000)(hs:s.size<=2000000)(hr:Rdr w b s 0)(hb:∀g o,a=some ⟨g,o,none⟩->0<l.length->g<b) :
  Calls prog 197 #[.slice a l.length cap,.func (.method "loop.example/corbel/impl.pass") #[.iface 213 (.pointer (some ⟨b,0,none⟩))] #[]] w fun e w'=>
   ∃v,e = .returned v/\ax w' (b+1) v (fp (ai s) 0 l)/\Rdr w' b s (fu l)/\Below b w w':=by
 have Hbo:=af hbo;have H4:=af h4;have Hs:=af hs;have h4':(l.length:Int)<=4000:=by omega
 have hbl:=lr l;clear hbo h4 hs;obtain⟨i0,hi,hz0,hz1,hz2⟩:=a0s Tryz.infoInt;have mp:=Ff ⟨b,0,none⟩;have Hb:=af hb;clear hb;go_enter func197,ntmps197;go_wp2_with fail
 go_loopw [5,7,10] (fun o _ i wr=>∃k:Nat,k<=l.length/\i = .int .i64 k/\ax wr (b+1) o (fp (ai s) 0 (l.take k))/\Rdr wr b s (fu (l.take k))/\Below b w wr) (fun _ _ i _=>l.length-(intOf i).toNat)
 case atStart=>exact⟨0,a0h _,rfl,ax.nil _ _,hr,a0c _ _⟩
 case round=>
  obtain⟨k,hk,rfl,hown,hrr,hbel⟩:=hrel;have hrl:=hrr.lt;by_cases hlt:k<l.length
  .
   obtain⟨g,o,rfl,hg,hc⟩:=h (by omega);have hgb:=ae Hb g o rfl (by omega);have hck:=hc k (by omega);rw[DY l k hlt]at hck;have c0:=(hbel.cell (p:=⟨g,o+k*2,none⟩) hgb).trans hck.1;have c1:=(hbel.cell (p:=⟨g,o+k*2+1,none⟩) hgb).trans hck.2;have htk:=af (dy l k hlt);have hrd:=af (wz (ai s) 0 (l.take k) [l.getD k 0]);have hsu:=af (zo (l.take k) [l.getD k 0]);have hlk:Hid ((fp (ai s) 0 (l.take k)).length=k):=by show(fp (ai s) 0 (l.take k)).length=k;rw[uS];simp;omega
   obtain⟨y0,y1⟩:=Ak (ae Hbo) k hlt;have HK:=af hk;clear hc hk h hr hck hbl;generalize l.getD k 0=y at *
   obtain⟨c,rfl⟩:=a0r y0;go_wp2_with fail;refine(sN b (fu (l.take k)) c 0 s _ (hrr.alloc _) (ae Hs) (by omega)).mono ?_;rintro e x1 ⟨rfl,hr1,hk1⟩;have hown1:ax x1 (b+1) u5 (fp (ai s) 0 (l.take k)):=hk1.own (a0k hown _) (a0l _);have hbel1:=(hbel.alloc (a0y hrl) (.cells #[.int .i64 0,.int .i64 (c:Int)] 173)).trans hk1.1;have hr1l:=hr1.lt;generalize hX:ai s/2 ^ fu (l.take k)%2 ^ c=X at *
   have HX:=af hX;clear hX hown hrr hbel hk1;go_wp2_with (at_builtin;refine a0v _ rfl _ _ 146 rfl (b+1) 3 i0 (.int .i64 0) 1 8 a0L hi hz0 hz1 hz2 rfl (by decide) _ _ _ rfl (a0k hown1 _) ⟨x1.heap.size,0,none⟩ 1 1 [.int .i64 (X:Int)] rfl rfl (by intro j u hj;match j,hj with | 0,hj=>simp at hj;subst hj;simp[Addr.add]) (by intro u hu;simp at hu;subst hu;rfl) (by have:=ae hlk;have:=ae H4;unfold maxLen;omega) (by have:=ae hlk;have:=ae H4;omega) (by simp;omega) ?_;intro v' x3 hown hgrow hnil;clear hnil);have hr3:Rdr x3 b s (fu (l.take k)+c):=hr1.kept (aI (v:=u5) hgrow hown1 (a0a _) (by omega) (a0c _ _));have hbel3:Below b w x3:=aI (v:=u5) hgrow hown1 (a1k _) (by omega) hbel1;have hown3:=uv hown;clear hown hgrow hown1 hr1 hbel1;go_wp2;go_roundw
   case rel=>
    refine⟨k+1,by have:=ae HK;omega,by go_num,?_,?_,hbel3⟩
    . rw[ae htk,ae hrd];simp only[fp,a0B,a0x];rw[ae HX];exact hown3
    . rw[ae htk,ae hsu];simp only[fu,a0K,a2Q,a0V,List.sum_nil,a0x,a1H];exact hr3
   case measure=>simp[intOf];omega
  . have hlk2:l.take k=l:=a0D (by omega);rw[hlk2]at hown hrr;obtain⟨va,vc,rfl⟩:=hown.form;clear hlk2 h hr;go_wp2;go_ret;exact⟨_,rfl,hown,hrr,hbel⟩
theorem Gh(b:Nat)(s:ByteArray)(a:Option Addr)(cap:Nat)(l:List Int)(w:World)(h:mr w a (blank l))(f:dM l=true)(j:l.length<=4000)(m:s.size<=2000000)(k:Rdr w b s 0)(hb:∀g o,a=some ⟨g,o,none⟩->0<l.length->g<b) :
  Calls prog 159 #[.iface 213 (.pointer (some ⟨b,0,none⟩)),.slice a l.length cap] w fun e w'=>
   ∃v,e = .returned v/\ax w' (b+1) v (fp (ai s) 0 l)/\Rdr w' b s (fu l)/\Below b w w':=by
 go_enter func159,ntmps159;go_wp2_with fail;refine(Ed b s a cap l _ h f j m k hb).mono ?_;rintro e w1 ⟨v,rfl,c,i,d⟩;obtain⟨va,vc,rfl⟩:=c.form;go_wp2;go_ret;exact⟨_,rfl,c,i,d⟩
theorem qw(s:ByteArray)(a:Option Addr)(cap:Nat)(l:List Int)(w:World)(h:bn w a l)(hs:s.size<=2000000)(hl:l.length<=2000000) :
  Calls prog 114 #[.string s,.slice a l.length cap] w fun e w'=>∃v,e = .returned (.tuple #[v,.bool (iN s.data.toList l)])/\ax w' w.heap.size v (xG s.data.toList l)/\Below w.heap.size w w':=by
 have ac:(l.length:Int)<=2000000:=by omega
 have Y:=af hs;clear hs hl;by_cases S:l.length<=4000
 .
  have V:(l.length:Int)<=4000:=by omega
  have G:=af S;have C:=af (Al l S);have j:=af (lr l);go_enter func114,ntmps114;go_wp2_with fail;refine(Ec a cap l _ h (ae G)).mono ?_;rintro e x1 ⟨v,rfl,hq,J⟩;obtain⟨va,vc,rfl⟩:=hq.formN (ae j);have u:=hq.rowN (ae j);clear h S;go_wp2_with fail;refine(rC va vc l.length (blank l) _ (ae j) u (by have:=ae G;omega)).mono ?_;rintro e x2 ⟨rfl,A⟩;rw[ae C];have O:=hq.later A (a0a _);have d:=O.rowN (ae j);have c:=am J A;have Q:=af c.size;clear u J A hq;rcases k:dM l with _|_
  .
   have b:=af (xH (s:=s.data.toList) (a0I k));rw[a0d (by simp)];go_wp2
   go_ret2
   refine⟨_,od (ae b).1.symm,?_,c⟩;rw[(ae b).2];exact ax.nil _ _
  .
   have U:=af k;have n:=af (Ij (s:=s.data.toList) k (ae G));have P:s.data.toList.length=s.size:=by simp
   have X:=Mg k;have hS:(fu l:Int)<=64000:=by have:=ae G;omega
   have aa:(0:Int)<=(fu l:Int):=by omega
   have r:=af (BH s.data.toList (fu l));rw[P]at n r;rw[a0e rfl];have x:=af (Ii (s:=s.data.toList) (l:=l));have t:=af (KX (s:=s.data.toList) (l:=l));have Z:db s.data.toList=ai s:=rfl;rw[Z]at n r x;clear k X P Z;generalize hm:fu l=m at *
   have Hm:=af hm;clear hm;by_cases he:(s.size:Int)=((m:Int)+7)/8
   .
    have L:s.size=(m+7)/8:=by omega
    have I:=L0 x2 s 215;have z:Below x2.heap.size x2 (x2.alloc (.cells #[.string s,.int .i64 0,.bool false] 215)):=(a0c _ _).alloc (a0a _) _;have q:=d.later z;have M:∀g o,va=some ⟨g,o,none⟩->0<l.length->g<x2.heap.size:=by
     intro g o e h0;obtain⟨g',o',e',ab,_⟩:=d (by rw[ae j];exact h0);rw[e]at e';simp only[a0m,a0F,a1a]at e';omega
    have R:=af L;have HG:=af M;clear L M d;go_wp2_with fail;refine(Gh x2.heap.size s va vc l _ q (ae U) (ae G) (ae Y) I (ae HG)).mono ?_;rintro e x3 ⟨v,rfl,p,E,K⟩;have f:=am c (z.trans K);rw[ae Hm]at E;clear I z q K c O;obtain⟨va',vc',rfl⟩:=p.form;go_wp2_with fail;refine(qd x2.heap.size m s _ E (ae Y) (by have:=ae R;omega)).mono ?_;rintro e x4 ⟨rfl,W,B⟩;have D:=B.own p (a0l _);have i:=f.trans (B.1.mono (ae Q));clear p E W B f;by_cases F:ai s/2 ^ m%2 ^ ((8-m%8)%8)=0
    .
     rw[a0w F];have N:iN s.data.toList l=true:=by
      rw[ae n,a0w (ae R),a0w ((ae r (ae R)).1 F)];rfl
     have H:=af N;clear N F;go_wp2
     go_ret2
     refine⟨_,od (ae H).symm,?_,i⟩;rw[ae x (ae H)];exact ax.mono D (Nat.le_succ_of_le (ae Q))
    .
     rw[a0j F];have b:iN s.data.toList l=false:=by
      rw[ae n,a0j (fun h=>F ((ae r (ae R)).2 h))];simp
     have y:=af b;have T:=af (ae t b);clear b F;go_wp2
     go_ret2
     refine⟨_,od (ae y).symm,?_,i⟩;rw[ae T];exact ax.nil _ _
   .
    have b:iN s.data.toList l=false:=by
     rw[ae n,a0j (by omega)];rfl
    have ad:((s.size:Int) != ((m:Int)+7)/8)=true:=by simpa using he
    have y:=af b;have T:=af (ae t b);clear b;go_wp2
    go_ret2
    refine⟨_,od (ae y).symm,?_,c⟩;rw[ae T];exact ax.nil _ _
 .
  have b:=af (xH (s:=s.data.toList) (l:=l) (Or.inr (by omega)));have V:4000<(l.length:Int):=by omega
  clear S;go_enter func114,ntmps114;go_wp2
  go_ret2
  refine⟨_,od (ae b).1.symm,?_,a0c _ _⟩;rw[(ae b).2];exact ax.nil _ _
def bitsOf(l:List (Int×Int)):List Int:=l.map (·.2)
end Go.Proofs.YtkdlcomfpffhhaaGreatDoor
