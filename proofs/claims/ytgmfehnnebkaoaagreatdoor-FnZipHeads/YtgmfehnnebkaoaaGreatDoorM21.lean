/- Of what the proof is made: 27 texts, one behind the other. -/
import Derived.Test.YtgmfehnnebkaoaaGreatDoorRb1
import Derived.Test.YtgmfehnnebkaoaaGreatDoorM9
import Derived.Test.YtgmfehnnebkaoaaGreatDoorM8
import Derived.Test.YtgmfehnnebkaoaaGreatDoorM1
import Derived.Test.YtgmfehnnebkaoaaGreatDoorM2
import Derived.Deep.CutRange
import Derived.Laws.IdiomStrings
import Derived.Laws.OwnMore
import Derived.Test.YtgmfehnnebkaoaaGreatDoorM4
import Derived.Test.YtgmfehnnebkaoaaGreatDoorM3
import Derived.Deep.RegionHeld3
import Derived.Deep.DrawnRows
set_option maxRecDepth 100000
set_option linter.unusedSimpArgs false
set_option linter.unusedVariables false
set_option maxHeartbeats 6400000
namespace Go.Proofs.YtgmfehnnebkaoaaGreatDoor
open Go.Proofs.Tryz
open Go.RowKit Corb
variable {P V b c crc g how i j k lg m o pk st:Nat}{W w w':World}{l:List UInt8}{nm:ByteArray}{v v1:Value}{x y:Int}{xs:List Int}
def Bys(w:World)(b:Nat)(v:Value)(l:List UInt8):Prop:=w.ownsRow (b+1) 5 1 v l.length (cY l)
theorem Bys.form(h:Bys w b v l):∃a cap,v = .slice a l.length cap:=by
 rcases h.2 with⟨e,c⟩|⟨g,cap,_,e,_⟩
 . exact⟨none,0,by rw[e,c]⟩
 . exact⟨_,cap,e⟩
theorem Bys.set(h:Bys w b v l)(u:Value):Bys (w.setCell ⟨b,o,none⟩ u) b v l:=
 a23 h (a:=⟨b,o,none⟩) (a0s b) u
theorem Bys.drew(h:Bys w b v l):Bys w.drew b v l:=h
def Out(w:World)(b V m:Nat):Prop:=
 V<p2 m/\∃v,Three w b v (.int .i64 (V/p2 (8*(m/8)):Nat)) (.int .i64 (m%8:Nat))/\Bys w b v (leS (m/8) V)
theorem AW(V m x:Nat)(a:V<p2 m)(b:x<=1)(c:m%8<7) :
  V+x*p2 m<p2 (m+1)/\(V+x*p2 m)/p2 (8*((m+1)/8))=V/p2 (8*(m/8))+x*p2 (m%8)/\leS ((m+1)/8) (V+x*p2 m)=leS (m/8) V:=by
 refine⟨add_lt V x m a b,?_,?_⟩
 . rw[show(m+1)/8=m/8 by omega];have:=xE V x m (m/8) (by omega);rw[show m-8*(m/8)=m%8 by omega]at this;exact this
 . rw[show(m+1)/8=m/8 by omega];exact sx (m/8) V x m (by omega)
theorem AV(V m x:Nat)(e:V<p2 m)(f:x<=1)(g:m%8=7) :
  V+x*p2 m<p2 (m+1)/\(V+x*p2 m)/p2 (8*((m+1)/8))=0/\(m+1)%8=0 /\
   leS ((m+1)/8) (V+x*p2 m)=leS (m/8) V++[UInt8.ofNat (V/p2 (8*(m/8))+x*p2 (m%8))]:=by
 have b:=add_lt V x m e f;refine⟨b,?_,by omega,?_⟩
 .
  apply a1T;have:p2 (8*((m+1)/8))=2 ^ (m+1):=by unfold p2;rw[show 8*((m+1)/8)=m+1 by omega]
  rw[this];exact b
 . rw[show(m+1)/8=m/8+1 by omega];have a:=sx (m/8) V x m (by omega);have d:=xE V x m (m/8) (by omega);rw[show m-8*(m/8)=m%8 by omega]at d;have c:=xT (V+x*2 ^ m) (m+1) (m/8) b (by omega);rw[show m+1-8*(m/8)=8 by omega]at c;show leS (m/8) (V+x*2 ^ m)++[UInt8.ofNat ((V+x*2 ^ m)/2 ^ (8*(m/8))%256)]=_;rw[a08 c,a,d];rfl
theorem sw(V m:Nat)(a:V<p2 m):V/p2 (8*(m/8))<p2 (m%8):=by
 have:=xT V m (m/8) a (by omega);rw[show m-8*(m/8)=m%8 by omega]at this;exact this
theorem oK(k:Nat)(h:k<256):(UInt8.ofNat k).toNat=k:=by
 have:k%256=k:=a08 h;simp[this]
theorem uI{W2 WA:World}{v' v2:Value}{x:UInt8}(T2:Three W2 b v v1 v2)(Y2:Bys W2 b v l)(j:Below b w W2)
  (d:Below (b+1) W2 WA) (a:w'.ownsRow (b+1) 5 1 v' (l.length+1) (cY l++[.int .u8 (x.toNat:Int)])) (c:WA.grownBy w' v.ownBlock) :
  (∃g cap,v' = .slice (some ⟨g,0,none⟩) (l.length+1) cap)/\Three w' b v v1 v2/\Bys w' b v' (l++[x])/\Below b w w':=by
 have h:=T2.2.2.2.2.2.2;have i:=a0h h d.size;have f:∀k,v.ownBlock=some k->b+1<=k:=fun k m=>(Y2.lt k m).1;have hb:Below (b+1) W2 w':=d.grown c (by omega) f;refine⟨?_,T2.kept hb,?_,j.trans (hb.mono (by omega))⟩
 .
  rcases a.2 with⟨_,n⟩|⟨g,cap,_,e,_⟩
  . omega
  . exact⟨g,cap,e⟩
 . show w'.ownsRow (b+1) 5 1 v' (l++[x]).length (cY (l++[x]));simpa[cY]using a
theorem Lt(n k:Nat):n%p2 (k+1)=n%p2 k+n/p2 k%2*p2 k:=Az n k
theorem yu(V n k m:Nat):V+n%p2 (k+1)*p2 m=V+n%p2 k*p2 m+n/p2 k%2*p2 (m+k):=by
 rw[Lt,a1o,a1G,show p2 k*p2 m=p2 (m+k) by unfold p2;rw[←a0Q,a2V]];omega
theorem zO(n k:Nat):n/p2 k/2=n/p2 (k+1):=kY n k
theorem pu(b V m:Nat)(num bits:Int)(w:World)(h:Out w b V m)(n0:0<=num)(n1:num<65536)(b0:0<=bits)(b1:bits<=16)(hm:m<=100000) :
  Calls prog 194 #[.pointer (some ⟨b,0,none⟩),.int .i64 num,.int .i64 bits] w fun e w'=>e = .returned (.tuple #[]) /\
   Out w' b (V+num.toNat%p2 bits.toNat*p2 m) (m+bits.toNat)/\Below b w w':=by
 obtain⟨n,rfl⟩:=a0n n0;obtain⟨c,rfl⟩:=a0n b0;rw[a0l,a0l];obtain⟨i0,hi,a9,ba,bb⟩:=a0r Tryz.infoU8;go_enter func194,ntmps194;go_wp2
 go_loopw [1,6] (fun x i wr=>∃k:Nat,k<=c/\i = .int .i64 k/\x = .int .i64 (n/p2 k:Nat)/\Out wr b (V+n%p2 k*p2 m) (m+k)/\Below b w wr) (fun _ i _=>c-(intOf i).toNat)
 case atStart=>exact⟨0,a0g _,rfl,by simp[p2],by simpa[p2,a1Y]using h,a0c _ _⟩
 case round=>
  obtain⟨k,hk,rfl,rfl,z,a⟩:=hrel;by_cases b5:k<c
  .
   have B:=af (yu V n k m);have g:=af (zO n k);have a6:n/p2 k<=n:=a2k _ _;obtain⟨hV,v,s,G⟩:=z;obtain⟨sa,scap,rfl⟩:=G.form;have a5:=sw (V+n%p2 k*p2 m) (m+k) hV;generalize V+n%p2 k*p2 m=V1 at *
   generalize W:m+k=m1 at *
   have hx:n/p2 k%2<=1:=by omega
   have ad:((n/p2 k:Nat):Int)%2=((n/p2 k%2:Nat):Int):=by omega
   have bd:((n/p2 k:Nat):Int)<65536:=by omega
   have a7:p2 (m1%8)<=128:=uF (m1%8) 7 (by omega);have O:n/p2 k%2*p2 (m1%8)<=1*p2 (m1%8):=a18 _ hx;have y:((n/p2 k%2:Nat):Int)*((p2 (m1%8):Nat):Int)=((n/p2 k%2*p2 (m1%8):Nat):Int):=by simp
   have q:=AW V1 m1 (n/p2 k%2) hV hx;have d:=AV V1 m1 (n/p2 k%2) hV hx;have ab:m1%8<8:=a1t _ (by omega);have l:m1<=100016:=by omega
   have Q:(leS (m1/8) V1).length=m1/8:=aF _ _;generalize n/p2 k=nk at *
   generalize a8:nk%2=x at *
   generalize a1:V1/p2 (8*(m1/8))=L at *
   generalize ac:m1%8=r at *
   generalize N:p2 r=P at *
   generalize a2:x*P=X at *
   have ao:=af N;have K:=af W;have a0:=af ac;have E:=af q;have C:=af d;clear W a1 ac N a2 hV q d a8 hx a6;obtain⟨k0,H,I,f0,f1,f2,F⟩:=s;have s:Hid (Three wr b _ _ _):=⟨k0,H,I,f0,f1,f2,F⟩;have b6:(r:Int)<8:=by omega
   have bl:(L:Int)<128:=by omega
   have bs:(X:Int)<=128:=by omega
   have S:(k:Int)<(c:Int):=by omega
   have bk:=af ab;have D:=af l;have Hk:=af hk;have an:Hid (IntKind.i64.wrap ((L:Int)+IntKind.i64.wrap ((nk:Int).tmod 2*(P:Int)))=(L:Int)+(X:Int)):=by
    show IntKind.i64.wrap ((L:Int)+IntKind.i64.wrap ((nk:Int).tmod 2*(P:Int)))=(L:Int)+(X:Int);rw[a2E (by omega),ad,y,dn (X:Int) (by omega) (by omega),dn ((L:Int)+(X:Int)) (by omega) (by omega)]
   clear ab l a7 O a5 hk hm;go_wp2_with fail;go_cut[]from 7 to 62 (fun wc=>wc=(wr.setCell ⟨b,1,none⟩ (.int .i64 ((L:Int)+(X:Int)))).drew)
   case first=>
    go_region_with (go_at_call 224;refine(qx _ _ (by omega)).mono ?_;rintro e w' ⟨rfl,rfl⟩;rw[a0l,ae ao])
    all_goals
     go_wp2_with fail
     go_meet
     exact by rw[ae an]
   case rest=>
    have T1:=((ae s).set1 (.int .i64 ((L:Int)+(X:Int)))).drew;have Y1:=(G.set (o:=1) (.int .i64 ((L:Int)+(X:Int)))).drew;have B1:Below b w _:=(ai a (o:=1) (a0a _) (.int .i64 ((L:Int)+(X:Int)))).drew;rw[←hcut]at T1 Y1 B1;clear hcut G a s k0 H I f0 f1 f2 F y ad;have T1':=af T1;obtain⟨k0,H,I,f0,f1,f2,F⟩:=T1;by_cases aa:(r:Int)=7
    .
     have A:r=7:=by omega
     obtain⟨o1,o2,o3,o4⟩:=ae C A;have O1:=af o1;have O2:=af o2;have O3:=af o3;have O4:=af o4;have M:L+X<256:=by omega
     have a4:=af (oK (L+X) M);have b4:IntKind.u8.wrap ((L:Int)+(X:Int))=(L:Int)+(X:Int):=by
      rw[IntKind.wrap_u8'];omega
     subst A;clear o1 o2 o3 o4 aa M;have T2:=(ae T1').set2 (.int .i64 8);have Y2:=Y1.set (o:=2) (.int .i64 8);have B2:Below b w _:=ai B1 (o:=2) (a0a _) (.int .i64 8);have U:=af Q;clear Q;go_wp2_with fail;generalize wc.setCell ⟨b,2,none⟩ (.int .i64 8)=W2 at *
     clear k0 H I f0 f1 f2 T1' Y1 B1;have T2':=af T2;obtain⟨k0,H,I,f0,f1,f2,a3⟩:=T2;have R:Hid (((UInt8.ofNat (L+X)).toNat:Int)=(L:Int)+(X:Int)):=by
      show((UInt8.ofNat (L+X)).toNat:Int)=(L:Int)+(X:Int);rw[ae a4];omega
     have T:(leS (m1/8) V1).length<=20000:=by have:=ae U;have:=ae D;omega
     have J:=af T;clear T;go_cut[]from 7 to 62 (fun wc2=>∃v',Three wc2 b v' (.int .i64 ((L:Int)+(X:Int))) (.int .i64 8)/\Bys wc2 b v' (leS (m1/8) V1++[UInt8.ofNat (L+X)])/\Below b w wc2)
     case first=>
      go_region_law (refine aX rfl (.tmp 47) (.tmp 53) 22 rfl (b+1) 5 i0 (.int .u8 0) 1 1 a06 hi a9 ba bb rfl (by decide) _ _ _ (by simp[Act.eval]) (Y2.alloc _) ⟨W2.heap.size,0,none⟩ 1 1 [.int .u8 ((L:Int)+(X:Int))] (by simp[Act.eval]) rfl (by intro j u hj;match j,hj with | 0,hj=>simp at hj;subst hj;simp[Addr.add]) (by intro u hu;simp at hu;subst hu;rfl) (by have:=ae J;unfold maxLen;omega) (by have:=ae J;omega) (by simp;omega) ?_;intro v' w' p f Z;clear Z;rw[←ae R]at p;obtain⟨⟨g',bc,rfl⟩,T3,Y3,B3⟩:=uI (ae T2') Y2 B2 (by first|exact(a0c _ _).alloc (by omega) _|exact((a0c _ _).alloc (by omega) _).drew) p f;clear p f;have T3':=af T3;obtain⟨q0,q1,q2,e0,e1,e2,b2⟩:=T3)
      all_goals
       go_wp2_with fail
       go_meet
       exact⟨_,(ae T3').set0 _,Y3.set _,ai B3 (a0a _) _⟩
     case rest=>
      obtain⟨v',T4,Y4,B4⟩:=hcut;clear k0 H I f0 f1 f2 T2' Y2 B2 a3;obtain⟨va,vc,rfl⟩:=Y4.form;have T4':=af T4;obtain⟨k0,H,I,f0,f1,f2,b3⟩:=T4;go_wp2;go_roundw
      case rel=>
       refine⟨k+1,by have:=ae Hk;omega,by go_num,by rw[←ae g];go_num,?_,ai (ai B4 (a0a _) _) (a0a _) _⟩;rw[ae B,show m+(k+1)=m1+1 by have:=ae K;omega];refine⟨ae O1,.slice va (leS (m1/8) V1++[UInt8.ofNat (L+X)]).length vc,?_,?_⟩
       . rw[ae O2,ae O3];exact((ae T4').set1 _).set2 _
       . rw[ae O4];exact(Y4.set _).set _
      case measure=>simp[intOf];omega
    .
     have be:((r:Int)+1 == 8)=false:=by simp;omega
     have t:r<7:=by omega
     obtain⟨o1,o2,o3⟩:=ae E t;have O1:=af o1;have O2:=af o2;have O3:=af o3;have Y:Hid ((m1+1)%8=r+1):=by show(m1+1)%8=r+1;have:=ae a0;omega
     clear o1 o2 o3 t aa;go_wp2;go_roundw
     case rel=>
      refine⟨k+1,by have:=ae Hk;omega,by go_num,by rw[←ae g];go_num,?_,ai B1 (a0a _) _⟩;rw[ae B,show m+(k+1)=m1+1 by have:=ae K;omega];refine⟨ae O1,.slice sa (leS (m1/8) V1).length scap,?_,?_⟩
      . rw[ae O2,ae Y];exact(ae T1').set2 _
      . rw[ae O3];exact Y1.set _
     case measure=>simp[intOf];omega
  .
   have S:k=c:=by omega
   subst S;go_wp2
   go_end0
   exact⟨rfl,z,a⟩
def nE(l:List (Int×Int)):List (Nat×Nat):=l.map (fun p=>(p.1.toNat,p.2.toNat))
def aV(l:List (Int×Int)):Nat×Nat:=iu (0,0) (nE l)
def cz(l:List (Int×Int)):List UInt8:=leS (((aV l).2+7)/8) (aV l).1
def pt(l:List (Int×Int)):List UInt8:=if lOk l=true then cz l else []
theorem ea{l:List (Int×Int)}(h:lOk l=true):pt l=cz l:=a0d h
theorem NP{l:List (Int×Int)}(h:lOk l=false):pt l=[]:=a0e (by simp[h])
theorem IE(l:List (Int×Int))(k:Nat)(h:k<l.length):aV (l.take (k+1)) =
  ((aV (l.take k)).1+(l.getD k (0,0)).1.toNat*p2 (aV (l.take k)).2,(aV (l.take k)).2+(l.getD k (0,0)).2.toNat):=by
 rw[a09 h,aV,nE,a0I,mG];simp only[a0C,a1I,iu];have e:l.getD k (0,0)=l[k]:=by simp[List.getD,h]
 rw[e];rfl
theorem wZ(l:List (Int×Int))(h:aW l=true):((aV l).2:Int)=bP l:=by
 have key:∀(m:List (Int×Int)) (s:Nat×Nat),aW m=true->((iu s (nE m)).2:Int)=(s.2:Int)+bP m:=by
  intro m;induction m with
  | nil=>intro s _;simp[nE,iu,bP]
  | cons p m ih=>
   intro s a;simp only[aW,a13,a0j]at a;have b:=aP.1 a.1;have:=ih (s.1+p.1.toNat*2 ^ s.2,s.2+p.2.toNat) a.2;simp only[nE,a0C,iu]at this ⊢;rw[this];simp only[bP,a0C,a0M];omega
 have:=key l (0,0) h;simpa[aV]using this
theorem yJ(l:List (Int×Int))(h:aW l=true):(aV l).1<p2 (aV l).2:=by
 have key:∀(m:List (Int×Int)) (s:Nat×Nat),s.1<p2 s.2->aW m=true->(iu s (nE m)).1<p2 (iu s (nE m)).2:=by
  intro m;induction m with
  | nil=>intro s b _;exact b
  | cons p m ih=>
   intro s b a;simp only[aW,a13,a0j]at a;have d:=aP.1 a.1;have c:p.1.toNat<p2 p.2.toNat:=by omega
   exact ih _ (Ln s.1 s.2 p.1.toNat p.2.toNat b c) a.2
 exact key l (0,0) (by decide) h
theorem yo(w:World)(t:TypeId):Out (w.alloc (.cells #[.slice none 0 0,.int .i64 0,.int .i64 0] t)) w.heap.size 0 0:=by
 refine⟨by decide,.slice none 0 0,⟨by simp,by simp,by simp,by simp,by simp,by simp,by simp⟩,?_⟩;exact a00 _ _ _ _
theorem Fl{a b:List UInt8}(h:a=b):Ending.returned (.string ⟨a.toArray⟩) = .returned (.string ⟨b.toArray⟩):=by rw[h]
theorem kX(h:Bys w b v l) :
  (convert 22 9 v).run prog w = .ok (.string ⟨l.toArray⟩) w:=by
 rcases h.2 with⟨e,a⟩|⟨g,cap,_,e,_⟩
 . subst e;have d:l=[]:=a2l a;subst d;rw[run_convert_bytes_string w _ _ _ none 0 0 a06 a2b a2c];rfl
 .
  subst e;exact a3u w _ _ _ ⟨g,0,none⟩ cap l a06 a2b a2c (fun j c=>by
   have:=h.cells (g:=g) rfl j (.int .u8 (l[j].toNat:Int)) (by simp[cY,c]);exact this)
theorem nT.below{a:Option Addr}{l:List (Int×Int)}{B:Nat}(h:nT w a l)(b:w.heap.size<=B)(hb:Below B w w'):nT w' a l:=h.later (hb.mono b)
theorem Two.kept{v0:Value}(h:Two w b v0 v1)(hb:Below (b+1) w w'):Two w' b v0 v1:=by
 obtain⟨c0,c1,f0,f1,c⟩:=h;have a:=a0s b;exact⟨(hb.cell (p:=⟨b,0,none⟩) a).trans c0,(hb.cell (p:=⟨b,1,none⟩) a).trans c1,(hb.frozen (p:=⟨b,0,none⟩) a).trans f0,(hb.frozen (p:=⟨b,1,none⟩) a).trans f1,a0h c hb.size⟩
def j9(w:World)(b V m:Nat):Prop:=
 V<p2 m/\∃v,Two w b v (.int .i64 (m:Int))/\Bys w b v (leS ((m+7)/8) V)
theorem Lo{W2 WA:World}{v':Value}{x:UInt8}(T2:Two W2 b v v1)(Y2:Bys W2 b v l)(j:Below b w W2)
  (d:Below (b+1) W2 WA) (a:w'.ownsRow (b+1) 5 1 v' (l.length+1) (cY l++[.int .u8 (x.toNat:Int)])) (c:WA.grownBy w' v.ownBlock) :
  (∃g cap,v' = .slice (some ⟨g,0,none⟩) (l.length+1) cap)/\Two w' b v v1/\Bys w' b v' (l++[x])/\Below b w w':=by
 have h:=T2.2.2.2.2;have i:=a0h h d.size;have f:∀k,v.ownBlock=some k->b+1<=k:=fun k m=>(Y2.lt k m).1;have hb:Below (b+1) W2 w':=d.grown c (by omega) f;refine⟨?_,T2.kept hb,?_,j.trans (hb.mono (by omega))⟩
 .
  rcases a.2 with⟨_,n⟩|⟨g,cap,_,e,_⟩
  . omega
  . exact⟨g,cap,e⟩
 . show w'.ownsRow (b+1) 5 1 v' (l++[x]).length (cY (l++[x]));simpa[cY]using a
theorem Bys.at{cap:Nat}(h:Bys w b (.slice (some ⟨g,0,none⟩) l.length cap) l)(a:j<l.length) :
  w.cell? ⟨g,j,none⟩=some (.int .u8 ((l.getD j 0).toNat:Int))/\w.frozen? ⟨g,j,none⟩=false/\b<g:=by
 refine⟨?_,a2o h j,(a0E h g rfl).1⟩;rw[a02 h j (by omega)];simp[cY,a,List.getD]
theorem Bys.put{cap:Nat}(h:Bys w b (.slice (some ⟨g,0,none⟩) l.length cap) l)(x:UInt8) :
  Bys (w.setCell ⟨g,j,none⟩ (.int .u8 (x.toNat:Int))) b (.slice (some ⟨g,0,none⟩) l.length cap) (l.set j x):=by
 have:=a10 h j (.int .u8 (x.toNat:Int));show World.ownsRow _ _ _ _ _ (l.set j x).length (cY (l.set j x));rw[a1w];have e:cY (l.set j x)=(cY l).set j (.int .u8 (x.toNat:Int)):=by simp[cY,List.map_set]
 rw[e];exact this.1
theorem Qe(V m x:Nat)(a:V<p2 m)(b:x<=1) :
  V+x*p2 m<p2 (m+1)/\leS ((m+1+7)/8) (V+x*p2 m)=(leS (m/8+1) V).set (m/8) (UInt8.ofNat (V/p2 (8*(m/8))+x*p2 (m%8))):=by
 refine⟨add_lt V x m a b,?_⟩;rw[show(m+1+7)/8=m/8+1 by omega];exact Ns (m/8) V x m rfl b a
theorem Qd(V m:Nat)(a:V<p2 m)(b:m%8=0):leS ((m+7)/8) V++[0]=leS (m/8+1) V:=by
 rw[show(m+7)/8=m/8 by omega];exact(Nr (m/8) V (by rw[show 8*(m/8)=m by omega];exact a)).symm
theorem Qa(V m:Nat)(a:m%8≠0):leS ((m+7)/8) V=leS (m/8+1) V:=by
 rw[show(m+7)/8=m/8+1 by omega]
theorem P8(V m:Nat)(a:V<p2 m):((leS (m/8+1) V).getD (m/8) 0).toNat=V/p2 (8*(m/8)):=by
 rw[EZ _ _ _ (by omega)];have b:=sw V m a;have h2:=uF (m%8) 7 (by omega);have c:p2 7=128:=rfl;have e:V/2 ^ (8*(m/8))%256=V/p2 (8*(m/8)):=a08 (by show V/p2 (8*(m/8))<256;omega);rw[e,oK _ (by omega)]
def Box(w:World)(P:Nat)(x y:Int):Prop:=w.heap[P]?=some (.cells #[.int .i64 x,.int .i64 y] 139)
theorem MM(w:World)(x y:Int):Box (w.alloc (.cells #[.int .i64 x,.int .i64 y] 139)) w.heap.size x y:=by
 show(w.heap.push _)[w.heap.size]?=_;simp
theorem Box.cells(h:Box w P x y):w.cell? ⟨P,0,none⟩=some (.int .i64 x)/\w.cell? ⟨P,1,none⟩=some (.int .i64 y)/\P<w.heap.size:=by
 refine⟨by simp[World.cell?,show w.heap[P]?=_ from h],by simp[World.cell?,show w.heap[P]?=_ from h],?_⟩;have a:w.heap[P]?=some _:=h;exact(Array.getElem?_eq_some_iff.1 a).1
theorem Box.ne(h:Box w P x y)(i:Bys w b v l)(k:Nat)(a:v.ownBlock=some k):k≠P:=by
 rintro rfl;rcases i.2 with⟨e,_⟩|⟨g,cap,d,e,_,c,_⟩
 . subst e;simp[Value.ownBlock]at a
 . subst e;simp only[Value.ownBlock,a0k]at a;subst a;have f:w.heap[g]?=some (.cells #[.int .i64 x,.int .i64 y] 139):=h;rw[f]at c;simp at c
theorem Box.set(h:Box w P x y)(hb:b≠P)(u:Value):Box (w.setCell ⟨b,o,none⟩ u) P x y:=by
 show(w.setCell ⟨b,o,none⟩ u).heap[P]?=_;rw[a0K w ⟨b,o,none⟩ u P (fun e=>hb e.symm)];exact h
theorem Box.drew(h:Box w P x y):Box w.drew P x y:=h
theorem Box.alloc(h:Box w P x y)(o:Obj):Box (w.alloc o) P x y:=by
 show(w.alloc o).heap[P]?=_;rw[a1i w o P h.cells.2.2];exact h
theorem Box.grown(h:Box w P x y)(c:Bys w b v l)(a:w.grownBy w' v.ownBlock):Box w' P x y:=by
 show w'.heap[P]?=_;rw[a.block P h.cells.2.2 (fun e=>h.ne c P e.symm rfl)];exact h
def bT(b:Nat)(w w':World):Prop:=w.heap.size<=w'.heap.size/\∀k,k<w.heap.size->k≠b->(∀cur fr,w.heap[k]?≠some (.cells cur 5 fr))->w'.heap[k]?=w.heap[k]?
theorem bT.refl(b:Nat)(w:World):bT b w w:=⟨a0a _,fun _ _ _ _=>rfl⟩
theorem bT.trans{w1 w2:World}(h:bT b w w1)(k:bT b w1 w2):bT b w w2:=
 ⟨a0L h.1 k.1,fun j c hb d=>by
  have e:=h.2 j c hb d;rw[k.2 j (a0h c h.1) hb (fun a fr=>by rw[e];exact d a fr),e]⟩
theorem bT.drew(h:bT b w w'):bT b w w'.drew:=h
theorem bT.alloc(h:bT b w w')(o:Obj):bT b w (w'.alloc o):=
 h.trans ⟨by simp,fun j a _ _=>a1i w' o j a⟩
theorem bT.set(h:bT b w w')(u:Value):bT b w (w'.setCell ⟨b,o,none⟩ u):=
 h.trans ⟨by simp,fun j _ hb _=>a0K w' ⟨b,o,none⟩ u j hb⟩
theorem bT.setRow{cap:Nat}(h:bT b w w')(m:Bys w' c (.slice (some ⟨g,0,none⟩) l.length cap) l)(u:Value):bT b w (w'.setCell ⟨g,j,none⟩ u):=by
 refine h.trans ⟨by simp,fun k _ _ i=>?_⟩;by_cases e:k=g
 .
  subst e;rcases m.2 with⟨e,_⟩|⟨g',d,a,e,_,f,_⟩
  . simp at e
  . simp only[a0J,a0k,a0D,a0P,a1W]at e;obtain⟨rfl,_⟩:=e;exact absurd f (i a (0,0))
 . exact a0K w' ⟨g,j,none⟩ u k e
theorem bT.grown{w'':World}(h:bT b w w')(m:Bys w' c v l)(g:w'.grownBy w'' v.ownBlock):bT b w w'':=by
 refine h.trans ⟨g.size,fun k i _ j=>?_⟩;refine g.block k i (fun e=>?_);rcases m.2 with⟨e',_⟩|⟨g',f,a,e',_,d,_⟩
 . subst e';simp[Value.ownBlock]at e
 . subst e';simp only[Value.ownBlock,a0k]at e;subst e;exact j a (0,0) d
theorem Eu(B X r:Nat)(a:B<p2 r)(e:r<8)(b:X=0∨X=p2 r):bits .or .u8 (B:Int) (X:Int)=((B+X:Nat):Int):=by
 have d:=uF r 7 (by omega);have c:p2 7=128:=rfl;rw[u8_or_nat B X (by omega) (by omega)]
 congr 1
 rw[Nat.or_comm];rcases b with rfl|rfl
 . simp
 . rw[nat_join r (p2 r) B (by unfold p2;simp) a];omega
theorem Two.other{v0:Value}(h:Two w b v0 v1)(a:g≠b)(u:Value):Two (w.setCell ⟨g,o,none⟩ u) b v0 v1:=by
 obtain⟨c0,c1,f0,f1,hb⟩:=h;refine⟨?_,?_,by simpa using f0,by simpa using f1,by simpa using hb⟩
 . rw[World.cell?_setCell_other _ _ _ _ (by simp only[ne_eq,a0D];omega)];exact c0
 . rw[World.cell?_setCell_other _ _ _ _ (by simp only[ne_eq,a0D];omega)];exact c1
theorem xe{wr:World}{cap V1 m1 x L X:Nat}{p q:Int}(j:Two wr b (.slice (some ⟨g,0,none⟩) (leS (m1/8+1) V1).length cap) (.int .i64 (m1:Int)))
  (a:Bys (wr.setCell ⟨g,m1/8,none⟩ (.int .u8 ((UInt8.ofNat (L+X)).toNat:Int))) b (.slice (some ⟨g,0,none⟩) (leS (m1/8+1) V1).length cap) ((leS (m1/8+1) V1).set (m1/8) (UInt8.ofNat (L+X))))
  (k:V1+x*p2 m1<p2 (m1+1)) (l:leS ((m1+1+7)/8) (V1+x*p2 m1)=(leS (m1/8+1) V1).set (m1/8) (UInt8.ofNat (L+X)))
  (h:(UInt8.ofNat (L+X)).toNat=L+X) (o:b<g) (n:g≠P) (m:P≠b) (d:Box wr P p q) (c:Below b w wr) (f:Bys wr b (.slice (some ⟨g,0,none⟩) (leS (m1/8+1) V1).length cap) (leS (m1/8+1) V1)) (i:bT b w wr) :
  j9 ((wr.setCell ⟨g,m1/8,none⟩ (.int .u8 ((L:Int)+(X:Int)))).setCell ⟨b,1,none⟩ (.int .i64 ((m1:Int)+1))).drew b (V1+x*p2 m1) (m1+1) /\
  Box ((wr.setCell ⟨g,m1/8,none⟩ (.int .u8 ((L:Int)+(X:Int)))).setCell ⟨b,1,none⟩ (.int .i64 ((m1:Int)+1))).drew P p q /\
  Below b w ((wr.setCell ⟨g,m1/8,none⟩ (.int .u8 ((L:Int)+(X:Int)))).setCell ⟨b,1,none⟩ (.int .i64 ((m1:Int)+1))).drew /\
  bT b w ((wr.setCell ⟨g,m1/8,none⟩ (.int .u8 ((L:Int)+(X:Int)))).setCell ⟨b,1,none⟩ (.int .i64 ((m1:Int)+1))).drew:=by
 have e:((UInt8.ofNat (L+X)).toNat:Int)=(L:Int)+(X:Int):=by rw[h];omega
 rw[e]at a;refine⟨⟨k,.slice (some ⟨g,0,none⟩) (leS (m1/8+1) V1).length cap,?_,?_⟩,?_,?_,?_⟩
 . exact((j.other (by omega) _).set1 _).drew
 . rw[l];exact(a.set _).drew
 . exact((d.set (by omega) _).set (by omega) _).drew
 . exact(ai (ai c (by omega) _) (a0a _) _).drew
 . exact((i.setRow f _).set _).drew
theorem Lk(b V m:Nat)(num bits:Int)(w:World)(h:j9 w b V m)(hp:pOk num bits=true)(hm:m<=100000) :
  Calls prog 304 #[.pointer (some ⟨b,0,none⟩),.agg #[.int .i64 num,.int .i64 bits]] w fun e w'=>e = .returned (.int .i64 num) /\
   j9 w' b (V+num.toNat*p2 m) (m+bits.toNat)/\Below b w w'/\bT b w w':=by
 obtain⟨⟨b0,b1⟩,n0,n1⟩:=aP.1 hp;have hq:=(D4 bits b1).2;obtain⟨n,rfl⟩:=a0n n0;obtain⟨c,rfl⟩:=a0n b0;rw[a0l,a0l];rw[a0l]at n1 hq;have Z:Hid (n%p2 c=n):=a08 (by omega);have cv:(n:Int)<65536:=by omega
 obtain⟨i0,hi,b9,ca,cc⟩:=a0r Tryz.infoU8;have cu:b<w.heap.size:=by obtain⟨_,v,ht,_⟩:=h;exact ht.2.2.2.2
 have C:=MM w (n:Int) (c:Int);have h0:j9 (w.alloc (.cells #[.int .i64 (n:Int),.int .i64 (c:Int)] 139)) b V m:=by
  obtain⟨W,v,ht,hy⟩:=h;exact⟨W,v,ht.kept ((a0c _ _).alloc (by omega) _),a0m hy _⟩
 have A:Below b w (w.alloc (.cells #[.int .i64 (n:Int),.int .i64 (c:Int)] 139)):=(a0c _ _).alloc (by omega) _;clear n1 hq h hp;go_enter func304,ntmps304;go_wp2_with fail
 go_loopw [5,8] (fun _ i wr=>∃k:Nat,k<=c/\i = .int .i64 k/\j9 wr b (V+n%p2 k*p2 m) (m+k)/\Box wr w.heap.size n c/\Below b w wr/\bT b w wr) (fun _ i _=>c-(intOf i).toNat)
 case atStart=>exact⟨0,a0g _,rfl,by simpa[p2,a1Y]using h0,C,A,(bT.refl _ _).alloc _⟩
 case round=>
  obtain⟨k,hk,rfl,G,d,p,t⟩:=hrel;clear h0 C A;obtain⟨bc0,bc1,J⟩:=d.cells;by_cases b5:k<c
  .
   have Q:=af (yu V n k m);have b6:n/p2 k<=n:=a2k _ _;have ad:Hid ((n:Int)/2 ^ k=((n/p2 k:Nat):Int)):=(Int.natCast_ediv n (2 ^ k)).symm;obtain⟨W,v,bl,a⟩:=G;obtain⟨sa,scap,rfl⟩:=a.form;have a8:=sw (V+n%p2 k*p2 m) (m+k) W;generalize V+n%p2 k*p2 m=V1 at *
   generalize a9:m+k=m1 at *
   have hx:n/p2 k%2<=1:=by omega
   have bb:((n/p2 k:Nat):Int)<65536:=by omega
   have bc:=mh ((n/p2 k:Nat):Int) (Int.natCast_nonneg _) (Int.lt_trans bb (by omega));have b4:((n/p2 k:Nat):Int)%2=((n/p2 k%2:Nat):Int):=by omega
   rw[b4]at bc;have b7:p2 (m1%8)<=128:=uF (m1%8) 7 (by omega);have a2:n/p2 k%2*p2 (m1%8)<=1*p2 (m1%8):=a18 _ hx;have cp:((n/p2 k%2:Nat):Int)*(2:Int) ^ (m1%8)=((n/p2 k%2*p2 (m1%8):Nat):Int):=by rw[a2Z,jU]
   have K:n/p2 k%2*p2 (m1%8)=0∨n/p2 k%2*p2 (m1%8)=p2 (m1%8):=by
    rcases (show n/p2 k%2=0∨n/p2 k%2=1 by omega)with e|e<;>rw[e]<;>simp
   obtain⟨bs,b2⟩:=Qe V1 m1 (n/p2 k%2) W hx;have b3:=P8 V1 m1 W;have cy:=Eu (V1/p2 (8*(m1/8))) (n/p2 k%2*p2 (m1%8)) (m1%8) a8 (by omega) K;have H:=af (Qd V1 m1 W);have y:=af (Qa V1 m1);have O:(leS (m1/8+1) V1).length=m1/8+1:=aF _ _;have D:(leS ((m1+7)/8) V1).length=(m1+7)/8:=aF _ _;have F:m1<=100016:=by omega
   have z:V1/p2 (8*(m1/8))+n/p2 k%2*p2 (m1%8)<256:=by omega
   have a4:=oK _ z;have a6:(k:Int)<(c:Int):=by omega
   have ch:(k:Int)<=16:=by omega
   have be:(m1:Int)%8<8:=by omega
   have co:(m1:Int)<=100016:=by omega
   have cs:((n/p2 k%2*p2 (m1%8):Nat):Int)<=128:=by omega
   have cr:((n/p2 k%2:Nat):Int)<=1:=by omega
   have ac:=af a9;have HK:=af hk;have s:=af O;have T:=af D;have U:=af F;have an:=af bs;have ao:=af b2;have a0:=af b3;have aa:=af a4;have c5:=ae ad;clear ad b4 K a8 b7 a2 bs b2 b3 O D F z a4 b6 hx a9 hk W b5;generalize n/p2 k=nk at *
   generalize nk%2=x at *
   generalize x*p2 (m1%8)=X at *
   generalize V1/p2 (8*(m1/8))=L at *
   have l:=af bl;obtain⟨k0,k1,f0,f1,cg⟩:=bl;have a1:w.heap.size≠b:=by omega
   by_cases hr:m1%8=0
   .
    have b8:((m1:Int)%8 == 0)=true:=by simp;omega
    have bd:=af (ae H hr);clear hr H y be hm;have a7:(leS ((m1+7)/8) V1).length<=20000:=by have:=ae T;have:=ae U;omega
    have ab:=af a7;clear a7;go_wp2_with (at_builtin;refine a0B _ rfl _ _ 22 rfl (b+1) 5 i0 (.int .u8 0) 1 1 a06 hi b9 ca cc rfl (by decide) _ _ _ rfl (a0m a _) ⟨wr.heap.size,0,none⟩ 1 1 [.int .u8 0] rfl rfl (by intro j u hj;match j,hj with | 0,hj=>simp at hj;subst hj;simp[Addr.add]) (by intro u hu;simp at hu;subst hu;rfl) (by have:=ae ab;unfold maxLen;omega) (by have:=ae ab;omega) (by simp;omega) ?_;intro v' w' P q ba;clear ba;have B:=(d.alloc _).grown (a0m a _) q;have M:=(t.alloc (.cells #[.int .u8 0] 5)).grown (a0m a _) q;obtain⟨⟨g,cap,rfl⟩,T3,Y3,B3⟩:=Lo (x:=0) (ae l) a p ((a0c _ _).alloc (by omega) _) P q;clear P q a d p t l k0 k1 f0 f1;have T3':=af T3;obtain⟨k0,k1,f0,f1,a3⟩:=T3);have E:(leS ((m1+7)/8) V1).length+1=(leS (m1/8+1) V1).length:=by rw[←ae bd,a0i];rfl
    rw[E]at Y3 ⊢;have T4:=(ae T3').set0 (.slice (some ⟨g,0,none⟩) (leS (m1/8+1) V1).length cap);have a:=Y3.set (o:=0) (.slice (some ⟨g,0,none⟩) (leS (m1/8+1) V1).length cap);rw[ae bd]at a;have d:=B.set (b:=b) (o:=0) (by omega) (.slice (some ⟨g,0,none⟩) (leS (m1/8+1) V1).length cap);have t:=M.set (o:=0) (.slice (some ⟨g,0,none⟩) (leS (m1/8+1) V1).length cap);have p:Below b w _:=ai B3 (o:=0) (a0a _) (.slice (some ⟨g,0,none⟩) (leS (m1/8+1) V1).length cap);clear Y3 B3 T3' k0 k1 f0 f1 B M bc0 bc1 J E a3;generalize w'.setCell ⟨b,0,none⟩ (.slice (some ⟨g,0,none⟩) (leS (m1/8+1) V1).length cap)=wA at *
    have l:=af T4;obtain⟨k0,k1,f0,f1,a3⟩:=T4;obtain⟨bc0,bc1,J⟩:=d.cells;obtain⟨gc,gf,gb⟩:=a.at (j:=m1/8) (by have:=ae s;omega);rw[ae a0]at gc;have I:=af (a.put (j:=m1/8) (UInt8.ofNat (L+X)));have Y:g≠w.heap.size:=d.ne a g rfl;have R:=af a;have S:=af t;clear t;have f:=ae s;rw[f]at k0;generalize hN:m1/8+1=N at k0;have a5:(m1:Int)/8<(N:Int):=by omega
    clear hN f a
    go_region
    all_goals
     go_wp2;go_roundw
     case rel=>
      have r:=xe (ae l) (ae I) (ae an) (ae ao) (ae aa) gb Y a1 d p (ae R) (ae S);refine⟨k+1,by have:=ae HK;omega,by go_num,?_,r.2.1,r.2.2.1,r.2.2.2⟩;rw[ae Q,show m+(k+1)=m1+1 by have:=ae ac;omega];exact r.1
     case measure=>simp[intOf];omega
   .
    have b8:((m1:Int)%8 == 0)=false:=by simp;omega
    have bk:=ae y hr;rw[bk]at a k0 l;obtain⟨g,cap,hform⟩:∃g cap,Value.slice sa (leS (m1/8+1) V1).length scap = .slice (some ⟨g,0,none⟩) (leS (m1/8+1) V1).length cap:=by
     rcases a.2 with⟨_,h0⟩|⟨g,cap,_,e,_⟩
     . have:=ae s;omega
     . exact⟨g,cap,e⟩
    rw[hform]at a k0 l;obtain⟨gc,gf,gb⟩:=a.at (j:=m1/8) (by have:=ae s;omega);rw[ae a0]at gc;have I:=af (a.put (j:=m1/8) (UInt8.ofNat (L+X)));have Y:g≠w.heap.size:=d.ne a g rfl;have R:=af a;have S:=af t;clear t;have f:=ae s;rw[f]at k0;generalize hN:m1/8+1=N at k0;have a5:(m1:Int)/8<(N:Int):=by omega
    clear hN f hform bk hr H y a hm be;go_wp2_with fail
    go_region
    all_goals
     go_wp2;go_roundw
     case rel=>
      have r:=xe (ae l) (ae I) (ae an) (ae ao) (ae aa) gb Y a1 d p (ae R) (ae S);refine⟨k+1,by have:=ae HK;omega,by go_num,?_,r.2.1,r.2.2.1,r.2.2.2⟩;rw[ae Q,show m+(k+1)=m1+1 by have:=ae ac;omega];exact r.1
     case measure=>simp[intOf];omega
  .
   have a6:k=c:=by omega
   subst a6;rw[ae Z]at G;go_wp2;go_ret;exact⟨rfl,G,p,t⟩
def Ints(w:World)(b:Nat)(v:Value)(xs:List Int):Prop:=w.ownsRow (b+1) 3 1 v xs.length (xs.map (Value.int .i64))
theorem Ints.keep(h:Ints w b v xs)(f:bT b w w'):Ints w' b v xs:=by
 refine⟨h.1,?_⟩;rcases h.2 with e|⟨g,cap,a,e,hb,c,i⟩
 . exact .inl e
 . refine .inr ⟨g,cap,a,e,hb,?_,i⟩;rw[f.2 g (Array.getElem?_eq_some_iff.1 c).1 (by omega) (fun d fr=>by rw[c];simp)];exact c
theorem Bys.other{o:Value}(h:Bys w b v l)(p:Ints w c o xs)(n:w.grownBy w' o.ownBlock):Bys w' b v l:=by
 refine a1J h n ?_;cases f:v.ownBlock with
 | none=>exact .inl rfl
 | some k=>
  refine .inr (fun e=>?_);rcases h.2 with⟨e1,_⟩|⟨g,cap,m,e1,_,d,_⟩
  . subst e1;simp[Value.ownBlock]at f
  .
   rcases p.2 with⟨e2,_⟩|⟨g2,i,j,e2,_,a,_⟩
   . subst e2;simp[Value.ownBlock]at e
   . subst e1 e2;simp only[Value.ownBlock,a0k]at f e;subst f;subst e;rw[d]at a;simp at a
theorem j9.alloc(h:j9 w b V m)(o:Obj):j9 (w.alloc o) b V m:=by
 obtain⟨c,v,a,d⟩:=h;exact⟨c,v,a.kept ((a0c _ _).alloc (by have:=a.2.2.2.2;omega) _),a0m d _⟩
theorem j9.other{o:Value}(h:j9 w b V m)(c:Ints w b o xs)(a:w.grownBy w' o.ownBlock):j9 w' b V m:=by
 obtain⟨e,v,d,g⟩:=h;exact⟨e,v,d.kept ((a0c _ _).grown a (by have:=d.2.2.2.2;omega) (fun k f=>(a0E c k f).1)),g.other c a⟩
theorem j9.lt(h:j9 w b V m):b<w.heap.size:=by
 obtain⟨c,v,a,d⟩:=h;exact a.2.2.2.2
theorem GV(a:Addr)(w:World):(method 472 215 (.pointer (some a)) "loop.example/corbel/impl.pass").run prog w = .ok (304,.pointer (some a)) w:=by kernel_rfl
theorem F7(b:Nat)(a:Option Addr)(cap:Nat)(l:List (Int×Int))(w0 w:World)(h:nT w0 a l)(h0:Below b w0 w)(hs:w0.heap.size<=b)(hok:lOk l=true)(hw:j9 w b 0 0) :
  Calls prog 145 #[.slice a l.length cap,.func (.method "loop.example/corbel/impl.pass") #[.iface 215 (.pointer (some ⟨b,0,none⟩))] #[]] w fun e w'=>
   (∃v,e = .returned v)/\j9 w' b (aV l).1 (aV l).2/\Below b w w':=by
 simp only[lOk,a0j,a2A]at hok;obtain⟨hall,h4⟩:=hok;have hall':=af hall;have H4:=af h4;have h4':(l.length:Int)<=4000:=by omega
 clear hall h4;obtain⟨i0,hi,hz0,hz1,hz2⟩:=a0r Tryz.infoInt;have mp:=GV ⟨b,0,none⟩;go_enter func145,ntmps145;go_wp2_with fail
 go_loopw [5,7,10] (fun o _ i wr=>∃(k:Nat) (xs:List Int),k<=l.length/\i = .int .i64 k/\xs.length=k/\Ints wr b o xs/\j9 wr b (aV (l.take k)).1 (aV (l.take k)).2/\Below b w wr) (fun _ _ i _=>l.length-(intOf i).toNat)
 case atStart=>exact⟨0,[],a0g _,rfl,rfl,a00 _ _ _ _,hw,a0c _ _⟩
 case round=>
  obtain⟨k,xs,hk,rfl,hxs,hints,hout,hbel⟩:=hrel;have hltb:=hout.lt;by_cases hlt:k<l.length
  .
   obtain⟨g,o,rfl,hg,hc⟩:=(h.below hs (h0.trans hbel)) (by omega);obtain⟨c0,c1⟩:=hc k hlt;have hmb:=wZ (l.take k) (lD (ae hall') k);obtain⟨s0,s1⟩:=Ef (lD (ae hall') k);have s2:((l.take k).length:Int)<=4000:=by simp;omega
   have hml:Hid ((aV (l.take k)).2<=64000):=by show(aV (l.take k)).2<=64000;omega
   have hpk:=af (FD (ae hall') k hlt);have hstep:=af (IE l k hlt);have HK:=af hk;have HX:=af hxs;clear hmb s0 s1 s2 hc hk hxs hw;generalize (l.getD k (0,0)).1=x at *
   generalize (l.getD k (0,0)).2=y at *
   generalize aV (l.take k)=S at *
   go_wp2_with fail;refine(Lk b S.1 S.2 x y _ (hout.alloc _) (ae hpk) (by have:=ae hml;omega)).mono ?_;rintro e w1 ⟨rfl,hout1,hbel1,hkp1⟩;have hints1:Ints w1 b u5 xs:=Ints.keep (a0m hints _) hkp1;have hbel2:=(hbel.alloc (a0w hltb) (.cells #[.int .i64 x,.int .i64 y] 139)).trans hbel1;have hlt1:=hout1.lt;clear hout hints hbel hbel1 hkp1;go_wp2_with (at_builtin;refine a0B _ rfl _ _ 97 rfl (b+1) 3 i0 (.int .i64 0) 1 8 a0G hi hz0 hz1 hz2 rfl (by decide) _ _ _ rfl (a0m hints1 _) ⟨w1.heap.size,0,none⟩ 1 1 [.int .i64 x] rfl rfl (by intro j u hj;match j,hj with | 0,hj=>simp at hj;subst hj;simp[Addr.add]) (by intro u hu;simp at hu;subst hu;rfl) (by have:=ae HX;have:=ae H4;unfold maxLen;omega) (by have:=ae HX;have:=ae H4;omega) (by simp;omega) ?_;intro v' w2 hown hgrow hnil;clear hnil);have hout2:j9 w2 b _ _:=(hout1.alloc (.cells #[.int .i64 x] 3)).other (a0m hints1 _) hgrow;have hints2:Ints w2 b v' (xs++[x]):=by
    show World.ownsRow _ _ _ _ _ (xs++[x]).length _;simpa using hown
   have hbel3:Below b w w2:=(hbel2.alloc (a0w hlt1) _).grown hgrow (by simp;omega) (fun j hj=>a0w (a0E hints1 j hj).1);clear hown hgrow hints1 hout1 hbel2;go_wp2;go_roundw
   case rel=>exact⟨k+1,xs++[x],by have:=ae HK;omega,by go_num,by have:=ae HX;simp;omega,hints2,by rw[ae hstep];exact hout2,hbel3⟩
   case measure=>simp[intOf];omega
  .
   have hlk:Hid (l.take k=l):=a0o (by omega);clear h hw;obtain⟨va,vc,rfl⟩:∃va vc,u5 = .slice va xs.length vc:=by
    rcases hints.2 with⟨e,h0⟩|⟨g,cp,_,e,_⟩
    . exact⟨none,0,by rw[e,h0]⟩
    . exact⟨_,cp,e⟩
   go_wp2;go_ret;rw[ae hlk]at hout;exact⟨⟨_,rfl⟩,hout,hbel⟩
theorem IG(b:Nat)(a:Option Addr)(cap:Nat)(l:List (Int×Int))(w0 w:World)(h:nT w0 a l)(g:Below b w0 w)(i:w0.heap.size<=b)(f:lOk l=true)(j:j9 w b 0 0) :
  Calls prog 106 #[.iface 215 (.pointer (some ⟨b,0,none⟩)),.slice a l.length cap] w fun e w'=>
   (∃v,e = .returned v)/\j9 w' b (aV l).1 (aV l).2/\Below b w w':=by
 go_enter func106,ntmps106;go_wp2_with fail;refine(F7 b a cap l w0 _ h g i f j).mono ?_;rintro e w1 ⟨⟨v,rfl⟩,d,c⟩;go_wp2;go_ret;exact⟨⟨_,rfl⟩,d,c⟩
theorem Mr(w:World)(t:TypeId):j9 (w.alloc (.cells #[.slice none 0 0,.int .i64 0] t)) w.heap.size 0 0:=
 ⟨by decide,.slice none 0 0,⟨by simp,by simp,by simp,by simp,by simp⟩,a00 _ _ _ _⟩
theorem fI(a:Option Addr)(cap:Nat)(l:List (Int×Int))(w:World)(h:nT w a l)(m:l.length<=1000000000) :
  CD 116 #[.slice a l.length cap] w (.string ⟨(pt l).toArray⟩):=by
 cases b:lOk l
 . have i:=af (NP b);have g:=uk b;go_enter func116,ntmps116;go_wp2_with (go_at_call 105;refine(gO _ _ _ _ h m).mono ?_;rintro e w1 ⟨rfl,c⟩;rw[g]);go_ret;exact⟨Fl (a:=[]) (ae i).symm,c⟩
 .
  have i:=af (ea b);have g:=ww b;have d:aW l=true:=by simp only[lOk,a0j]at b;exact b.1
  obtain⟨s0,_⟩:=Ef d;generalize bP l=sb at *
  clear d;go_enter func116,ntmps116;go_wp2_with fail;refine(gO _ _ _ _ h m).mono ?_;rintro e w1 ⟨rfl,c⟩;rw[g];clear g;have o:=h.later c;go_wp2_with fail;refine(IG w1.heap.size a cap l w1 _ o ((a0c _ _).alloc (a0a _) _) (a0a _) b (Mr w1 _)).mono ?_;rintro e w2 ⟨⟨v0,rfl⟩,⟨_,v,T,Y⟩,j⟩;have k:=kX Y;obtain⟨va,vc,rfl⟩:=Y.form;obtain⟨k0,q,f0,f1,p⟩:=T;clear q Y;generalize f:(leS (((aV l).2+7)/8) (aV l).1)=res at *
  have n:Hid (res=pt l):=by have h:=ae i;rw[h,←f];exact rfl
  clear f;go_wp2;go_ret;exact⟨Fl (ae n),ah c (((a0c _ _).alloc (a0a _) _).trans j)⟩
theorem wn(q k V W:Nat)(a:V<2 ^ (8*q)):leS (q+k) (V+W*2 ^ (8*q))=leS q V++leS k W:=by
 induction k with
 | zero=>simp[leS,sx q V W (8*q) (a0a _)]
 | succ k ih=>
  rw[show q+(k+1)=(q+k)+1 by omega];simp only[leS];rw[ih,a0O]
  congr 3
  have e:2 ^ (8*(q+k))=2 ^ (8*q)*2 ^ (8*k):=by rw[←a0Q];congr 1;omega
  rw[e,←a17,Nat.add_mul_div_right _ _ (a1E _),a1T a,a0H]
theorem D5(V m:Nat)(l:List (Nat×Nat)):iu (V,m) l=(V+(iu (0,0) l).1*2 ^ m,m+(iu (0,0) l).2):=by
 have key:∀(l:List (Nat×Nat)) (W k:Nat),iu (V+W*2 ^ m,m+k) l=(V+(iu (W,k) l).1*2 ^ m,m+(iu (W,k) l).2):=by
  intro l;induction l with
  | nil=>intro W k;rfl
  | cons p l ih=>
   intro W k;simp only[iu];have e:V+W*2 ^ m+p.1*2 ^ (m+k)=V+(W+p.1*2 ^ k)*2 ^ m:=by
    rw[a1o,a0Q,a1G,a1d (2 ^ m)];omega
   rw[e,a14 m k p.2];exact ih _ _
 have:=key l 0 0;simpa using this
theorem mQ(l m:List (Int×Int)):aV (l++m)=((aV l).1+(aV m).1*2 ^ (aV l).2,(aV l).2+(aV m).2):=by
 rw[aV,nE,a0I,mG];exact D5 _ _ _
theorem oH(l m:List (Int×Int)):aW (l++m)=(aW l&&aW m):=by simp[aW]
theorem Fx(f b:List (Int×Int))(d:lOk f=true)(hb:lOk b=true)(l:f.length+b.length<=4000)(i:(aV f).2%8=0):pt (f++b)=pt f++pt b:=by
 have a:aW f=true:=by simp only[lOk,a0j]at d;exact d.1
 have c:aW b=true:=by simp only[lOk,a0j]at hb;exact hb.1
 have h:lOk (f++b)=true:=by
  simp only[lOk,a0j,a2A,oH];exact⟨⟨a,c⟩,by simpa using l⟩
 rw[ea h,ea d,ea hb,cz,cz,cz,mQ];have g:=yJ f a;generalize aV f=F at *
 generalize aV b=B at *
 obtain⟨V,m⟩:=F;obtain⟨W,k⟩:=B;have j:m%8=0:=i;have e:m=8*(m/8):=by omega
 show leS ((m+k+7)/8) (V+W*2 ^ m)=leS ((m+7)/8) V++leS ((k+7)/8) W;rw[show(m+k+7)/8=m/8+(k+7)/8 by omega,show(m+7)/8=m/8 by omega];have:=wn (m/8) ((k+7)/8) V W (by rw[←e];exact g);rw[←e]at this;exact this
theorem Kl(V:Nat):leS 4 V=leS 2 (V%65536)++leS 2 (V/65536):=by
 have:=wn 2 2 (V%65536) (V/65536) (a1t _ (by decide));rw[←this]
 congr 1
 show V=V%65536+V/65536*2 ^ 16;omega
def er(ws:List Nat):List (Int×Int):=ws.map fun(x:Nat)=>(((x:Nat):Int),(16:Int))
theorem BV{ws:List Nat}(h:∀x∈ws,x<65536)(c:ws.length<=100):lOk (er ws)=true:=by
 unfold lOk;simp only[a0j,a0p];refine⟨?_,by unfold er;rw[a0N];omega⟩;unfold aW er;rw[List.all_map,a03];intro x b;have a:p2 (16:Int).toNat=65536:=by decide
 have:=h x b;show pOk ((x:Nat):Int) 16=true;exact aP.2 ⟨by omega,by omega,by rw[a];omega⟩
theorem II{ws:List Nat}(h:∀x∈ws,x<65536)(b:ws.length<=100):pt (er ws)=ws.flatMap (leS 2):=by
 induction ws with
 | nil=>decide
 | cons x ws ih=>
  have d:x<65536:=h x (by simp);have c:lOk (er [x])=true:=BV (fun y a=>by rw[a01.1 a];exact d) (by simp);have h2:lOk (er ws)=true:=BV (fun y a=>h y (by simp[a])) (by simp at b;omega);have e:er (x :: ws)=er [x]++er ws:=rfl;have e1:aV (er [x])=(x,16):=by simp[aV,nE,iu,er]
  rw[e,Fx _ _ c h2 (by unfold er;simp at b ⊢;omega) (by rw[e1];exact(by decide:(16:Nat)%8=0)),ih (fun y a=>h y (by simp[a])) (by simp at b;omega),ea c,cz,e1,a0S];show leS ((16+7)/8) x++_=_;rw[show(16+7)/8=2 by decide]
theorem aS(V many:Nat)(w:World)(M:V<1099511627776)(P:many<=10) :
  CD 83 #[.int .i64 (V:Int),.int .i64 (many:Int)] w (.string ⟨(leS many V).toArray⟩):=by
 obtain⟨i0,H,A,B,C⟩:=a0r Tryz.infoU8;have J:(many:Int)<=10:=by omega
 have p:Hid (bU (w.alloc (.cells #[] 5)) w.heap.size (.slice (some ⟨w.heap.size,0,none⟩) 0 0) (leS 0 V)):=bU.lit _ _ (a0a _);have j:Hid (Below w.heap.size w (w.alloc (.cells #[] 5))):=(a0c _ _).alloc (a0a _) _;go_enter func83,ntmps83;go_wp2_with fail
 go_loopw [0,5,6] (fun x v i wr=>∃k:Nat,k<=many/\i = .int .i64 k/\x = .int .i64 ((V/2 ^ (8*k):Nat):Int)/\bU wr w.heap.size v (leS k V)/\Below w.heap.size w wr) (fun _ _ i _=>many-(intOf i).toNat)
 case atStart=>exact⟨0,a0g _,rfl,by simp,ae p,ae j⟩
 case round=>
  obtain⟨k,O,rfl,rfl,hq,a⟩:=hrel;have e:Hid ((leS k V).length=k):=aF k V;obtain⟨va,vc,rfl⟩:=hq.formN (ae e);clear p j;by_cases I:k<many
  .
   have n:(k:Int)<(many:Int):=by omega
   have N:V/2 ^ (8*k)<=V:=a2k _ _;have s:Hid (leS k V++[UInt8.ofNat (V/2 ^ (8*k)%256)]=leS (k+1) V):=rfl;have m:Hid (V/2 ^ (8*k)/256=V/2 ^ (8*(k+1))):=by show _=_;rw[a17,show 8*(k+1)=8*k+8 by omega,a0Q]
   generalize V/2 ^ (8*k)=x at *
   have K:(x:Int)<=1099511627776:=by omega
   obtain⟨y,hy⟩:∃y,x%256=y:=⟨_,rfl⟩;have u:(x:Int)%256=(y:Int):=by omega
   have L:Int.tmod (x:Int) 256=(y:Int):=by rw[a2E (by omega)];exact u
   have Q:IntKind.u8.wrap (y:Int)=(y:Int):=by simp only[IntKind.wrap,IntKind.bits,IntKind.signed];simp;omega
   have z:((UInt8.ofNat y).toNat:Int)=(y:Int):=by rw[UInt8.toNat_ofNat'];omega
   obtain⟨d,hd⟩:∃d,x/256=d:=⟨_,rfl⟩;have G:(x:Int)/256=(d:Int):=by omega
   rw[hy]at s;rw[hd]at m;have D:Hid (k+1<=maxLen/\(k+1)*1<=140737488355328):=by show _/\_;unfold maxLen;omega
   have r:=af (hq.own (ae e));have l:=a.size;have h:=af a;clear hq a hy hd;go_wp2_with (at_builtin;refine a0B _ rfl _ _ 22 rfl w.heap.size 5 i0 (.int .u8 0) 1 1 a06 H A B C rfl (by decide) _ _ _ rfl (a0m (ae r) _) ⟨wr.heap.size,0,none⟩ 1 1 [.int .u8 (y:Int)] rfl rfl (dB _ _ rfl _ _) (one_byte _) (ae D).1 (ae D).2 (au l _) ?_;intro v' x2 g c o;clear o);have t:=aH (v:=.slice va k vc) c (ae r) (a0a _) l (ae h);have f:World.ownsRow x2 w.heap.size 5 1 v' (k+1) (cY (leS k V)++[.int .u8 ((UInt8.ofNat y).toNat:Int)]):=by rw[z];exact g
   have q:=km (b:=UInt8.ofNat y) (ae e) f;rw[ae s]at q;clear g f c;go_wp2;go_roundw
   case rel=>exact⟨k+1,by omega,by go_num,by rw[←ae m],q,t⟩
   case measure=>simp[intOf];omega
  .
   obtain rfl:k=many:=by omega
   have n:¬ (k:Int)<(k:Int):=by omega
   have F:=hq.text;have E:=af a;clear hq a;go_wp2;go_ret;exact⟨rfl,ae E⟩
def cP(ws:List Nat):List Int:=ws.map fun(x:Nat)=>((x:Nat):Int)
theorem IH(ws:List Nat)(k:Nat)(h:k<ws.length):(cP ws).getD k 0=((ws.getD k 0:Nat):Int):=by
 unfold cP;simp[List.getD,h]
theorem Ex(ws:List Nat)(k:Nat)(h:k<ws.length):er (ws.take (k+1))=er (ws.take k)++[(((ws.getD k 0:Nat):Int),(16:Int))]:=by
 unfold er;rw[a09 h,a0I];simp[List.getD,h]
theorem Mq(x:Int)(w:World):CD 117 #[.int .i64 x] w (.agg #[.int .i64 x,.int .i64 16]):=by
 go_enter func117,ntmps117;go_wp2;refine a0u (v:=.agg #[.int .i64 x,.int .i64 16]) (by simp[results,results117,go_sem]) rfl ⟨rfl,?_⟩;exact(a0c _ _).alloc (a0a _) _
theorem C8(a:Option Addr)(cap n:Nat)(ws:List Nat)(w:World)(B:ws.length=n)(h:bo w a (cP ws))(I:n<=100) :
  Calls prog 103 #[.slice a n cap,.func (.func 117) #[] #[]] w fun e w'=>∃v,e = .returned v/\Pcs w' w.heap.size v (er ws)/\Below w.heap.size w w':=by
 have O:(n:Int)<=100:=by omega
 have x:=af B;have M:=af I;have G:Hid ((cP ws).length=n):=by show _=_;unfold cP;rw[a0N];exact B
 clear B I;obtain⟨i0,N,D,E,F⟩:=a0r Tryz.infoPiece;go_enter func103,ntmps103;go_wp2_with fail
 go_loopw [5,7,10] (fun o _ i wr=>∃k:Nat,k<=n/\i = .int .i64 k/\Pcs wr w.heap.size o (er (ws.take k))/\Below w.heap.size w wr) (fun _ _ i _=>n-(intOf i).toNat)
 case atStart=>exact⟨0,a0g _,rfl,a00 _ _ _ _,a0c _ _⟩
 case round=>
  obtain⟨k,H,rfl,hq,b⟩:=hrel;by_cases p:k<n
  .
   obtain⟨g,o,rfl,P,r⟩:=(h.later b) (by rw[ae G];omega);have c0:=r k (by rw[ae G];exact p);rw[IH ws k (by rw[ae x];exact p)]at c0;have C:=af (Ex ws k (by rw[ae x];exact p));have A:Hid ((er (ws.take k)).length=k):=by show _=_;unfold er;have:=ae x;simp;omega
   have L:=af H;clear r H h;generalize ((ws.getD k 0:Nat):Int)=y at *
   have HP:=af (Mq y wr);go_wp2_with fail;refine(ae HP).mono ?_;rintro e x1 ⟨rfl,m⟩;have q:=Pcs.later hq m (a0a _);have c:=ah b m;have j:=c.size;have f:Hid ((er (ws.take k)).length+1<=maxLen/\((er (ws.take k)).length+1)*16<=140737488355328):=by
    show _/\_;rw[ae A];have:=ae M;unfold maxLen;omega
   clear hq b m HP;go_wp2_with (at_builtin;refine a0B _ rfl _ _ 136 rfl w.heap.size 139 i0 (.agg #[.int .i64 0,.int .i64 0]) 2 16 a1q N D E F rfl (by decide) _ _ _ rfl (a0m q _) ⟨x1.heap.size,0,none⟩ 1 1 [.int .i64 y,.int .i64 16] rfl rfl (sH x1 _ _ _) (sG _ _) (ae f).1 (ae f).2 (au j _) ?_;intro v' x2 l d t;clear t);have z:=aH (v:=u5) d q (a0a _) j c;have u:=mF l;rw[←ae C]at u;clear l d q;go_wp2;go_roundw
   case rel=>exact⟨k+1,by have:=ae L;omega,by go_num,u,z⟩
   case measure=>simp[intOf];omega
  . have s:ws.take k=ws:=a0o (by rw[ae x];omega);rw[s]at hq;have K:=af hq;have J:=af b;clear hq b s;go_wp2;go_ret;exact⟨_,rfl,ae K,ae J⟩
theorem dC(a:Option Addr)(cap n:Nat)(ws:List Nat)(w:World)(l:ws.length=n)(h:bo w a (cP ws))(k:n<=100)(p:∀x∈ws,x<65536) :
  CD 77 #[.slice a n cap] w (.string ⟨(ws.flatMap (leS 2)).toArray⟩):=by
 have m:=af (C8 a cap n ws w l h k);have r:=af (II p (by omega));have o:(er ws).length=n:=by unfold er;rw[a0N];exact l
 have d:=af o;have s:=af k;clear l h k p o;go_enter func77,ntmps77;go_wp2_with fail;refine(ae m).mono ?_;rintro e w1 ⟨v,rfl,j,b⟩;obtain⟨a1,c1,rfl⟩:=j.formN (ae d);have g:=fI a1 c1 (er ws) w1 (j.rowN (ae d)) (by have:=ae d;have:=ae s;omega);rw[ae r,ae d]at g;have i:=af g;have q:=af b;clear j b g m;go_wp2_with fail;refine(ae i).mono ?_;rintro e w2 ⟨rfl,c⟩;have f:=af (ah (ae q) c);clear c;go_wp2;go_ret;exact⟨rfl,ae f⟩
theorem dA(V:Nat)(w:World)(k:V<4294967296) :
  CD 78 #[.int .i64 (V:Int)] w (.string ⟨(leS 4 V).toArray⟩):=by
 have e1:bits .and .i64 (V:Int) 65535=((V%65536:Nat):Int):=by
  have:=zS (V:Int) (by omega) (by omega);rw[this];omega
 have d:Hid ([V%65536,V/65536].flatMap (leS 2)=leS 4 V):=by
  show _=_;rw[Kl];simp
 have hq:V/65536<65536:=by omega
 have f:Hid (bo (w.alloc (.cells #[.int .i64 ((V%65536:Nat):Int),.int .i64 ((V/65536:Nat):Int)] 3)) (some ⟨w.heap.size,0,none⟩) (cP [V%65536,V/65536])):=by
  intro _;refine⟨w.heap.size,0,rfl,by simp,fun i j=>?_⟩
  match i,j with
  | 0,_=>simp[cP]
  | 1,_=>simp[cP]
 have c:=af (dC (some ⟨w.heap.size,0,none⟩) 2 2 [V%65536,V/65536] _ rfl (ae f) (by omega) (fun x b=>by
  simp only[a0U,List.mem_nil_iff,a1n]at b;rcases b with rfl|rfl
  . exact a1t _ (by decide)
  . exact hq))
 rw[ae d]at c;have g:Hid (Below w.heap.size w (w.alloc (.cells #[.int .i64 ((V%65536:Nat):Int),.int .i64 ((V/65536:Nat):Int)] 3))):=(a0c _ _).alloc (a0a _) _;generalize b:V%65536=x at *
 generalize l:V/65536=y at *
 have e2:(V:Int)/65536=(y:Int):=by omega
 clear d f b;go_enter func78,ntmps78;go_wp2_with fail;refine(ae c).mono ?_;rintro e w1 ⟨rfl,a⟩;have h:=af (ah (ae g) a);clear a;go_wp2;go_ret;exact⟨rfl,ae h⟩
def MB(W:World)(g:Nat)(how st crc pk lg:Nat)(nm:ByteArray):Prop:=W.cell? ⟨g,0,none⟩=some (.int .i64 (how:Nat))/\W.cell? ⟨g,1,none⟩=some (.int .i64 (st:Nat))/\W.cell? ⟨g,2,none⟩=some (.int .i64 (crc:Nat))/\W.cell? ⟨g,3,none⟩=some (.int .i64 (pk:Nat))/\W.cell? ⟨g,4,none⟩=some (.int .i64 (lg:Nat))/\W.cell? ⟨g,5,none⟩=some (.string nm)
def vn(w:World)(how st crc pk lg:Nat)(nm:ByteArray)(W:World):Prop:=Below w.heap.size w W/\w.heap.size<W.heap.size/\MB W w.heap.size how st crc pk lg nm
theorem vn.later{W':World}(h:vn w how st crc pk lg nm W)(hb:Below W.heap.size W W'):vn w how st crc pk lg nm W':=by
 have a:∀j,W'.cell? ⟨w.heap.size,j,none⟩=W.cell? ⟨w.heap.size,j,none⟩:=fun j=>hb.cell (p:=⟨w.heap.size,j,none⟩) h.2.1;exact⟨h.1.trans (hb.mono (a0w h.2.1)),a0h h.2.1 hb.size,(a 0).trans h.2.2.1,(a 1).trans h.2.2.2.1,(a 2).trans h.2.2.2.2.1,(a 3).trans h.2.2.2.2.2.1,(a 4).trans h.2.2.2.2.2.2.1,(a 5).trans h.2.2.2.2.2.2.2⟩
theorem Iq(W:World)(x y z:Nat):bo (W.alloc (.cells #[.int .i64 ((x:Nat):Int),.int .i64 ((y:Nat):Int),.int .i64 ((z:Nat):Int)] 3)) (some ⟨W.heap.size,0,none⟩) (cP [x,y,z]):=by
 intro _;refine⟨W.heap.size,0,rfl,by simp,fun i a=>?_⟩
 match i,a with
 | 0,_=>simp[cP]
 | 1,_=>simp[cP]
 | 2,_=>simp[cP]
theorem Oe(W:World)(x y:Nat):bo (W.alloc (.cells #[.int .i64 ((x:Nat):Int),.int .i64 ((y:Nat):Int)] 3)) (some ⟨W.heap.size,0,none⟩) (cP [x,y]):=by
 intro _;refine⟨W.heap.size,0,rfl,by simp,fun i a=>?_⟩
 match i,a with
 | 0,_=>simp[cP]
 | 1,_=>simp[cP]
def vm(w:World)(how st crc pk lg:Nat)(nm:ByteArray)(W:World)(r0 r1:Option Nat):Prop:=vn w how st crc pk lg nm W/\(∀g,r0=some g->bo W (some ⟨g,0,none⟩) (cP [20,0,how]))/\∀g,r1=some g->bo W (some ⟨g,0,none⟩) (cP [nm.size,0])
theorem vm.later{W':World}{a b:Option Nat}(h:vm w how st crc pk lg nm W a b)(hb:Below W.heap.size W W'):vm w how st crc pk lg nm W' a b:=⟨h.1.later hb,fun g e=>(h.2.1 g e).later hb,fun g e=>(h.2.2 g e).later hb⟩
theorem vm.new0{a:Option Nat}(h:vm w how st crc pk lg nm W none a):vm w how st crc pk lg nm (W.alloc (.cells #[.int .i64 20,.int .i64 0,.int .i64 ((how:Nat):Int)] 3)) (some W.heap.size) a:=by
 have h2:=h.later ((a0c W.heap.size W).alloc (a0a _) (.cells #[.int .i64 20,.int .i64 0,.int .i64 ((how:Nat):Int)] 3));exact⟨h2.1,fun g e=>by cases e;exact Iq W 20 0 how,h2.2.2⟩
theorem vm.new1{a:Option Nat}(h:vm w how st crc pk lg nm W a none):vm w how st crc pk lg nm (W.alloc (.cells #[.int .i64 ((nm.size:Nat):Int),.int .i64 0] 3)) a (some W.heap.size):=by
 have h2:=h.later ((a0c W.heap.size W).alloc (a0a _) (.cells #[.int .i64 ((nm.size:Nat):Int),.int .i64 0] 3));exact⟨h2.1,h2.2.1,fun g e=>by cases e;exact Oe W nm.size 0⟩
def az(l:List UInt8):ByteArray:=⟨l.toArray⟩
def fj(how st crc pk lg n:Nat):ByteArray:=az ([20,0,how].flatMap (leS 2))++az (leS 4 st)++az (leS 4 crc)++az (leS 4 pk)++az (leS 4 lg)++az ([n,0].flatMap (leS 2))
theorem BK(how st crc pk lg:Nat)(nm:ByteArray)(w:World)(A:how<65536)(u:st<4294967296)(h2:crc<4294967296)(y:pk<4294967296)(z:lg<4294967296)(B:nm.size<65536) :
  CD 100 #[.agg #[.int .i64 (how:Nat),.int .i64 (st:Nat),.int .i64 (crc:Nat),.int .i64 (pk:Nat),.int .i64 (lg:Nat),.string nm]] w (.string (fj how st crc pk lg nm.size)):=by
 have p:prog.follows .mixedOrders=true:=by kernel_rfl
 have q:Hid (∀g W,bo W (some ⟨g,0,none⟩) (cP [20,0,how])->CD 77 #[.slice (some ⟨g,0,none⟩) 3 3] W (.string (az ([20,0,how].flatMap (leS 2))))):=fun g W h=>dC _ 3 3 [20,0,how] W rfl h (by omega) (fun x t=>by simp at t;omega);have r:Hid (∀g W,bo W (some ⟨g,0,none⟩) (cP [nm.size,0])->CD 77 #[.slice (some ⟨g,0,none⟩) 2 2] W (.string (az ([nm.size,0].flatMap (leS 2))))):=fun g W h=>dC _ 2 2 [nm.size,0] W rfl h (by omega) (fun x t=>by simp at t;omega);have k:Hid (∀W,CD 78 #[.int .i64 (st:Int)] W (.string (az (leS 4 st)))):=fun W=>dA st W u;have m:Hid (∀W,CD 78 #[.int .i64 (crc:Int)] W (.string (az (leS 4 crc)))):=fun W=>dA crc W h2;have n:Hid (∀W,CD 78 #[.int .i64 (pk:Int)] W (.string (az (leS 4 pk)))):=fun W=>dA pk W y;have o:Hid (∀W,CD 78 #[.int .i64 (lg:Int)] W (.string (az (leS 4 lg)))):=fun W=>dA lg W z;have j:∀l:List UInt8,(az l).size=l.length:=fun l=>by simp[az,ByteArray.size]
 have z0:((az ([20,0,how].flatMap (leS 2))).size:Int)<=100:=by rw[j];simp[aF]
 have z5:((az ([nm.size,0].flatMap (leS 2))).size:Int)<=100:=by rw[j];simp[aF]
 have z1:((az (leS 4 st)).size:Int)<=100:=by rw[j,aF];omega
 have z2:((az (leS 4 crc)).size:Int)<=100:=by rw[j,aF];omega
 have z3:((az (leS 4 pk)).size:Int)<=100:=by rw[j,aF];omega
 have z4:((az (leS 4 lg)).size:Int)<=100:=by rw[j,aF];omega
 unfold fj;generalize az ([20,0,how].flatMap (leS 2))=A0 at *
 generalize az ([nm.size,0].flatMap (leS 2))=A5 at *
 generalize az (leS 4 st)=A1 at *
 generalize az (leS 4 crc)=A2 at *
 generalize az (leS 4 pk)=A3 at *
 generalize az (leS 4 lg)=A4 at *
 have C:(nm.size:Int)<65536:=by omega
 have T0':Hid (vn w how st crc pk lg nm (w.alloc (.cells #[.int .i64 (how:Nat),.int .i64 (st:Nat),.int .i64 (crc:Nat),.int .i64 (pk:Nat),.int .i64 (lg:Nat),.string nm] 53))):=⟨(a0c _ _).alloc (a0a _) _,by simp,by simp,by simp,by simp,by simp,by simp,by simp⟩;clear A u h2 y z B j;go_enter func100,ntmps100;go_wp2_with fail;obtain⟨W0,hW0⟩:∃x,w.alloc (.cells #[.int .i64 (how:Nat),.int .i64 (st:Nat),.int .i64 (crc:Nat),.int .i64 (pk:Nat),.int .i64 (lg:Nat),.string nm] 53)=x:=⟨_,rfl⟩;rw[hW0]at T0';rw[hW0];have T0:=T0';clear T0' hW0;refine wp_region_held_drew (S:=fun W=>MB W w.heap.size how st crc pk lg nm) p (ae T0).2.2 (fun c=>?_);refine ag 0 (.pointer (some ⟨w.heap.size,0,none⟩)) rfl (by kernel_rfl) (fun _ _ _ h=>h) rfl (fun W a=>by obtain⟨s0,s1,s2,s3,s4,s5⟩:=a;go_simp) c ?_;refine ag 1 (.int .i64 (how:Nat)) rfl (by kernel_rfl) (fun _ _ _ h=>h) rfl (fun W a=>by obtain⟨s0,s1,s2,s3,s4,s5⟩:=a;go_simp) c ?_;refine ag 4 (.pointer (some ⟨w.heap.size,1,none⟩)) rfl (by kernel_rfl) (fun _ _ _ h=>h) rfl (fun W a=>by obtain⟨s0,s1,s2,s3,s4,s5⟩:=a;go_simp) c ?_;refine ag 5 (.int .i64 (st:Nat)) rfl (by kernel_rfl) (fun _ _ _ h=>h) rfl (fun W a=>by obtain⟨s0,s1,s2,s3,s4,s5⟩:=a;go_simp) c ?_;refine ag 8 (.pointer (some ⟨w.heap.size,2,none⟩)) rfl (by kernel_rfl) (fun _ _ _ h=>h) rfl (fun W a=>by obtain⟨s0,s1,s2,s3,s4,s5⟩:=a;go_simp) c ?_;refine ag 9 (.int .i64 (crc:Nat)) rfl (by kernel_rfl) (fun _ _ _ h=>h) rfl (fun W a=>by obtain⟨s0,s1,s2,s3,s4,s5⟩:=a;go_simp) c ?_;refine ag 12 (.pointer (some ⟨w.heap.size,3,none⟩)) rfl (by kernel_rfl) (fun _ _ _ h=>h) rfl (fun W a=>by obtain⟨s0,s1,s2,s3,s4,s5⟩:=a;go_simp) c ?_;refine ag 13 (.int .i64 (pk:Nat)) rfl (by kernel_rfl) (fun _ _ _ h=>h) rfl (fun W a=>by obtain⟨s0,s1,s2,s3,s4,s5⟩:=a;go_simp) c ?_;refine ag 16 (.pointer (some ⟨w.heap.size,4,none⟩)) rfl (by kernel_rfl) (fun _ _ _ h=>h) rfl (fun W a=>by obtain⟨s0,s1,s2,s3,s4,s5⟩:=a;go_simp) c ?_;refine ag 17 (.int .i64 (lg:Nat)) rfl (by kernel_rfl) (fun _ _ _ h=>h) rfl (fun W a=>by obtain⟨s0,s1,s2,s3,s4,s5⟩:=a;go_simp) c ?_;refine ag 20 (.pointer (some ⟨w.heap.size,5,none⟩)) rfl (by kernel_rfl) (fun _ _ _ h=>h) rfl (fun W a=>by obtain⟨s0,s1,s2,s3,s4,s5⟩:=a;go_simp) c ?_;refine ag 21 (.string nm) rfl (by kernel_rfl) (fun _ _ _ h=>h) rfl (fun W a=>by obtain⟨s0,s1,s2,s3,s4,s5⟩:=a;go_simp) c ?_;refine ag 22 (.int .i64 (nm.size:Nat)) rfl (by kernel_rfl) (fun _ _ _ h=>h) rfl (fun W a=>by obtain⟨s0,s1,s2,s3,s4,s5⟩:=a;go_simp) c ?_;have b:vm w how st crc pk lg nm W0.drew none none:=⟨⟨(ae T0).1.drew,(ae T0).2.1,(ae T0).2.2⟩,nofun,nofun⟩;generalize W0.drew=W at b c ⊢;refine wpAnyH_ready (rs:=[2,23]) (by kernel_rfl) (by simp) ?_;repeat' first
  | exact AllReadyH.nil
  | refine AllReadyH.cons rfl (fun K d=>?_) ?_
  | (refine iN 5 rfl ?_;go_simp;have b:=b.new0;refine Shut.out d _ _ b.1.2.2 (fun c=>?_);clear d K;generalize W.alloc (.cells #[.int .i64 20,.int .i64 0,.int .i64 ((how:Nat):Int)] 3)=V at b c ⊢;generalize W.heap.size=g at b ⊢;revert V;intro W c b;(first|refine wpAnyH_ready (rs:=[3,23]) (by decide +kernel) (by simp) ?_|refine wpAnyH_ready (rs:=[3]) (by decide +kernel) (by simp) ?_))
  | (refine iN 26 rfl ?_;go_simp;have b:=b.new1;refine Shut.out d _ _ b.1.2.2 (fun c=>?_);clear d K;generalize W.alloc (.cells #[.int .i64 ((nm.size:Nat):Int),.int .i64 0] 3)=V at b c ⊢;generalize W.heap.size=g at b ⊢;revert V;intro W c b;(first|refine wpAnyH_ready (rs:=[2]) (by decide +kernel) (by simp) ?_|refine wpAnyH_ready (rs:=[3]) (by decide +kernel) (by simp) ?_|refine wpAnyH_ready (rs:=[6]) (by decide +kernel) (by simp) ?_|refine wpAnyH_ready (rs:=[10]) (by decide +kernel) (by simp) ?_|refine wpAnyH_ready (rs:=[14]) (by decide +kernel) (by simp) ?_|refine wpAnyH_ready (rs:=[18]) (by decide +kernel) (by simp) ?_|refine wpAnyH_ready (rs:=[24]) (by decide +kernel) (by simp) ?_))
  | (refine iN 6 rfl ?_;go_simp;go_at_call 77;refine(ae q _ _ (b.2.1 _ rfl)).mono ?_;rintro e W ⟨rfl,f⟩;have b:=b.later f;refine Shut.out d _ _ b.1.2.2 (fun c=>?_);clear d K;clear f;(first|refine wpAnyH_ready (rs:=[6,23]) (by decide +kernel) (by simp) ?_|refine wpAnyH_ready (rs:=[6]) (by decide +kernel) (by simp) ?_))
  | (refine iN 9 rfl ?_;go_simp;go_at_call 78;refine(ae k _).mono ?_;rintro e W ⟨rfl,f⟩;have b:=b.later f;refine Shut.out d _ _ b.1.2.2 (fun c=>?_);clear d K;clear f;refine wpAnyH_take (i:=7) (v:=.string (A0++A1)) rfl (by kernel_rfl) (by kernel_rfl) (by kernel_rfl) (fun _ _ _ h=>h) (a0x ⟨by rfl,fun W a=>by go_simp<;>omega⟩) c ?_;(first|refine wpAnyH_ready (rs:=[10,23]) (by decide +kernel) (by simp) ?_|refine wpAnyH_ready (rs:=[10]) (by decide +kernel) (by simp) ?_))
  | (refine iN 13 rfl ?_;go_simp;go_at_call 78;refine(ae m _).mono ?_;rintro e W ⟨rfl,f⟩;have b:=b.later f;refine Shut.out d _ _ b.1.2.2 (fun c=>?_);clear d K;clear f;refine wpAnyH_take (i:=11) (v:=.string (A0++A1++A2)) rfl (by kernel_rfl) (by kernel_rfl) (by kernel_rfl) (fun _ _ _ h=>h) (a0x ⟨by rfl,fun W a=>by go_simp<;>omega⟩) c ?_;(first|refine wpAnyH_ready (rs:=[14,23]) (by decide +kernel) (by simp) ?_|refine wpAnyH_ready (rs:=[14]) (by decide +kernel) (by simp) ?_))
  | (refine iN 17 rfl ?_;go_simp;go_at_call 78;refine(ae n _).mono ?_;rintro e W ⟨rfl,f⟩;have b:=b.later f;refine Shut.out d _ _ b.1.2.2 (fun c=>?_);clear d K;clear f;refine wpAnyH_take (i:=15) (v:=.string (A0++A1++A2++A3)) rfl (by kernel_rfl) (by kernel_rfl) (by kernel_rfl) (fun _ _ _ h=>h) (a0x ⟨by rfl,fun W a=>by go_simp<;>omega⟩) c ?_;(first|refine wpAnyH_ready (rs:=[18,23]) (by decide +kernel) (by simp) ?_|refine wpAnyH_ready (rs:=[18]) (by decide +kernel) (by simp) ?_))
  | (refine iN 21 rfl ?_;go_simp;go_at_call 78;refine(ae o _).mono ?_;rintro e W ⟨rfl,f⟩;have b:=b.later f;refine Shut.out d _ _ b.1.2.2 (fun c=>?_);clear d K;clear f;refine wpAnyH_take (i:=19) (v:=.string (A0++A1++A2++A3++A4)) rfl (by kernel_rfl) (by kernel_rfl) (by kernel_rfl) (fun _ _ _ h=>h) (a0x ⟨by rfl,fun W a=>by go_simp<;>omega⟩) c ?_;(first|refine wpAnyH_ready (rs:=[23]) (by decide +kernel) (by simp) ?_|refine wpAnyH_ready (rs:=[24]) (by decide +kernel) (by simp) ?_))
  | (refine iN 27 rfl ?_;go_simp;go_at_call 77;refine(ae r _ _ (b.2.2 _ rfl)).mono ?_;rintro e W ⟨rfl,f⟩;have b:=b.later f;refine Shut.out d _ _ b.1.2.2 (fun c=>?_);clear d K;clear f;refine wpAnyH_take (i:=25) (v:=.string (A0++A1++A2++A3++A4++A5)) rfl (by kernel_rfl) (by kernel_rfl) (by kernel_rfl) (fun _ _ _ h=>h) (a0x ⟨by rfl,fun W a=>by go_simp<;>omega⟩) c ?_;refine wpAnyH_ready (rs:=[26]) (by kernel_rfl) (by simp) ?_)
  | (refine iN 2 rfl ?_;go_simp;refine Shut.out d _ _ b.1.2.2 (fun c=>?_);clear d K;refine wpAnyH_done (by kernel_rfl) ?_ _;generalize s:A0++A1++A2++A3++A4++A5=AA;go_wp2;go_ret;exact⟨by subst s;rfl,b.1.1⟩)
theorem bL(l:List UInt8):(az l).size=l.length:=by simp[az,ByteArray.size]
theorem dW(how st crc pk lg n:Nat):(fj how st crc pk lg n).size=26:=by
 unfold fj;rw[a0t,a0t,a0t,a0t,a0t];simp only[bL,a0S,a2f,a0i,aF,a0R]
def cb(how st crc pk lg:Nat)(nm:ByteArray):ByteArray:=(⟨#[80,75,3,4]⟩:ByteArray)++fj how st crc pk lg nm.size++nm
theorem zQ(how st crc pk lg:Nat)(nm f:ByteArray)(w:World)(k:how<65536)(l:st<4294967296)(h2:crc<4294967296)(m:pk<4294967296)(n:lg<4294967296)(o:nm.size<65536) :
  CD 60 #[.agg #[.int .i64 (how:Nat),.int .i64 (st:Nat),.int .i64 (crc:Nat),.int .i64 (pk:Nat),.int .i64 (lg:Nat),.string nm,.string f]] w (.string (cb how st crc pk lg nm)):=by
 have j:=af (fun W=>BK how st crc pk lg nm W k l h2 m n o);have d:prog.follows .mixedOrders=true:=by kernel_rfl
 obtain⟨A,hA⟩:∃A,fj how st crc pk lg nm.size=A:=⟨_,rfl⟩;have q:(A.size:Int)<=1000:=by
  rw[←hA,dW];omega
 have r:(nm.size:Int)<65536:=by omega
 have p:cb how st crc pk lg nm=(⟨#[80,75,3,4]⟩:ByteArray)++A++nm:=by unfold cb;rw[hA]
 rw[hA]at j;rw[p];have T0':Hid (vn w how st crc pk lg nm (w.alloc (.cells #[.int .i64 (how:Nat),.int .i64 (st:Nat),.int .i64 (crc:Nat),.int .i64 (pk:Nat),.int .i64 (lg:Nat),.string nm,.string f] 55))):=⟨(a0c _ _).alloc (a0a _) _,by simp,by simp,by simp,by simp,by simp,by simp,by simp⟩;clear k l h2 m n o hA p;go_enter func60,ntmps60;go_wp2_with fail;obtain⟨W0,hW0⟩:∃x,w.alloc (.cells #[.int .i64 (how:Nat),.int .i64 (st:Nat),.int .i64 (crc:Nat),.int .i64 (pk:Nat),.int .i64 (lg:Nat),.string nm,.string f] 55)=x:=⟨_,rfl⟩;rw[hW0]at T0';rw[hW0];have T0:=T0';clear T0' hW0;refine wp_region_held_drew (S:=fun W=>MB W w.heap.size how st crc pk lg nm) d (ae T0).2.2 (fun b=>?_);refine ag 0 (.pointer (some ⟨w.heap.size,0,none⟩)) rfl (by kernel_rfl) (fun _ _ _ h=>h) rfl (fun W a=>by obtain⟨s0,s1,s2,s3,s4,s5⟩:=a;go_simp) b ?_;refine ag 1 (.agg #[.int .i64 (how:Nat),.int .i64 (st:Nat),.int .i64 (crc:Nat),.int .i64 (pk:Nat),.int .i64 (lg:Nat),.string nm]) rfl (by kernel_rfl) (fun _ _ _ h=>h) rfl (fun W a=>by obtain⟨s0,s1,s2,s3,s4,s5⟩:=a;go_simp) b ?_;refine ag 4 (.pointer (some ⟨w.heap.size,0,none⟩)) rfl (by kernel_rfl) (fun _ _ _ h=>h) rfl (fun W a=>by obtain⟨s0,s1,s2,s3,s4,s5⟩:=a;go_simp) b ?_;refine ag 5 (.pointer (some ⟨w.heap.size,5,none⟩)) rfl (by kernel_rfl) (fun _ _ _ h=>h) rfl (fun W a=>by obtain⟨s0,s1,s2,s3,s4,s5⟩:=a;go_simp) b ?_;refine ag 6 (.string nm) rfl (by kernel_rfl) (fun _ _ _ h=>h) rfl (fun W a=>by obtain⟨s0,s1,s2,s3,s4,s5⟩:=a;go_simp) b ?_;have T1:Hid (vn w how st crc pk lg nm W0.drew):=⟨(ae T0).1.drew,(ae T0).2.1,(ae T0).2.2⟩;generalize W0.drew=W1 at *
 refine aj 2 (by kernel_rfl) rfl fun K c=>?_;go_simp;go_at_call 100;refine(ae j W1).mono ?_;rintro e W2 ⟨rfl,i⟩;have T2:=af ((ae T1).later i);refine Shut.out c _ _ (ae T2).2.2 (fun b=>?_);clear c K i;refine ag 3 (.string ((⟨#[80,75,3,4]⟩:ByteArray)++A)) rfl (by kernel_rfl) (fun _ _ _ h=>h) rfl (fun W a=>by obtain⟨s0,s1,s2,s3,s4,s5⟩:=a;go_simp<;>omega) b ?_;refine ag 7 (.string ((⟨#[80,75,3,4]⟩:ByteArray)++A++nm)) rfl (by kernel_rfl) (fun _ _ _ h=>h) rfl (fun W a=>by obtain⟨s0,s1,s2,s3,s4,s5⟩:=a;go_simp<;>omega) b ?_;refine aj 8 (by kernel_rfl) rfl fun K c=>?_;go_simp;refine Shut.out c _ _ (ae T2).2.2 (fun b=>?_);clear c K;refine wpAnyH_done (by kernel_rfl) ?_ _;generalize g:(⟨#[80,75,3,4]⟩:ByteArray)++A++nm=AA;go_wp2;go_ret;exact⟨by subst g;rfl,(ae T2).1⟩
theorem tr(how st crc pk lg:Nat)(nm:ByteArray):(cb how st crc pk lg nm).size=30+nm.size:=by
 unfold cb;rw[a0t,a0t,dW];have:(⟨#[80,75,3,4]⟩:ByteArray).size=4:=rfl;omega
theorem jw(how st crc pk lg:Nat)(nm a:ByteArray)(w:World)(j:how<65536)(k:st<4294967296)(h2:crc<4294967296)(l:pk<4294967296)(m:lg<4294967296)(n:nm.size<65536)(q:a.size<=100000) :
  CD 36 #[.agg #[.int .i64 (how:Nat),.int .i64 (st:Nat),.int .i64 (crc:Nat),.int .i64 (pk:Nat),.int .i64 (lg:Nat),.string nm,.string a]] w (.string (cb how st crc pk lg nm++a)):=by
 have f:prog.follows .mixedOrders=true:=by kernel_rfl
 have o:=af (fun W=>zQ how st crc pk lg nm a W j k h2 l m n);have r:((cb how st crc pk lg nm).size:Int)<=70000:=by rw[tr];omega
 have s:(a.size:Int)<=100000:=by omega
 generalize cb how st crc pk lg nm=A at *
 have T0':Hid (vn w how st crc pk lg nm (w.alloc (.cells #[.int .i64 (how:Nat),.int .i64 (st:Nat),.int .i64 (crc:Nat),.int .i64 (pk:Nat),.int .i64 (lg:Nat),.string nm,.string a] 55))/\(w.alloc (.cells #[.int .i64 (how:Nat),.int .i64 (st:Nat),.int .i64 (crc:Nat),.int .i64 (pk:Nat),.int .i64 (lg:Nat),.string nm,.string a] 55)).cell? ⟨w.heap.size,6,none⟩=some (.string a)):=⟨⟨(a0c _ _).alloc (a0a _) _,by simp,by simp,by simp,by simp,by simp,by simp,by simp⟩,by simp⟩;clear j k h2 l m n q;go_enter func36,ntmps36;go_wp2_with fail;obtain⟨W0,hW0⟩:∃x,w.alloc (.cells #[.int .i64 (how:Nat),.int .i64 (st:Nat),.int .i64 (crc:Nat),.int .i64 (pk:Nat),.int .i64 (lg:Nat),.string nm,.string a] 55)=x:=⟨_,rfl⟩;rw[hW0]at T0';rw[hW0];have T0:=T0';clear T0' hW0;refine wp_region_held_drew (S:=fun W=>MB W w.heap.size how st crc pk lg nm/\W.cell? ⟨w.heap.size,6,none⟩=some (.string a)) f ⟨(ae T0).1.2.2,(ae T0).2⟩ (fun c=>?_);refine ag 0 (.agg #[.int .i64 (how:Nat),.int .i64 (st:Nat),.int .i64 (crc:Nat),.int .i64 (pk:Nat),.int .i64 (lg:Nat),.string nm,.string a]) rfl (by kernel_rfl) (fun _ _ _ h=>h) rfl (fun W b=>by obtain⟨⟨s0,s1,s2,s3,s4,s5⟩,s6⟩:=b;go_simp) c ?_;refine ag 2 (.pointer (some ⟨w.heap.size,6,none⟩)) rfl (by kernel_rfl) (fun _ _ _ h=>h) rfl (fun W b=>by obtain⟨⟨s0,s1,s2,s3,s4,s5⟩,s6⟩:=b;go_simp) c ?_;refine ag 3 (.string a) rfl (by kernel_rfl) (fun _ _ _ h=>h) rfl (fun W b=>by obtain⟨⟨s0,s1,s2,s3,s4,s5⟩,s6⟩:=b;go_simp) c ?_;have T1:Hid (vn w how st crc pk lg nm W0.drew/\W0.drew.cell? ⟨w.heap.size,6,none⟩=some (.string a)):=⟨⟨(ae T0).1.1.drew,(ae T0).1.2.1,(ae T0).1.2.2⟩,(ae T0).2⟩;generalize W0.drew=W1 at *
 refine aj 1 (by kernel_rfl) rfl fun K d=>?_;go_simp;go_at_call 60;refine(ae o W1).mono ?_;rintro e W2 ⟨rfl,g⟩;have T2:Hid (vn w how st crc pk lg nm W2/\W2.cell? ⟨w.heap.size,6,none⟩=some (.string a)):=⟨(ae T1).1.later g,by rw[g.cell (p:=⟨w.heap.size,6,none⟩) (ae T1).1.2.1];exact(ae T1).2⟩;refine Shut.out d _ _ ⟨(ae T2).1.2.2,(ae T2).2⟩ (fun c=>?_);clear d K g;refine ag 4 (.string (A++a)) rfl (by kernel_rfl) (fun _ _ _ h=>h) rfl (fun W b=>by obtain⟨⟨s0,s1,s2,s3,s4,s5⟩,s6⟩:=b;go_simp<;>omega) c ?_;refine aj 5 (by kernel_rfl) rfl fun K d=>?_;go_simp;refine Shut.out d _ _ ⟨(ae T2).1.2.2,(ae T2).2⟩ (fun c=>?_);clear d K;refine wpAnyH_done (by kernel_rfl) ?_ _;generalize i:A++a=AA;go_wp2;go_ret;exact⟨by subst i;rfl,(ae T2).1.1⟩
theorem Am(l:List UInt8):leS l.length (cO l)=l:=by
 apply a2p
 . rw[aF]
 . intro j a h2;have h:=EZ l.length (cO l) j h2;rw[BR]at h;rw[List.getD_eq_getElem?_getD,List.getElem?_eq_getElem a,List.getD_eq_getElem?_getD,List.getElem?_eq_getElem h2]at h;simpa using h
theorem ve(k V:Nat):cO (leS k V)=V%2 ^ (8*k):=by
 induction k with
 | zero=>simp[leS,cO,a1Y]
 | succ k ih=>
  simp only[leS];rw[iz,ih,aF];have e:2 ^ (8*(k+1))=2 ^ (8*k)*256:=by rw[a2h,a0Q]
  rw[e,Nat.mod_mul]
  congr 2
  simp[cO]
theorem AP(V p k:Nat):V/2 ^ p%2 ^ (k+1)=V/2 ^ p%2 ^ k+V/2 ^ (p+k)%2*2 ^ k:=by
 rw[Az,a17,←a0Q]
def fH(l:List Int):Nat:=(l.map Int.toNat).sum
theorem rE(a b:List Int):fH (a++b)=fH a+fH b:=by simp[fH]
theorem kM(x:Int)(b:List Int):fH (x :: b)=x.toNat+fH b:=by simp[fH]
def dN(V:Nat):Nat->List Int->List Int
 | _,[]=>[]
 | p,b :: bs=>((V/2 ^ p%2 ^ b.toNat:Nat):Int) :: dN V (p+b.toNat) bs
theorem wH(V p:Nat)(l:List Int):(dN V p l).length=l.length:=by
 induction l generalizing p with
 | nil=>rfl
 | cons b l ih=>simp[dN,ih]
theorem yz(V p:Nat)(a b:List Int):dN V p (a++b)=dN V p a++dN V (p+fH a) b:=by
 induction a generalizing p with
 | nil=>simp[dN,fH]
 | cons x a ih=>simp[dN,ih,kM,a14]
def eo(l:List Int):Bool:=l.all (fun b=>decide (0<=b)&&decide (b<=16))
def ju(s:List UInt8)(l:List Int):Bool:=eo l&&decide (l.length<=4000)&&decide (s.length=(fH l+7)/8)&&decide (cO s<2 ^ fH l)
def zL(s:List UInt8)(l:List Int):List Int:=if ju s l=true then dN (cO s) 0 l else []
theorem Cq{l:List Int}(h:eo l=true)(k:Nat)(a:k<l.length):0<=l.getD k 0/\l.getD k 0<=16:=by
 have:=a03.1 h (l.getD k 0) (by simp[List.getD,a]);simpa using this
theorem Ob{l:List Int}(h:eo l=true):fH l<=16*l.length:=by
 induction l with
 | nil=>simp[fH]
 | cons b l ih=>
  have a:(0<=b/\b<=16)/\eo l=true:=by simpa[eo]using h
  have:=ih a.2;rw[kM,a0A];omega
theorem D6(s:List UInt8)(m:Nat)(h:s.length=(m+7)/8):(cO s/2 ^ m%2 ^ ((8-m%8)%8)=0)<->cO s<2 ^ m:=by
 have a:=pO s;have e:8*s.length=m+(8-m%8)%8:=by omega
 rw[e,a0Q]at a;have h2:cO s/2 ^ m<2 ^ ((8-m%8)%8):=Nat.div_lt_of_lt_mul a;rw[a08 h2];constructor
 .
  intro b;rcases Nat.div_eq_zero_iff.1 b with h|h
  . have:=a1E m;omega
  . exact h
 . exact a1T
def wd(l:List UInt8)(i k:Nat):Nat:=cO ((l.drop i).take k)
theorem Mp(l:List UInt8)(i k:Nat):wd l i k<2 ^ (8*k):=by
 unfold wd;refine a0h (pO _) (a0T (by decide) ?_);rw[a0z];omega
theorem j6(l:List UInt8)(i:Nat):wd l i 2<65536:=Mp l i 2
theorem dH(l:List UInt8)(i:Nat):wd l i 4<4294967296:=Mp l i 4
theorem gt(h:i+k<=l.length):((l.drop i).take k).length=k:=by
 rw[a0z,a1v];omega
theorem oE(h:i+k<=l.length):leS k (wd l i k)=(l.drop i).take k:=by
 have:=Am ((l.drop i).take k);rw[gt h]at this;exact this
theorem Pr(k:Nat)(h:i+j<=l.length):wd l i (j+k)=wd l i j+2 ^ (8*j)*wd l (i+j) k:=by
 unfold wd;rw[List.take_add,iz,gt h,List.drop_drop]
theorem P9(h:i+2<=l.length):wd l i 4=wd l i 2+65536*wd l (i+2) 2:=Pr (j:=2) 2 h
theorem BS{v:Nat}(h:i+k<=l.length)(a:v<2 ^ (8*k)):wd l i k=v<->(l.drop i).take k=leS k v:=by
 constructor
 . intro e;rw[←e,oE h]
 . intro e;unfold wd;rw[e,ve,a08 a]
theorem ID(h:i+k<=l.length):cO l/2 ^ (8*i)%2 ^ (8*k)=wd l i k:=by
 have e1:cO l=cO (l.take i)+2 ^ (8*i)*cO (l.drop i):=by
  have a:=iz (l.take i) (l.drop i);rw[a1H,a0z,a1X (by omega)]at a;exact a
 have l1:cO (l.take i)<2 ^ (8*i):=by
  have:=pO (l.take i);rw[a0z,a1X (by omega)]at this;exact this
 have e2:cO (l.drop i)=wd l i k+2 ^ (8*k)*cO ((l.drop i).drop k):=by
  have a:=iz ((l.drop i).take k) ((l.drop i).drop k);rw[a1H,gt h]at a;exact a
 rw[e1,Nat.add_mul_div_left _ _ (a1E _),a1T l1,a0H,e2,Nat.add_mul_mod_self_left,a08 (Mp l i k)]
theorem uL(V b:Nat):∀(n p j:Nat),j<n->(dN V p (List.replicate n ((b:Nat):Int))).getD j 0=((V/2 ^ (p+b*j)%2 ^ b:Nat):Int)
 | 0,_,_,h=>by omega
 | n+1,p,0,_=>by simp[List.replicate_succ,dN]
 | n+1,p,j+1,h=>by
  rw[List.replicate_succ];simp only[dN,a2x];rw[uL V b n _ j (by omega),a0l,show p+b+b*j=p+b*(j+1) by rw[a2h];omega]
theorem xQ(h:30<=l.length):ju (l.take 30) (List.replicate 15 16)=true:=by
 have e1:fH (List.replicate 15 16)=240:=by decide
 have e2:(l.take 30).length=30:=by rw[a0z];omega
 have e3:eo (List.replicate 15 16)=true:=by decide
 have e4:=pO (l.take 30);rw[e2]at e4;unfold ju;rw[e1,e2,e3];simpa using e4
theorem Dn(h:30<=l.length)(j:Nat)(b:j<15):(zL (l.take 30) (List.replicate 15 16)).getD j 0=((wd l (2*j) 2:Nat):Int):=by
 unfold zL;rw[a0d (xQ h)];have a:=uL (cO (l.take 30)) 16 15 0 j b;rw[show((16:Nat):Int)=16 from rfl]at a;rw[a];have e2:(l.take 30).length=30:=by rw[a0z];omega
 have h2:=ID (l:=l.take 30) (i:=2*j) (k:=2) (by omega);rw[show 0+16*j=8*(2*j) by omega,show(16:Nat)=8*2 from rfl,h2]
 congr 1
 unfold wd;rw[List.drop_take,a3a,a1X (by omega)]
theorem JW(h:30<=l.length):(zL (l.take 30) (List.replicate 15 16)).length=15:=by
 unfold zL;rw[a0d (xQ h),wH,a0y]
def rS(l:List UInt8):Bool:=decide (wd l 0 4=67324752)&&(decide (wd l 4 2=20)&&(decide (wd l 6 2=0)&&decide (wd l 28 2=0)))
theorem DZ(l:List UInt8)(n:Nat):l.take (30+n)=(l.drop 0).take 4++((l.drop 4).take 2++((l.drop 6).take 2++((l.drop 8).take 2++((l.drop 10).take 4++((l.drop 14).take 4++((l.drop 18).take 4++((l.drop 22).take 4++((l.drop 26).take 2++((l.drop 28).take 2++(l.drop 30).take n))))))))):=by
 have st:∀i k m,(l.drop i).take (k+m)=(l.drop i).take k++(l.drop (i+k)).take m:=fun i k m=>by rw[List.take_add,List.drop_drop]
 rw[←st 28 2 n,←st 26 2 _,←st 22 4 _,←st 18 4 _,←st 14 4 _,←st 10 4 _,←st 8 2 _,←st 6 2 _,←st 4 2 _,←st 0 4 _,a1x]
 congr 1
 omega
theorem nZ(how st crc pk lg:Nat)(nm:ByteArray):(cb how st crc pk lg nm).data.toList=leS 4 67324752++(leS 2 20++(leS 2 0++(leS 2 how++(leS 4 st++(leS 4 crc++(leS 4 pk++(leS 4 lg++(leS 2 nm.size++(leS 2 0++nm.data.toList))))))))):=by
 have e:leS 4 67324752=[80,75,3,4]:=by decide +kernel
 rw[e];unfold cb fj az;simp
theorem JX(h:30+wd l 26 2<=l.length)(b:nm.data.toList=(l.drop 30).take (wd l 26 2)) :
  (cb (wd l 8 2) (wd l 10 4) (wd l 14 4) (wd l 18 4) (wd l 22 4) nm).data.toList.isPrefixOf l=rS l:=by
 have c:nm.size=wd l 26 2:=by
  have:=congrArg List.length b;rw[gt h]at this;simpa using this
 have a:(cb (wd l 8 2) (wd l 10 4) (wd l 14 4) (wd l 18 4) (wd l 22 4) nm).data.toList.length=30+wd l 26 2:=by
  rw[nZ,b];simp only[a0i,aF,gt h];omega
 rw[a2j,List.isPrefixOf_iff_prefix,List.prefix_iff_eq_take,a,DZ,nZ,c,b,
  oE (i:=8) (k:=2) (by omega),oE (i:=10) (k:=4) (by omega),oE (i:=14) (k:=4) (by omega),oE (i:=18) (k:=4) (by omega),oE (i:=22) (k:=4) (by omega),oE (i:=26) (k:=2) (by omega)]
 simp only[rS,a0j,a0p];rw[BS (i:=0) (k:=4) (by omega) (by decide),BS (i:=4) (k:=2) (by omega) (by decide),BS (i:=6) (k:=2) (by omega) (by decide),BS (i:=28) (k:=2) (by omega) (by decide)];constructor
 . intro e;obtain⟨e1,e⟩:=a2N e (by rw[aF,gt (by omega)]);obtain⟨e2,e⟩:=a2N e (by rw[aF,gt (by omega)]);obtain⟨e3,e⟩:=a2N e (by rw[aF,gt (by omega)]);have e:=a2O (a2O (a2O (a2O (a2O (a2O e)))));obtain⟨e4,_⟩:=a2N e (by rw[aF,gt (by omega)]);exact⟨e1.symm,e2.symm,e3.symm,e4.symm⟩
 . rintro⟨e1,e2,e3,e4⟩;rw[e1,e2,e3,e4]
theorem Ev{a b:List UInt8}(k:Nat)(h:a.length=m):wd (a++b) (m+i) k=wd b i k:=by
 unfold wd;rw[←h,a2r,a3b (by omega),a0X,a1M]
theorem gx(b:List UInt8)(h:V<2 ^ (8*k)):wd (leS k V++b) 0 k=V:=by
 unfold wd;rw[a1x,a1p (by rw[aF];exact a0a _),a0o (by rw[aF];exact a0a _),ve,a08 h]
theorem tt(r:List UInt8)(d:how<65536)(e:st<4294967296)(h2:crc<4294967296)(f:pk<4294967296)(g:lg<4294967296)(h:nm.size<65536) :
  rS ((cb how st crc pk lg nm).data.toList++r)=true/\wd ((cb how st crc pk lg nm).data.toList++r) 8 2=how/\wd ((cb how st crc pk lg nm).data.toList++r) 10 4=st/\wd ((cb how st crc pk lg nm).data.toList++r) 14 4=crc/\wd ((cb how st crc pk lg nm).data.toList++r) 18 4=pk/\wd ((cb how st crc pk lg nm).data.toList++r) 22 4=lg/\wd ((cb how st crc pk lg nm).data.toList++r) 26 2=nm.size/\(((cb how st crc pk lg nm).data.toList++r).drop 30).take nm.size=nm.data.toList/\((cb how st crc pk lg nm).data.toList++r).drop (30+nm.size)=r:=by
 rw[nZ];simp only[a0O];have g4:∀(V:Nat) (b:List UInt8) (i k:Nat),wd (leS 4 V++b) (4+i) k=wd b i k:=fun V b i k=>Ev k (aF 4 V);have g2:∀(V:Nat) (b:List UInt8) (i k:Nat),wd (leS 2 V++b) (2+i) k=wd b i k:=fun V b i k=>Ev k (aF 2 V);have c:∀(V:Nat) (b:List UInt8) (i:Nat),(leS 4 V++b).drop (4+i)=b.drop i:=fun V b i=>by rw[a2r,a3b (by rw[aF];omega),a0X,aF,a1M]
 have a:∀(V:Nat) (b:List UInt8) (i:Nat),(leS 2 V++b).drop (2+i)=b.drop i:=fun V b i=>by rw[a2r,a3b (by rw[aF];omega),a0X,aF,a1M]
 have e30:∀j,30+j=4+(2+(2+(2+(4+(4+(4+(4+(2+(2+j))))))))):=fun j=>by omega
 have l:nm.data.toList.length=nm.size:=by simp
 refine⟨?_,?_,?_,?_,?_,?_,?_,?_,?_⟩
 . unfold rS;rw[gx _ (by decide),show(4:Nat)=4+0 from rfl,g4,gx _ (by decide),show(6:Nat)=4+(2+0)from rfl,g4,g2,gx _ (by decide),show(28:Nat)=4+(2+(2+(2+(4+(4+(4+(4+(2+0))))))))from rfl,g4,g2,g2,g2,g4,g4,g4,g4,g2,gx _ (by decide)];rfl
 . rw[show(8:Nat)=4+(2+(2+0))from rfl,g4,g2,g2,gx _ d]
 . rw[show(10:Nat)=4+(2+(2+(2+0)))from rfl,g4,g2,g2,g2,gx _ e]
 . rw[show(14:Nat)=4+(2+(2+(2+(4+0))))from rfl,g4,g2,g2,g2,g4,gx _ h2]
 . rw[show(18:Nat)=4+(2+(2+(2+(4+(4+0)))))from rfl,g4,g2,g2,g2,g4,g4,gx _ f]
 . rw[show(22:Nat)=4+(2+(2+(2+(4+(4+(4+0))))))from rfl,g4,g2,g2,g2,g4,g4,g4,gx _ g]
 . rw[show(26:Nat)=4+(2+(2+(2+(4+(4+(4+(4+0)))))))from rfl,g4,g2,g2,g2,g4,g4,g4,g4,gx _ h]
 . rw[show(30:Nat)=4+(2+(2+(2+(4+(4+(4+(4+(2+(2+0)))))))))from rfl,c,a,a,a,c,c,c,c,a,a,a1x,a1p (by omega),a0o (by omega)]
 . rw[e30,c,a,a,a,c,c,c,c,a,a,a2r,a3b (by omega),a0X,l,a2I,a1x]
attribute [local go_sem ↓] Go.wp_at_zero Go.wp_at_succ
theorem Fj(k:Nat)(h:k<=16):p2 k<=65536:=by
 have h2:2 ^ k<=2 ^ 16:=a0T (by omega) h;have a:p2 k=2 ^ k:=rfl;omega
theorem rest_step(V p j:Nat):(V/2 ^ p%2 ^ (j+1)=0)<->(V/2 ^ p%2 ^ j=0/\V/2 ^ (p+j)%2=0):=by
 rw[AP];have:=a1E j;constructor
 .
  intro h;have a:=Nat.eq_zero_of_add_eq_zero_right h;have h2:=Nat.eq_zero_of_add_eq_zero_left h;rcases Nat.mul_eq_zero.1 h2 with b|b
  . exact⟨a,b⟩
  . omega
 . rintro⟨a,h2⟩;rw[a,h2];simp
end Go.Proofs.YtgmfehnnebkaoaaGreatDoor
namespace Go.Proofs.YtgmfehnnebkaoaaGreatDoor
open Go.Proofs.Tryz
open Go.RowKit Corb
variable {b:Nat}{w w':World}
theorem Box.keep1{P:Nat}{x y:Int}(h:Box w P x y)(a:aG b w w')(hb:P≠b):Box w' P x y:=by
 unfold Box at *
 rw[a.2 P (Array.getElem?_eq_some_iff.1 h).1 hb];exact h
theorem NI(n x k M:Nat)(d:n<p2 k)(g:x<=1)(c:k<=16)(a:x*p2 k=M):bits .or .i64 (n:Int) (M:Int)=((n+M:Nat):Int):=by
 have f:=Fj k c;have b:M<=65536:=by
  rcases (show x=0∨x=1 by omega)with e|e<;>subst e<;>omega
 rw[li n M (by omega) (by omega)]
 congr 1
 rw[Nat.or_comm];rw[nat_join k M n (by rw[←a];exact Nat.mul_mod_left _ _) d];omega
theorem uK(b p c:Nat)(num:Int)(s:ByteArray)(w:World)(h:Rdr w b s p)(B:s.size<=2000000)(z:c<=16) :
  Calls prog 248 #[.pointer (some ⟨b,0,none⟩),.agg #[.int .i64 num,.int .i64 (c:Int)]] w fun e w'=>e = .returned (.int .i64 (aE s/2 ^ p%2 ^ c:Nat))/\Rdr w' b s (p+c)/\aG b w w':=by
 have F:=af B;have G:(c:Int)<=16:=by omega
 have D:=af z;have q:=h.lt;have y:=h.alloc (.cells #[.int .i64 num,.int .i64 (c:Int)] 139);have j:aG b w (w.alloc (.cells #[.int .i64 num,.int .i64 (c:Int)] 139)):=(aG.refl _ _).alloc (by omega) _;clear B z h;go_enter func248,ntmps248;go_wp2_with fail
 go_loopw [5,6,9] (fun n _ i wr=>∃k:Nat,k<=c/\i = .int .i64 k/\n = .int .i64 (aE s/2 ^ p%2 ^ k:Nat)/\Rdr wr b s (p+k)/\aG b w wr) (fun _ _ i _=>c-(intOf i).toNat)
 case atStart=>exact⟨0,a0g _,rfl,by simp[a1Y],y,j⟩
 case round=>
  obtain⟨k,A,rfl,rfl,t,d⟩:=hrel;clear y j;have E:=af A;by_cases q:k<c
  .
   have H:(k:Int)<(c:Int):=by omega
   have a:k<=16:=by have:=ae D;omega
   have v:Hid (aE s/2 ^ p%2 ^ (k+1)=aE s/2 ^ p%2 ^ k+aE s/2 ^ (p+k)%2*p2 k):=AP (aE s) p k;have m:aE s/2 ^ p%2 ^ k<p2 k:=a1t _ (a1E k);have C:aE s/2 ^ (p+k)%2<=1:=by omega
   have r:=Fj k a;have g:=af (qC b (p+k) s wr t (ae F));have f:=jU k;generalize aE s/2 ^ p%2 ^ k=n at *
   generalize aE s/2 ^ (p+k)%2=x at *
   have I:=NI n x k (x*p2 k) m C a rfl;have l:x*p2 k<=65536:=by rcases (show x=0∨x=1 by omega)with e|e<;>rw[e]<;>omega
   have e1':(x:Int)*2 ^ k=((x*p2 k:Nat):Int):=by rw[a2Z,f]
   have e1:IntKind.i64.wrap ((x:Int)*2 ^ k)=((x*p2 k:Nat):Int):=by rw[e1'];exact dn _ (by omega) (by omega)
   generalize x*p2 k=M at *
   have e2:IntKind.i64.wrap (M:Int)=(M:Int):=dn _ (by omega) (by omega);have J:(k:Int)<=16:=by omega
   clear a C r l A t m f;go_wp2_with fail;refine(ae g).mono ?_;rintro e x1 ⟨rfl,u,o⟩;go_wp2;go_roundw
   case rel=>exact⟨k+1,by omega,by go_num,by rw[ae v];go_num,u,d.trans o⟩
   case measure=>simp[intOf];omega
  .
   obtain rfl:k=c:=by have:=ae E;omega
   go_wp2;go_ret;exact⟨rfl,t,d⟩
theorem NH(m x:Nat)(a:m<=1)(b:x<=1):∃y:Nat,bits .or .i64 (m:Int) (x:Int)=(y:Int)/\y<=1/\(y=0<->m=0/\x=0):=by
 refine⟨m ||| x,li m x (by omega) (by omega),?_,?_⟩
 . rcases (show m=0∨m=1 by omega)with e|e<;>rcases (show x=0∨x=1 by omega)with f|f<;>subst e<;>subst f<;>decide
 . rcases (show m=0∨m=1 by omega)with e|e<;>rcases (show x=0∨x=1 by omega)with f|f<;>subst e<;>subst f<;>decide
theorem rB(b p:Nat)(s:ByteArray)(w:World)(h:Rdr w b s p)(M:s.size<=2000000)(W:p<=8*s.size) :
  Calls prog 107 #[.pointer (some ⟨b,0,none⟩)] w fun e w'=>e = .returned (.bool (decide (aE s/2 ^ p%2 ^ ((8-p%8)%8)=0)))/\Rdr w' b s (p+(8-p%8)%8)/\aG b w w':=by
 have Q:=af M;have H:(8-p%8)%8<=7:=by omega
 have I:(p+(8-p%8)%8)%8=0:=by omega
 have z:p+(8-p%8)%8<=8*s.size:=by omega
 have f:∀j,j<(8-p%8)%8->(p+j)%8≠0:=by omega
 have Y:(s.size:Int)<=2000000:=by omega
 generalize (8-p%8)%8=c at *
 have E:=af z;clear M W z;go_enter func107,ntmps107;go_wp2_with fail
 go_loopw [3] (fun n wr=>∃k m:Nat,k<=c/\n = .int .i64 (m:Nat)/\m<=1/\(m=0<->aE s/2 ^ p%2 ^ k=0)/\Rdr wr b s (p+k)/\aG b w wr) (fun _ wr=>c+p-(match wr.cell? ⟨b,1,none⟩with|some (.int _ i)=>i.toNat|_=>0))
 case atStart=>exact⟨0,0,a0g _,rfl,by omega,by simp[a1Y],h,aG.refl _ _⟩
 case round=>
  obtain⟨k,m,L,rfl,v,u,C,d⟩:=hrel;clear h;have S:=C.at (by have:=ae E;omega);obtain⟨c0,c1,c2,f0,f1,f2,T⟩:=S;have P:=af L;have r:=af u;have X:((p+k:Nat):Int)<=16000000:=by have:=ae E;omega
  clear u;by_cases g:k<c
  .
   have U:¬ ((p+k:Nat):Int)%8=0:=by have:=f k g;omega
   have J:=af (rest_step (aE s) p k);have N:aE s/2 ^ (p+k)%2<=1:=by omega
   have t:=af (qC b (p+k) s wr C (ae Q));generalize aE s/2 ^ (p+k)%2=x at *
   obtain⟨y,V,B,A⟩:=NH m x v N;have O:=af A;have D:=af B;have q:=af g;have F:=af (show p+k<8*s.size by have:=ae E;omega);clear f N L v g C I H A B;generalize a:p+k=pk at *
   have o:=af a;clear a;go_wp2_with fail;refine(ae t).mono ?_;rintro e x1 ⟨rfl,l,G⟩;go_wp2;go_roundw
   case rel=>exact⟨k+1,y,ae q,rfl,ae D,by rw[ae J,←ae r];exact ae O,by rw[←ae o]at l;exact l,d.trans G⟩
   case measure=>
    have R:=(l.at (by have:=ae F;omega)).2.1;rw[R,c1];have:=ae o;have:=ae q;simp;omega
  .
   obtain rfl:k=c:=by have:=ae P;omega
   have Z:((p+k:Nat):Int)%8=0:=by omega
   generalize a:p+k=pk at *
   go_wp2;go_ret;refine⟨ak ?_,by rw[a];exact C,d⟩;rw[show decide (aE s/2 ^ p%2 ^ k=0)=decide (m=0)from decide_eq_decide.2 (ae r).symm];rcases a3C m with K|K
   . subst K;rfl
   . rw[a0v (by omega)];first|(exact a0v (by omega))|(exact beq_false_of_ne (by omega))|(exact(by omega:False).elim)
def bC(m:List UInt8):List (Int×Int):=m.map fun b=>((b.toNat:Int),8)
theorem kV(m:List UInt8):(bC m).length=m.length:=by simp[bC]
theorem FQ(m:List UInt8):aW (bC m)=true:=by
 simp only[aW,bC,List.all_map,a03];intro b _;have:=a2s b;have a:p2 (8:Int).toNat=256:=by decide
 have c:pOk (b.toNat:Int) 8=true:=aP.2 ⟨by omega,by omega,by rw[a];omega⟩;exact c
theorem Cv(m:List UInt8):aV (bC m)=(cO m,8*m.length):=by
 induction m with
 | nil=>rfl
 | cons b m ih=>
  have e0:bC (b :: m)=[((b.toNat:Int),(8:Int))]++bC m:=rfl;have e:aV [((b.toNat:Int),(8:Int))]=(b.toNat,8):=by simp[aV,nE,iu]
  have e2:cO (b :: m)=cO [b]+2 ^ (8*1)*cO m:=iz [b] m;have e3:cO [b]=b.toNat:=by simp[cO]
  rw[e0,mQ,ih,e,e2,e3];refine Prod.ext ?_ ?_
  . show b.toNat+cO m*2 ^ 8=b.toNat+2 ^ (8*1)*cO m;rw[a1d]
  . show 8+8*m.length=8*(b :: m).length;rw[a0A];omega
theorem nV(m:List UInt8)(h:m.length<=4000):lOk (bC m)=true:=by
 simp only[lOk,a0j,a2A];exact⟨FQ m,by rw[kV];exact h⟩
theorem Cu(m:List UInt8)(h:m.length<=4000):pt (bC m)=m:=by
 rw[ea (nV m h),cz,Cv];show leS ((8*m.length+7)/8) (cO m)=m;rw[show(8*m.length+7)/8=m.length by omega];exact Am m
def ep(n:Nat):List (Int×Int):=[(1,1),(0,2),(0,5),((n:Int),16),(((65535-n:Nat):Int),16)]
def gz(n:Nat):Nat:=1+n*256+(65535-n)*16777216
theorem ts(n:Nat)(h:n<=65535):lOk (ep n)=true:=by
 have a:p2 (16:Int).toNat=65536:=by decide
 have a1:pOk 1 1=true:=by decide
 have a2:pOk 0 2=true:=by decide
 have a3:pOk 0 5=true:=by decide
 have a4:pOk (n:Int) 16=true:=aP.2 ⟨by omega,by omega,by rw[a];omega⟩;have a5:pOk ((65535-n:Nat):Int) 16=true:=aP.2 ⟨by omega,by omega,by rw[a];omega⟩;simp only[lOk,aW,ep,a13,a2P,a1,a2,a3,a4,a5];simp
theorem vX(n:Nat):aV (ep n)=(gz n,40):=by
 simp[aV,nE,ep,iu,gz]
theorem Gp(n:Nat)(h:n<=65535):pt (ep n)=leS 5 (gz n):=by
 rw[ea (ts n h),cz,vX];simp only[Nat.reduceAdd,Nat.reduceDiv]
theorem zP(n:Nat):(aV (ep n)).2%8=0:=by rw[vX];simp only[Nat.reduceMod]
theorem wM(L:List UInt8)(h:L.length<=300):pt (ep L.length++bC L)=leS 5 (gz L.length)++L:=by
 rw[Fx (ep L.length) (bC L) (ts _ (by omega)) (nV L (by omega)) (by rw[kV];simp[ep];omega) (zP _),Gp _ (by omega),Cu L (by omega)]
def fs(L:List UInt8):List UInt8:=if L.length<=300 then leS 5 (gz L.length)++L else []
theorem Mt(n:Nat)(h:n<=300):n ^^^ 65535=65535-n:=by
 apply Nat.eq_of_testBit_eq;intro i;have e1:(65535:Nat)=2 ^ 16-1:=rfl;have e2:65535-n=2 ^ 16-(n+1):=by omega
 rw[e2,Nat.testBit_two_pow_sub_succ (by omega),Nat.testBit_xor,e1,Nat.testBit_two_pow_sub_one];by_cases a:i<16
 . simp[a]
 . have:n.testBit i=false:=Nat.testBit_lt_two_pow (a0h (show n<2 ^ 16 by omega) (a0T (by omega) (by omega)));simp[a,this]
def KB(b:Nat)(w w':World):Prop:=Below b w w'/\bT b w w'
theorem KB.refl(b:Nat)(w:World):KB b w w:=⟨a0c _ _,bT.refl _ _⟩
theorem KB.trans{w1 w2:World}(h:KB b w w1)(k:KB b w1 w2):KB b w w2:=⟨h.1.trans k.1,h.2.trans k.2⟩
theorem KB.drew(h:KB b w w'):KB b w w'.drew:=⟨h.1.drew,h.2.drew⟩
theorem KB.set(h:KB b w w')(o:Nat)(u:Value):KB b w (w'.setCell ⟨b,o,none⟩ u):=⟨ai h.1 (a0a _) u,h.2.set u⟩
theorem KB.below{w'':World}(h:KB b w w')(hb:Below w'.heap.size w' w'')(c:b<=w'.heap.size):KB b w w'':=
 ⟨h.1.trans (hb.mono c),h.2.trans ⟨hb.size,fun k a _ _=>hb.block k a⟩⟩
theorem Bh{W2 WA:World}{v v' v1 v2:Value}{l:List UInt8}{x:UInt8}(T2:Three W2 b v v1 v2)(Y2:Bys W2 b v l)(h:KB b w W2)
  (e:Below (b+1) W2 WA) (d:bT b W2 WA) (f:Bys WA b v l) (c:w'.ownsRow (b+1) 5 1 v' (l.length+1) (cY l++[.int .u8 (x.toNat:Int)])) (a:WA.grownBy w' v.ownBlock) :
  (∃g cap,v' = .slice (some ⟨g,0,none⟩) (l.length+1) cap)/\Three w' b v v1 v2/\Bys w' b v' (l++[x])/\KB b w w':=by
 obtain⟨i,h2,j,k⟩:=uI T2 Y2 h.1 e c a;exact⟨i,h2,j,k,h.2.trans (d.grown f a)⟩
theorem Ls(b V m:Nat)(num bits:Int)(w:World)(h:Out w b V m)(n0:0<=num)(n1:num<65536)(b0:0<=bits)(b1:bits<=16)(hm:m<=100000) :
  Calls prog 194 #[.pointer (some ⟨b,0,none⟩),.int .i64 num,.int .i64 bits] w fun e w'=>e = .returned (.tuple #[]) /\
   Out w' b (V+num.toNat%p2 bits.toNat*p2 m) (m+bits.toNat)/\KB b w w':=by
 obtain⟨n,rfl⟩:=a0n n0;obtain⟨c,rfl⟩:=a0n b0;rw[a0l,a0l];obtain⟨i0,hi,a9,ba,bb⟩:=a0r Tryz.infoU8;go_enter func194,ntmps194;go_wp2
 go_loopw [1,6] (fun x i wr=>∃k:Nat,k<=c/\i = .int .i64 k/\x = .int .i64 (n/p2 k:Nat)/\Out wr b (V+n%p2 k*p2 m) (m+k)/\KB b w wr) (fun _ i _=>c-(intOf i).toNat)
 case atStart=>exact⟨0,a0g _,rfl,by simp[p2],by simpa[p2,a1Y]using h,KB.refl _ _⟩
 case round=>
  obtain⟨k,hk,rfl,rfl,z,a⟩:=hrel;by_cases b5:k<c
  .
   have B:=af (yu V n k m);have g:=af (zO n k);have a6:n/p2 k<=n:=a2k _ _;obtain⟨hV,v,s,G⟩:=z;obtain⟨sa,scap,rfl⟩:=G.form;have a5:=sw (V+n%p2 k*p2 m) (m+k) hV;generalize V+n%p2 k*p2 m=V1 at *
   generalize W:m+k=m1 at *
   have hx:n/p2 k%2<=1:=by omega
   have ad:((n/p2 k:Nat):Int)%2=((n/p2 k%2:Nat):Int):=by omega
   have bd:((n/p2 k:Nat):Int)<65536:=by omega
   have a7:p2 (m1%8)<=128:=uF (m1%8) 7 (by omega);have O:n/p2 k%2*p2 (m1%8)<=1*p2 (m1%8):=a18 _ hx;have y:((n/p2 k%2:Nat):Int)*((p2 (m1%8):Nat):Int)=((n/p2 k%2*p2 (m1%8):Nat):Int):=by simp
   have q:=AW V1 m1 (n/p2 k%2) hV hx;have d:=AV V1 m1 (n/p2 k%2) hV hx;have ab:m1%8<8:=a1t _ (by omega);have l:m1<=100016:=by omega
   have Q:(leS (m1/8) V1).length=m1/8:=aF _ _;generalize n/p2 k=nk at *
   generalize a8:nk%2=x at *
   generalize a1:V1/p2 (8*(m1/8))=L at *
   generalize ac:m1%8=r at *
   generalize N:p2 r=P at *
   generalize a2:x*P=X at *
   have ao:=af N;have K:=af W;have a0:=af ac;have E:=af q;have C:=af d;clear W a1 ac N a2 hV q d a8 hx a6;obtain⟨k0,H,I,f0,f1,f2,F⟩:=s;have s:Hid (Three wr b _ _ _):=⟨k0,H,I,f0,f1,f2,F⟩;have b6:(r:Int)<8:=by omega
   have bl:(L:Int)<128:=by omega
   have bs:(X:Int)<=128:=by omega
   have S:(k:Int)<(c:Int):=by omega
   have bk:=af ab;have D:=af l;have Hk:=af hk;have an:Hid (IntKind.i64.wrap ((L:Int)+IntKind.i64.wrap ((nk:Int).tmod 2*(P:Int)))=(L:Int)+(X:Int)):=by
    show IntKind.i64.wrap ((L:Int)+IntKind.i64.wrap ((nk:Int).tmod 2*(P:Int)))=(L:Int)+(X:Int);rw[a2E (by omega),ad,y,dn (X:Int) (by omega) (by omega),dn ((L:Int)+(X:Int)) (by omega) (by omega)]
   clear ab l a7 O a5 hk hm;go_wp2_with fail;go_cut[]from 7 to 62 (fun wc=>wc=(wr.setCell ⟨b,1,none⟩ (.int .i64 ((L:Int)+(X:Int)))).drew)
   case first=>
    go_region_with (go_at_call 224;refine(qx _ _ (by omega)).mono ?_;rintro e w' ⟨rfl,rfl⟩;rw[a0l,ae ao])
    all_goals
     go_wp2_with fail
     go_meet
     exact by rw[ae an]
   case rest=>
    have T1:=((ae s).set1 (.int .i64 ((L:Int)+(X:Int)))).drew;have Y1:=(G.set (o:=1) (.int .i64 ((L:Int)+(X:Int)))).drew;have B1:KB b w _:=(a.set 1 (.int .i64 ((L:Int)+(X:Int)))).drew;rw[←hcut]at T1 Y1 B1;clear hcut G a s k0 H I f0 f1 f2 F y ad;have T1':=af T1;obtain⟨k0,H,I,f0,f1,f2,F⟩:=T1;by_cases aa:(r:Int)=7
    .
     have A:r=7:=by omega
     obtain⟨o1,o2,o3,o4⟩:=ae C A;have O1:=af o1;have O2:=af o2;have O3:=af o3;have O4:=af o4;have M:L+X<256:=by omega
     have a4:=af (oK (L+X) M);have b4:IntKind.u8.wrap ((L:Int)+(X:Int))=(L:Int)+(X:Int):=by
      rw[IntKind.wrap_u8'];omega
     subst A;clear o1 o2 o3 o4 aa M;have T2:=(ae T1').set2 (.int .i64 8);have Y2:=Y1.set (o:=2) (.int .i64 8);have B2:KB b w _:=B1.set 2 (.int .i64 8);have U:=af Q;clear Q;go_wp2_with fail;generalize wc.setCell ⟨b,2,none⟩ (.int .i64 8)=W2 at *
     clear k0 H I f0 f1 f2 T1' Y1 B1;have T2':=af T2;obtain⟨k0,H,I,f0,f1,f2,a3⟩:=T2;have R:Hid (((UInt8.ofNat (L+X)).toNat:Int)=(L:Int)+(X:Int)):=by
      show((UInt8.ofNat (L+X)).toNat:Int)=(L:Int)+(X:Int);rw[ae a4];omega
     have T:(leS (m1/8) V1).length<=20000:=by have:=ae U;have:=ae D;omega
     have J:=af T;clear T;go_cut[]from 7 to 62 (fun wc2=>∃v',Three wc2 b v' (.int .i64 ((L:Int)+(X:Int))) (.int .i64 8)/\Bys wc2 b v' (leS (m1/8) V1++[UInt8.ofNat (L+X)])/\KB b w wc2)
     case first=>
      go_region_law (refine aX rfl (.tmp 47) (.tmp 53) 22 rfl (b+1) 5 i0 (.int .u8 0) 1 1 a06 hi a9 ba bb rfl (by decide) _ _ _ (by simp[Act.eval]) (Y2.alloc _) ⟨W2.heap.size,0,none⟩ 1 1 [.int .u8 ((L:Int)+(X:Int))] (by simp[Act.eval]) rfl (by intro j u hj;match j,hj with | 0,hj=>simp at hj;subst hj;simp[Addr.add]) (by intro u hu;simp at hu;subst hu;rfl) (by have:=ae J;unfold maxLen;omega) (by have:=ae J;omega) (by simp;omega) ?_;intro v' w' p f Z;clear Z;rw[←ae R]at p;obtain⟨⟨g',bc,rfl⟩,T3,Y3,B3⟩:=Bh (ae T2') Y2 B2 (by first|exact(a0c _ _).alloc (by omega) _|exact((a0c _ _).alloc (by omega) _).drew) (by first|exact(bT.refl _ _).alloc _|exact((bT.refl _ _).alloc _).drew) (by first|exact Y2.alloc _|exact(Y2.alloc _).drew) p f;clear p f;have T3':=af T3;obtain⟨q0,q1,q2,e0,e1,e2,b2⟩:=T3)
      all_goals
       go_wp2_with fail
       go_meet
       exact⟨_,(ae T3').set0 _,Y3.set _,B3.set _ _⟩
     case rest=>
      obtain⟨v',T4,Y4,B4⟩:=hcut;clear k0 H I f0 f1 f2 T2' Y2 B2 a3;obtain⟨va,vc,rfl⟩:=Y4.form;have T4':=af T4;obtain⟨k0,H,I,f0,f1,f2,b3⟩:=T4;go_wp2;go_roundw
      case rel=>
       refine⟨k+1,by have:=ae Hk;omega,by go_num,by rw[←ae g];go_num,?_,(B4.set _ _).set _ _⟩;rw[ae B,show m+(k+1)=m1+1 by have:=ae K;omega];refine⟨ae O1,.slice va (leS (m1/8) V1++[UInt8.ofNat (L+X)]).length vc,?_,?_⟩
       . rw[ae O2,ae O3];exact((ae T4').set1 _).set2 _
       . rw[ae O4];exact(Y4.set _).set _
      case measure=>simp[intOf];omega
    .
     have be:((r:Int)+1 == 8)=false:=by simp;omega
     have t:r<7:=by omega
     obtain⟨o1,o2,o3⟩:=ae E t;have O1:=af o1;have O2:=af o2;have O3:=af o3;have Y:Hid ((m1+1)%8=r+1):=by show(m1+1)%8=r+1;have:=ae a0;omega
     clear o1 o2 o3 t aa;go_wp2;go_roundw
     case rel=>
      refine⟨k+1,by have:=ae Hk;omega,by go_num,by rw[←ae g];go_num,?_,B1.set _ _⟩;rw[ae B,show m+(k+1)=m1+1 by have:=ae K;omega];refine⟨ae O1,.slice sa (leS (m1/8) V1).length scap,?_,?_⟩
      . rw[ae O2,ae Y];exact(ae T1').set2 _
      . rw[ae O3];exact Y1.set _
     case measure=>simp[intOf];omega
  .
   have S:k=c:=by omega
   subst S;go_wp2
   go_end0
   exact⟨rfl,z,a⟩
theorem lB(b V m:Nat)(w:World)(h:Out w b V m)(d:m<=90000) :
  Calls prog 195 #[.pointer (some ⟨b,0,none⟩)] w fun e w'=>e = .returned (.tuple #[])/\Out w' b V (8*((m+7)/8))/\Below b w w':=by
 have j:=af h;obtain⟨k,v,u,n⟩:=h;obtain⟨k0,o,x,f0,f1,f2,q⟩:=u;by_cases l:m%8=0
 .
  have g:((m%8:Nat):Int)=0:=by omega
  have s:Hid (8*((m+7)/8)=m):=by show _=_;omega
  clear l k n k0 o d;go_enter func195,ntmps195;go_wp2
  go_end0
  exact⟨rfl,by rw[ae s];exact ae j,a0c _ _⟩
 .
  have g:(0:Int)<((m%8:Nat):Int):=by omega
  have t:((m%8:Nat):Int)<8:=by omega
  have a:Hid (m+(8-m%8)=8*((m+7)/8)):=by show _=_;omega
  have i:Hid ((8-((m%8:Nat):Int)).toNat=8-m%8):=by show(8-((m%8:Nat):Int)).toNat=8-m%8;omega
  have f:=af d;clear l k n k0 o d;generalize ((m%8:Nat):Int)=r at *
  go_enter func195,ntmps195;go_wp2_with fail;refine(pu b V m 0 (8-r) _ (ae j) (by omega) (by omega) (by omega) (by omega) (by have:=ae f;omega)).mono ?_;rintro e w1 ⟨rfl,c,hb⟩;rw[ae i]at c;simp only[Int.toNat_zero,Nat.zero_mod,Nat.zero_mul,a05]at c;rw[ae a]at c;have p:=af c;clear c;go_wp2
  go_end0
  exact⟨rfl,ae p,hb⟩
theorem kK(s:ByteArray):s.data.toList.length=s.size:=by simp
theorem MN(l:List UInt8)(s:ByteArray):(⟨l.toArray⟩:ByteArray)++s=⟨(l++s.data.toList).toArray⟩:=by
 apply ByteArray.ext;rw[a1C];apply Array.ext';simp
theorem Ai(s:ByteArray)(w:World)(A:s.size<=300) :
  CD 168 #[.string s] w (.string ⟨(leS 5 (gz s.size)++s.data.toList).toArray⟩):=by
 have E:(s.size:Int)<=300:=by omega
 have B:=af (yo w 272);have m:Hid (Below w.heap.size w (w.alloc (.cells #[.slice none 0 0,.int .i64 0,.int .i64 0] 272))):=(a0c _ _).alloc (a0a _) _;have q:=af A;clear A;go_enter func168,ntmps168;go_wp2_with fail;refine(pu _ 0 0 1 1 _ (ae B) (by omega) (by omega) (by omega) (by omega) (by omega)).mono ?_;rintro e x1 ⟨rfl,r,d⟩;go_wp2_with fail;refine(pu _ _ _ 0 2 _ r (by omega) (by omega) (by omega) (by omega) (by omega)).mono ?_;rintro e x2 ⟨rfl,h2,f⟩;have a:Out x2 w.heap.size 1 3:=h2;clear r h2;go_wp2_with fail;refine(lB _ _ _ _ a (by omega)).mono ?_;rintro e x3 ⟨rfl,t,g⟩;have b:Out x3 w.heap.size 1 8:=t;have n:=af (((ae m).trans d).trans (f.trans g));clear a t d f g;go_wp2_with fail;refine(pu _ _ _ (s.size:Int) 16 _ b (by omega) (by omega) (by omega) (by omega) (by omega)).mono ?_;rintro e x4 ⟨rfl,u,h⟩;clear b;go_wp2_with fail;refine(pu _ _ _ (65535-(s.size:Int)) 16 _ u (by omega) (by omega) (by omega) (by omega) (by omega)).mono ?_;rintro e x5 ⟨rfl,x,i⟩;have z:1+((s.size:Int).toNat%p2 (16:Int).toNat*p2 8)+((65535-(s.size:Int)).toNat%p2 (16:Int).toNat*p2 (8+(16:Int).toNat))=gz s.size:=by
  have e16:p2 (16:Int).toNat=65536:=by decide
  have e8:p2 8=256:=by decide
  have e24:p2 (8+(16:Int).toNat)=16777216:=by decide
  rw[e16,e8,e24];unfold gz;have:=ae q;rw[a0l,show(65535-(s.size:Int)).toNat=65535-s.size by omega,a08 (by omega),a08 (by omega)]
 have l:Out x5 w.heap.size (gz s.size) 40:=by rw[←z];exact x
 obtain⟨_,v,T,Y⟩:=l;have j:=kX Y;have o:=af ((ae n).trans (h.trans i));obtain⟨k0,F,G,f0,f1,f2,D⟩:=T;have k:leS (40/8) (gz s.size)=leS 5 (gz s.size):=rfl;rw[k]at j;have p:=af (MN (leS 5 (gz s.size)) s);clear u x z h i Y F G k;have c:=aF 5 (gz s.size);generalize y:leS 5 (gz s.size)=P at j p c;have HP:=af y;have C:¬ 9223372036854775807<P.length+s.size:=by have:=ae q;omega
 clear y c;go_wp2;go_ret;exact⟨by rw[ae HP,←ae p];rfl,ae o⟩
theorem jP(k:Int)(w:World) :
  Calls prog 118 #[.int .i64 k] w fun e w'=>e = .returned (.slice (some ⟨w.heap.size,0,none⟩) 2 2)/\w'=w.alloc (.cells #[.int .i64 1,.int .i64 1,.int .i64 k,.int .i64 2] 139):=by
 go_enter func118,ntmps118;go_wp2;go_ret;exact⟨rfl,rfl⟩
theorem NY(w:World)(a b c d e f:Value)(t:TypeId)(g:Nat)(i:w.heap.size=g):∀(j:Nat) (u:Value),[a,b,c,d,e,f][j]?=some u->(w.alloc (.cells #[a,b,c,d,e,f] t)).cell? ((⟨g,0,none⟩:Addr).add j)=some u:=by
 subst i;intro j u h
 match j,h with
 | 0,h=>simp at h;subst h;simp[Addr.add]
 | 1,h=>simp at h;subst h;simp[Addr.add]
 | 2,h=>simp at h;subst h;simp[Addr.add]
 | 3,h=>simp at h;subst h;simp[Addr.add]
 | 4,h=>simp at h;subst h;simp[Addr.add]
 | 5,h=>simp at h;subst h;simp[Addr.add]
theorem NX(a b c d e f:Int):∀u∈[Value.int .i64 a,.int .i64 b,.int .i64 c,.int .i64 d,.int .i64 e,.int .i64 f],u.oneCell'=true:=by
 intro u g;simp at g;rcases g with rfl|rfl|rfl|rfl|rfl|rfl<;>rfl
theorem LY(s:ByteArray)(i:Nat)(h:i<s.size):s.data.toList.take (i+1)=s.data.toList.take i++[s[i]]:=by
 have a:=kK s;rw[List.take_add_one,List.getElem?_eq_getElem (by omega)];simp;rfl
theorem y7(m:List UInt8)(b:UInt8):bC m++[((b.toNat:Int),(8:Int))]=bC (m++[b]):=by simp[bC]
theorem FW(s:ByteArray)(w:World):∃(c:Nat) (x:World) (cs:Array Value) (f:Nat×Nat),(convert 9 22 (.string s)).run prog w = .ok (.slice (some ⟨w.heap.size,0,none⟩) s.size c) x/\Below w.heap.size w x/\x.heap[w.heap.size]?=some (.cells cs 5 f)/\∀i (h:i<s.size),cs[i]?=some (.int .u8 (s[i].toNat:Int)):=by
 refine⟨_,_,bytesRow s (grownCap w s.size 0 5),((bytesRow s (grownCap w s.size 0 5)).size,(bytesRow s (grownCap w s.size 0 5)).size+1),run_bytes_of_string w _ _ _ s a2c a06 a2b,?_,?_,?_⟩
 . exact((a0c _ w).drew).alloc (by simp) _
 . exact Array.getElem?_push_size
 . intro i h;exact bytesRow_at s (grownCap w s.size 0 5) i h
theorem LA{i:Nat}{a:Array Value}{t:TypeId}{f:Nat×Nat}{v:Value}(h:w.heap[b]?=some (.cells a t f))(c:a[i]?=some v):w.cell? ⟨b,i,none⟩=some v:=by
 unfold World.cell?;rw[h];exact c
theorem vu(s:ByteArray)(w:World)(U:s.size<=300) :
  CD 79 #[.string s] w (.string ⟨(leS 5 (gz s.size)++s.data.toList).toArray⟩):=by
 obtain⟨i0,C,H,I,J⟩:=a0r Tryz.infoPiece;have ab:(s.size:Int)<=300:=by omega
 have hI:¬ (300:Int)<(s.size:Int):=by omega
 obtain⟨N,hN⟩:∃N:Nat,65535-s.size=N:=⟨_,rfl⟩;have hx:bits .xor .i64 (s.size:Int) 65535=(N:Int):=by
  have:=mj s.size 65535 (by omega) (by omega);rw[Mt s.size U,hN]at this;exact this
 have HH:Hid (ep s.size=[(1,1),(0,2)]++[(0,5),((s.size:Int),16),((N:Int),16)]):=by show _=_;unfold ep;rw[hN];rfl
 have P:Hid ((w.alloc (.cells #[.int .i64 1,.int .i64 1,.int .i64 0,.int .i64 2] 139)).ownsRow w.heap.size 139 2 (.slice (some ⟨w.heap.size,0,none⟩) 2 2) 2 [.int .i64 1,.int .i64 1,.int .i64 0,.int .i64 2]):=a0Y w #[.int .i64 1,.int .i64 1,.int .i64 0,.int .i64 2] 2 (a0a _) (by unfold maxLen;omega) rfl;have K:Hid (Below w.heap.size w (w.alloc (.cells #[.int .i64 1,.int .i64 1,.int .i64 0,.int .i64 2] 139))):=(a0c _ _).alloc (a0a _) _;have E:=af (wM s.data.toList (by rw[kK];exact U));have O:=af (kK s);have bd:Hid (2+3<=maxLen/\(2+3)*16<=140737488355328):=by show _/\_;unfold maxLen;omega
 clear U hN;go_enter func79,ntmps79;go_wp2_with fail;refine(jP 0 w).mono ?_;rintro e x1 ⟨rfl,r⟩;have x:=af (show x1.ownsRow w.heap.size 139 2 (.slice (some ⟨w.heap.size,0,none⟩) 2 2) 2 [.int .i64 1,.int .i64 1,.int .i64 0,.int .i64 2] by rw[r];exact ae P);have u:=af (show Below w.heap.size w x1 by rw[r];exact ae K);have n:=(ae u).size;clear r;go_wp2_with (at_builtin;refine a0B _ rfl _ _ 136 rfl w.heap.size 139 i0 (.agg #[.int .i64 0,.int .i64 0]) 2 16 a1q C H I J rfl (by decide) (.slice (some ⟨w.heap.size,0,none⟩) 2 2) _ _ rfl (a0m (ae x) _) ⟨x1.heap.size,0,none⟩ 3 3 [.int .i64 0,.int .i64 5,.int .i64 (s.size:Nat),.int .i64 16,.int .i64 (N:Nat),.int .i64 16] rfl rfl (NY _ _ _ _ _ _ _ _ _ rfl) (NX _ _ _ _ _ _) (ae bd).1 (ae bd).2 (au n _) ?_;intro v' x2 c a f;clear f;obtain⟨c3,x3,cs,fz,R,o,B,A⟩:=FW s x2);have j:Below w.heap.size w x2:=aH (v:=.slice (some ⟨w.heap.size,0,none⟩) 2 2) a (ae x) (a0a _) n (ae u);have g:Pcs x2 w.heap.size v' (ep s.size):=by rw[ae HH];exact c
 have F:=af (g.later o (a0a _));have L:=af (ah j o);have M:Hid (∀W,bp 5 x3 W->∀i (C:i<s.size),W.cell? ⟨x2.heap.size,i,none⟩=some (.int .u8 (s[i].toNat:Int))):=fun W h i C=>LA (h _ _ _ B) (A i C);generalize x2.heap.size=G at *
 obtain⟨va,vc,rfl⟩:=(ae F).form;have S:Hid ((ep s.size).length=5):=rfl;clear c a j g R o A B
 go_loopw [4,6,23] (fun v _ i wr=>∃k:Nat,k<=s.size/\i = .int .i64 k/\Pcs wr w.heap.size v (ep s.size++bC (s.data.toList.take k))/\bp 5 x3 wr/\Below w.heap.size w wr) (fun _ _ i _=>s.size-(intOf i).toNat)
 case atStart=>exact⟨0,a0g _,rfl,by simpa[bC]using ae F,bp.refl _ _,ae L⟩
 case round=>
  obtain⟨k,hk,rfl,hq,l,d⟩:=hrel;have b:Hid ((ep s.size++bC (s.data.toList.take k)).length=5+k):=by
   show _=_;rw[a0i,ae S,kV,a0z,ae O];omega
  obtain⟨Y,Z,rfl⟩:=hq.formN (ae b);by_cases p:k<s.size
  .
   have aa:(k:Int)<(s.size:Int):=by omega
   have Q:=ae M wr l k p;have X:(s[k].toNat:Int)<256:=by have:=a2s s[k];omega
   have V:Hid (ep s.size++bC (s.data.toList.take k)++[((s[k].toNat:Int),(8:Int))]=ep s.size++bC (s.data.toList.take (k+1))):=by show _=_;rw[a0O,y7,LY s k p]
   have t:Hid (5+k+1<=maxLen/\(5+k+1)*16<=140737488355328):=by show _/\_;unfold maxLen;omega
   have q:=af (hq.own (ae b));have z:=d.size;have m:=af (a0b d l);clear hq d l;go_wp2_with (at_builtin;refine a0B _ rfl _ _ 136 rfl w.heap.size 139 i0 (.agg #[.int .i64 0,.int .i64 0]) 2 16 a1q C H I J rfl (by decide) (.slice Y (5+k) Z) _ _ rfl (a0m (ae q) _) ⟨wr.heap.size,0,none⟩ 1 1 [.int .i64 (s[k].toNat:Int),.int .i64 8] rfl rfl (sH _ _ _ _) (sG _ _) (ae t).1 (ae t).2 (au z _) ?_;intro v' y2 c a f;clear f);have j:=aH (v:=.slice Y (5+k) Z) a (ae q) (a0a _) z (ae m).1;have g:=H5 (ae b) c;rw[ae V]at g;have D:=((ae m).2.alloc (.cells #[.int .i64 (s[k].toNat:Int),.int .i64 8] 139)).grown (a0m (ae q) _) (by decide) a;clear c a;go_wp2;go_roundw
   case rel=>exact⟨k+1,by omega,by go_num,g,D,j⟩
   case measure=>simp[intOf];omega
  .
   obtain rfl:k=s.size:=by omega
   have y:Hid (s.data.toList.take s.size=s.data.toList):=a0o (by rw[ae O];exact a0a _);rw[ae y]at hq b;have T:Hid (pt (ep s.size++bC s.data.toList)=leS 5 (gz s.size)++s.data.toList):=by have:=ae E;rw[ae O]at this;exact this
   have HP:=af (fI Y Z (ep s.size++bC s.data.toList) wr (hq.rowN (ae b)) (by rw[ae b];omega));rw[ae b,ae T]at HP;clear hq hk p l;go_wp2_with fail;refine(ae HP).mono ?_;rintro e y1 ⟨rfl,hy⟩;go_wp2;go_ret;exact⟨rfl,ah d hy⟩
theorem qq(s:ByteArray)(w:World)(b:s.size<=1048576) :
  CD 79 #[.string s] w (.string ⟨(fs s.data.toList).toArray⟩):=by
 by_cases a:s.size<=300
 .
  have e:fs s.data.toList=leS 5 (gz s.size)++s.data.toList:=by unfold fs;rw[kK,a0d a]
  rw[e];exact vu s w a
 .
  have c:(300:Int)<(s.size:Int):=by omega
  have e:fs s.data.toList=[]:=by unfold fs;rw[kK,a0e a]
  rw[e];clear b a e;go_enter func79,ntmps79;go_wp2;go_ret;exact⟨rfl,a0c _ _⟩
attribute [local go_sem ↓] Go.wp_at_zero Go.wp_at_succ
end Go.Proofs.YtgmfehnnebkaoaaGreatDoor
namespace Go.Proofs.YtgmfehnnebkaoaaGreatDoor
open Go.Proofs.Tryz
open Corb
variable {l:List Int}{s:List UInt8}
def bitsOf(l:List (Int×Int)):List Int:=l.map (·.2)
def numsOf(l:List (Int×Int)):List Int:=l.map (·.1)
theorem Bi(V p q:Nat)(l:List Int):dN V (p+q) l=dN (V/2 ^ p) q l:=by
 induction l generalizing q with
 | nil=>rfl
 | cons b l ih=>
  simp only[dN];rw[a17,←a0Q,←ih,a14]
theorem H9(l:List (Int×Int))(W:Nat)(h:aW l=true):dN ((aV l).1+W*2 ^ (aV l).2) 0 (bitsOf l)=numsOf l:=by
 induction l generalizing W with
 | nil=>rfl
 | cons p l ih=>
  have a:pOk p.1 p.2=true/\aW l=true:=by simpa[aW]using h
  obtain⟨⟨d,e⟩,n0,n1⟩:=aP.1 a.1;have e1:aV [p]=(p.1.toNat,p.2.toNat):=by simp[aV,nE,iu]
  have e2:aV (p :: l)=(p.1.toNat+(aV l).1*2 ^ p.2.toNat,p.2.toNat+(aV l).2):=by
   rw[show p :: l=[p]++l from rfl,mQ,e1]
  have b:p.1.toNat<2 ^ p.2.toNat:=by
   have:((p2 p.2.toNat:Nat):Int)=((2 ^ p.2.toNat:Nat):Int):=rfl;omega
  have c:(aV (p :: l)).1+W*2 ^ (aV (p :: l)).2=p.1.toNat+((aV l).1+W*2 ^ (aV l).2)*2 ^ p.2.toNat:=by
   rw[e2];simp only;rw[a0Q,a1o,a14]
   congr 2
   rw[a1d (2 ^ p.2.toNat),a1G]
  rw[c];show((((p.1.toNat+((aV l).1+W*2 ^ (aV l).2)*2 ^ p.2.toNat)/2 ^ 0%2 ^ p.2.toNat:Nat):Int)) :: dN _ (0+p.2.toNat) (bitsOf l)=p.1 :: numsOf l;rw[Nat.pow_zero,Nat.div_one,Nat.add_mul_mod_self_right,a08 b];rw[show 0+p.2.toNat=p.2.toNat+0 by omega,Bi,Nat.add_mul_div_right _ _ (a1E _),a1T b,a0H,ih W a.2]
  congr 1
  omega
theorem Ik{l:List (Int×Int)}(h:aW l=true):fH (bitsOf l)=(aV l).2:=by
 have b:=wZ l h;have h2:(fH (bitsOf l):Int)=bP l:=by
  clear b;induction l with
  | nil=>rfl
  | cons p l ih=>
   have a:pOk p.1 p.2=true/\aW l=true:=by simpa[aW]using h
   obtain⟨⟨c,d⟩,_⟩:=aP.1 a.1;have:=ih a.2;simp only[bitsOf,a0C,bP,a0M]at this ⊢;rw[kM];omega
 omega
theorem Mn{l:List (Int×Int)}(h:lOk l=true):cO (pt l)=(aV l).1:=by
 have a:aW l=true:=by simp only[lOk,a0j]at h;exact h.1
 rw[ea h,cz,ve,a08];exact a0h (yJ l a) (a0T (by omega) (by omega))
open Go.RowKit
theorem tB(a:Option Addr)(cap n:Nat)(l:List (Int×Int))(w:World)(c:l.length=n)(h:nT w a l)(b:n<=1000000000) :
  CD 105 #[.slice a n cap] w (.int .i64 (po l)):=by
 subst c;exact gO a cap l w h b
theorem Rdr.over{w:World}{b p:Nat}{s:ByteArray}(h:Rdr w b s p)(a:8*s.size<p):Three w b (.string s) (.int .i64 (8*(s.size:Int))) (.bool true):=by
 unfold Rdr at h;rw[Nat.min_eq_right (by omega),a0F (by omega)]at h;exact h
theorem zM(h:eo l=false∨4000<l.length):ju s l=false/\zL s l=[]:=by
 have a:ju s l=false:=by
  unfold ju;rcases h with h|h
  . simp[h]
  . simp;omega
 exact⟨a,a0e (by simp[a])⟩
theorem JS(h:eo l=true)(a:l.length<=4000):ju s l=(decide (s.length=(fH l+7)/8)&&decide (cO s<2 ^ fH l)):=by
 simp[ju,h,a]
theorem Na(h:ju s l=false):zL s l=[]:=a0e (by simp[h])
theorem JR(h:ju s l=true):zL s l=dN (cO s) 0 l:=a0d h
theorem pw{v:Value}{a b:Bool}(h:a=b):Ending.returned (.tuple #[v,.bool a]) = .returned (.tuple #[v,.bool b]):=by rw[h]
def blank(l:List Int):List (Int×Int):=l.map fun b=>(0,b)
theorem mV(l:List Int):(blank l).length=l.length:=by simp[blank]
theorem Hg(b:Int):pOk 0 b=inB b 0 16:=by
 rw[a2j,aP,aI];have:=qA b.toNat
 constructor
 . exact fun h=>h.1
 . exact fun h=>⟨h,by omega,by omega⟩
theorem Jj(l:List Int):aW (blank l)=eo l:=by
 simp only[aW,eo,blank,List.all_map]
 congr 1
 funext b
 exact Hg b
theorem FJ(l:List Int)(h:eo l=true):bP (blank l)=(fH l:Int):=by
 induction l with
 | nil=>rfl
 | cons b l ih=>
  have a:(0<=b/\b<=16)/\eo l=true:=by simpa[eo]using h
  have:=ih a.2;simp only[bP,blank,a0C,a0M]at this ⊢;rw[kM,this];omega
theorem Cr(l:List Int)(a:l.length<=4000):po (blank l)=if eo l=true then(fH l:Int)else -1:=by
 unfold po lOk;rw[Jj,mV];rcases hb:eo l with _|_
 . simp
 . simp[a,FJ l hb]
theorem Cs(l:List Int)(b:Int):blank (l++[b])=blank l++[(0,b)]:=by simp[blank]
theorem FI(l:List Int)(k:Nat)(h:k<l.length):(blank l).getD k (0,0)=(0,l.getD k 0):=by
 simp[blank,List.getD,h]
theorem yV(b:Int)(w:World) :
  CD 104 #[.int .i64 b] w (.agg #[.int .i64 0,.int .i64 b]):=by
 go_enter func104,ntmps104;go_wp2;exact a0u (v:=.agg #[.int .i64 0,.int .i64 b]) (by simp[results,results104,go_sem]) rfl ⟨rfl,(a0c _ _).alloc (a0a _) _⟩
theorem F4(a:Option Addr)(cap:Nat)(l:List Int)(w:World)(h:bo w a l)(G:l.length<=4000) :
  Calls prog 103 #[.slice a l.length cap,.func (.func 104) #[] #[]] w fun e w'=>∃v,e = .returned v/\Pcs w' w.heap.size v (blank l)/\Below w.heap.size w w':=by
 have F:=af G;have L:(l.length:Int)<=4000:=by omega
 clear G;obtain⟨i0,M,C,D,E⟩:=a0r Tryz.infoPiece;go_enter func103,ntmps103;go_wp2_with fail
 go_loopw [5,7,10] (fun o _ i wr=>∃k:Nat,k<=l.length/\i = .int .i64 k/\Pcs wr w.heap.size o (blank (l.take k))/\Below w.heap.size w wr) (fun _ _ i _=>l.length-(intOf i).toNat)
 case atStart=>exact⟨0,a0g _,rfl,a00 _ _ _ _,a0c _ _⟩
 case round=>
  obtain⟨k,I,rfl,hq,b⟩:=hrel;by_cases t:k<l.length
  .
   obtain⟨g,o,rfl,N,H⟩:=(h.later b) (by omega);have c0:=H k t;have B:=af (bZ l k t);have s:Hid ((blank (l.take k)).length=k):=by show(blank (l.take k)).length=k;rw[mV];simp;omega
   have K:=af I;clear H I h;generalize l.getD k 0=y at *
   go_wp2_with fail;refine(yV y _).mono ?_;rintro e x1 ⟨rfl,n⟩;have q:=Pcs.later hq n (a0a _);have c:=ah b n;have r:=c.size;clear hq b n;go_wp2_with (at_builtin;refine a0B _ rfl _ _ 136 rfl w.heap.size 139 i0 (.agg #[.int .i64 0,.int .i64 0]) 2 16 a1q M C D E rfl (by decide) _ _ _ rfl (a0m q _) ⟨x1.heap.size,0,none⟩ 1 1 [.int .i64 0,.int .i64 y] rfl rfl (by intro j u p;match j,p with | 0,p=>simp at p;subst p;simp[Addr.add] | 1,p=>simp at p;subst p;simp[Addr.add]) (by intro u J;simp at J;rcases J with rfl|rfl<;>rfl) (by have:=ae s;have:=ae F;unfold maxLen;omega) (by have:=ae s;have:=ae F;omega) (by simp;omega) ?_;intro v' x2 m d x;clear x);have A:=aH (v:=u5) d q (a0a _) r c;have z:=mF m;rw[←Cs,←ae B]at z;clear m d q;go_wp2;go_roundw
   case rel=>exact⟨k+1,by have:=ae K;omega,by go_num,z,A⟩
   case measure=>simp[intOf];omega
  . have f:l.take k=l:=a0o (by omega);rw[f]at hq;obtain⟨va,vc,rfl⟩:=hq.form;clear f h;go_wp2;go_ret;exact⟨_,rfl,hq,b⟩
theorem GU(a:Addr)(w:World):(method 472 142 (.pointer (some a)) "loop.example/corbel/impl.pass").run prog w = .ok (248,.pointer (some a)) w:=by kernel_rfl
theorem F6(b:Nat)(s:ByteArray)(a:Option Addr)(cap:Nat)(l:List Int)(w:World)(h:nT w a (blank l))(hbo:eo l=true)(h4:l.length<=4000)(hs:s.size<=2000000)(hr:Rdr w b s 0)(hb:∀g o,a=some ⟨g,o,none⟩->0<l.length->g<b) :
  Calls prog 145 #[.slice a l.length cap,.func (.method "loop.example/corbel/impl.pass") #[.iface 142 (.pointer (some ⟨b,0,none⟩))] #[]] w fun e w'=>
   ∃v,e = .returned v/\al w' (b+1) v (dN (aE s) 0 l)/\Rdr w' b s (fH l)/\Below b w w':=by
 have Hbo:=af hbo;have H4:=af h4;have Hs:=af hs;have h4':(l.length:Int)<=4000:=by omega
 have hbl:=mV l;clear hbo h4 hs;obtain⟨i0,hi,hz0,hz1,hz2⟩:=a0r Tryz.infoInt;have mp:=GU ⟨b,0,none⟩;have Hb:=af hb;clear hb;go_enter func145,ntmps145;go_wp2_with fail
 go_loopw [5,7,10] (fun o _ i wr=>∃k:Nat,k<=l.length/\i = .int .i64 k/\al wr (b+1) o (dN (aE s) 0 (l.take k))/\Rdr wr b s (fH (l.take k))/\Below b w wr) (fun _ _ i _=>l.length-(intOf i).toNat)
 case atStart=>exact⟨0,a0g _,rfl,al.nil _ _,hr,a0c _ _⟩
 case round=>
  obtain⟨k,hk,rfl,hown,hrr,hbel⟩:=hrel;have hrl:=hrr.lt;by_cases hlt:k<l.length
  .
   obtain⟨g,o,rfl,hg,hc⟩:=h (by omega);have hgb:=ae Hb g o rfl (by omega);have hck:=hc k (by omega);rw[FI l k hlt]at hck;have c0:=(hbel.cell (p:=⟨g,o+k*2,none⟩) hgb).trans hck.1;have c1:=(hbel.cell (p:=⟨g,o+k*2+1,none⟩) hgb).trans hck.2;have htk:=af (bZ l k hlt);have hrd:=af (yz (aE s) 0 (l.take k) [l.getD k 0]);have hsu:=af (rE (l.take k) [l.getD k 0]);have hlk:Hid ((dN (aE s) 0 (l.take k)).length=k):=by show(dN (aE s) 0 (l.take k)).length=k;rw[wH];simp;omega
   obtain⟨y0,y1⟩:=Cq (ae Hbo) k hlt;have HK:=af hk;clear hc hk h hr hck hbl;generalize l.getD k 0=y at *
   obtain⟨c,rfl⟩:=a0n y0;go_wp2_with fail;refine(uK b (fH (l.take k)) c 0 s _ (hrr.alloc _) (ae Hs) (by omega)).mono ?_;rintro e x1 ⟨rfl,hr1,hk1⟩;have hown1:al x1 (b+1) u5 (dN (aE s) 0 (l.take k)):=hk1.own (a0m hown _) (a0s _);have hbel1:=(hbel.alloc (a0w hrl) (.cells #[.int .i64 0,.int .i64 (c:Int)] 139)).trans hk1.1;have hr1l:=hr1.lt;generalize hX:aE s/2 ^ fH (l.take k)%2 ^ c=X at *
   have HX:=af hX;clear hX hown hrr hbel hk1;go_wp2_with (at_builtin;refine a0B _ rfl _ _ 97 rfl (b+1) 3 i0 (.int .i64 0) 1 8 a0G hi hz0 hz1 hz2 rfl (by decide) _ _ _ rfl (a0m hown1 _) ⟨x1.heap.size,0,none⟩ 1 1 [.int .i64 (X:Int)] rfl rfl (by intro j u hj;match j,hj with | 0,hj=>simp at hj;subst hj;simp[Addr.add]) (by intro u hu;simp at hu;subst hu;rfl) (by have:=ae hlk;have:=ae H4;unfold maxLen;omega) (by have:=ae hlk;have:=ae H4;omega) (by simp;omega) ?_;intro v' x3 hown hgrow hnil;clear hnil);have hr3:Rdr x3 b s (fH (l.take k)+c):=hr1.kept (aH (v:=u5) hgrow hown1 (a0a _) (by omega) (a0c _ _));have hbel3:Below b w x3:=aH (v:=u5) hgrow hown1 (a07 _) (by omega) hbel1;have hown3:=nf hown;clear hown hgrow hown1 hr1 hbel1;go_wp2;go_roundw
   case rel=>
    refine⟨k+1,by have:=ae HK;omega,by go_num,?_,?_,hbel3⟩
    . rw[ae htk,ae hrd];simp only[dN,a0H,a0l];rw[ae HX];exact hown3
    . rw[ae htk,ae hsu];simp only[fH,a0C,a1I,a0M,a3z,a0l,a05];exact hr3
   case measure=>simp[intOf];omega
  . have hlk2:l.take k=l:=a0o (by omega);rw[hlk2]at hown hrr;obtain⟨va,vc,rfl⟩:=hown.form;clear hlk2 h hr;go_wp2;go_ret;exact⟨_,rfl,hown,hrr,hbel⟩
theorem IF(b:Nat)(s:ByteArray)(a:Option Addr)(cap:Nat)(l:List Int)(w:World)(h:nT w a (blank l))(f:eo l=true)(j:l.length<=4000)(m:s.size<=2000000)(k:Rdr w b s 0)(hb:∀g o,a=some ⟨g,o,none⟩->0<l.length->g<b) :
  Calls prog 106 #[.iface 142 (.pointer (some ⟨b,0,none⟩)),.slice a l.length cap] w fun e w'=>
   ∃v,e = .returned v/\al w' (b+1) v (dN (aE s) 0 l)/\Rdr w' b s (fH l)/\Below b w w':=by
 go_enter func106,ntmps106;go_wp2_with fail;refine(F6 b s a cap l _ h f j m k hb).mono ?_;rintro e w1 ⟨v,rfl,c,i,d⟩;obtain⟨va,vc,rfl⟩:=c.form;go_wp2;go_ret;exact⟨_,rfl,c,i,d⟩
theorem rU(s:ByteArray)(a:Option Addr)(cap:Nat)(l:List Int)(w:World)(h:bo w a l)(hs:s.size<=2000000)(hl:l.length<=2000000) :
  Calls prog 64 #[.string s,.slice a l.length cap] w fun e w'=>∃v,e = .returned (.tuple #[v,.bool (ju s.data.toList l)])/\al w' w.heap.size v (zL s.data.toList l)/\Below w.heap.size w w':=by
 have ac:(l.length:Int)<=2000000:=by omega
 have Y:=af hs;clear hs hl;by_cases S:l.length<=4000
 .
  have V:(l.length:Int)<=4000:=by omega
  have G:=af S;have C:=af (Cr l S);have j:=af (mV l);go_enter func64,ntmps64;go_wp2_with fail;refine(F4 a cap l _ h (ae G)).mono ?_;rintro e x1 ⟨v,rfl,hq,J⟩;obtain⟨va,vc,rfl⟩:=hq.formN (ae j);have u:=hq.rowN (ae j);clear h S;go_wp2_with fail;refine(tB va vc l.length (blank l) _ (ae j) u (by have:=ae G;omega)).mono ?_;rintro e x2 ⟨rfl,A⟩;rw[ae C];have O:=hq.later A (a0a _);have d:=O.rowN (ae j);have c:=ah J A;have Q:=af c.size;clear u J A hq;rcases k:eo l with _|_
  .
   have b:=af (zM (s:=s.data.toList) (a0x k));rw[a0e (by simp)];go_wp2
   go_ret2
   refine⟨_,pw (ae b).1.symm,?_,c⟩;rw[(ae b).2];exact al.nil _ _
  .
   have U:=af k;have n:=af (JS (s:=s.data.toList) k (ae G));have P:s.data.toList.length=s.size:=by simp
   have X:=Ob k;have hS:(fH l:Int)<=64000:=by have:=ae G;omega
   have aa:(0:Int)<=(fH l:Int):=by omega
   have r:=af (D6 s.data.toList (fH l));rw[P]at n r;rw[a0d rfl];have x:=af (JR (s:=s.data.toList) (l:=l));have t:=af (Na (s:=s.data.toList) (l:=l));have Z:cO s.data.toList=aE s:=rfl;rw[Z]at n r x;clear k X P Z;generalize hm:fH l=m at *
   have Hm:=af hm;clear hm;by_cases he:(s.size:Int)=((m:Int)+7)/8
   .
    have L:s.size=(m+7)/8:=by omega
    have I:=NQ x2 s 144;have z:Below x2.heap.size x2 (x2.alloc (.cells #[.string s,.int .i64 0,.bool false] 144)):=(a0c _ _).alloc (a0a _) _;have q:=d.later z;have M:∀g o,va=some ⟨g,o,none⟩->0<l.length->g<x2.heap.size:=by
     intro g o e h0;obtain⟨g',o',e',ab,_⟩:=d (by rw[ae j];exact h0);rw[e]at e';simp only[a0k,a0D,a0P]at e';omega
    have R:=af L;have HG:=af M;clear L M d;go_wp2_with fail;refine(IF x2.heap.size s va vc l _ q (ae U) (ae G) (ae Y) I (ae HG)).mono ?_;rintro e x3 ⟨v,rfl,p,E,K⟩;have f:=ah c (z.trans K);rw[ae Hm]at E;clear I z q K c O;obtain⟨va',vc',rfl⟩:=p.form;go_wp2_with fail;refine(rB x2.heap.size m s _ E (ae Y) (by have:=ae R;omega)).mono ?_;rintro e x4 ⟨rfl,W,B⟩;have D:=B.own p (a0s _);have i:=f.trans (B.1.mono (ae Q));clear p E W B f;by_cases F:aE s/2 ^ m%2 ^ ((8-m%8)%8)=0
    .
     rw[a0F F];have N:ju s.data.toList l=true:=by
      rw[ae n,a0F (ae R),a0F ((ae r (ae R)).1 F)];rfl
     have H:=af N;clear N F;go_wp2
     go_ret2
     refine⟨_,pw (ae H).symm,?_,i⟩;rw[ae x (ae H)];exact al.mono D (Nat.le_succ_of_le (ae Q))
    .
     rw[a0v F];have b:ju s.data.toList l=false:=by
      rw[ae n,a0v (fun h=>F ((ae r (ae R)).2 h))];simp
     have y:=af b;have T:=af (ae t b);clear b F;go_wp2
     go_ret2
     refine⟨_,pw (ae y).symm,?_,i⟩;rw[ae T];exact al.nil _ _
   .
    have b:ju s.data.toList l=false:=by
     rw[ae n,a0v (by omega)];rfl
    have ad:((s.size:Int) != ((m:Int)+7)/8)=true:=by simpa using he
    have y:=af b;have T:=af (ae t b);clear b;go_wp2
    go_ret2
    refine⟨_,pw (ae y).symm,?_,c⟩;rw[ae T];exact al.nil _ _
 .
  have b:=af (zM (s:=s.data.toList) (l:=l) (Or.inr (by omega)));have V:4000<(l.length:Int):=by omega
  clear S;go_enter func64,ntmps64;go_wp2
  go_ret2
  refine⟨_,pw (ae b).1.symm,?_,a0c _ _⟩;rw[(ae b).2];exact al.nil _ _
end Go.Proofs.YtgmfehnnebkaoaaGreatDoor
