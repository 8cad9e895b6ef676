/- Of what the proof is made: 27 texts, one behind the other. -/
import Derived.Test.YtlpmnnjlmjffpaaGreatDoorM9
import Derived.Test.YtlpmnnjlmjffpaaGreatDoorM8
import Derived.Test.YtlpmnnjlmjffpaaGreatDoorM1
import Derived.Test.YtlpmnnjlmjffpaaGreatDoorM2
import Derived.Deep.CutRange
import Derived.Laws.IdiomStrings
import Derived.Laws.OwnMore
import Derived.Test.YtlpmnnjlmjffpaaGreatDoorM4
import Derived.Test.YtlpmnnjlmjffpaaGreatDoorM3
import Derived.Deep.RegionHeld3
import Derived.Deep.DrawnRows
set_option maxRecDepth 100000
set_option linter.unusedSimpArgs false
set_option linter.unusedVariables false
set_option maxHeartbeats 6400000
namespace Go.Proofs.YtlpmnnjlmjffpaaGreatDoor
open Go.Proofs.Tryz
open Go.RowKit Corb
variable {P V b c crc g how i j k lg m o pk st:Nat}{W W2 WA w w':World}{l:List UInt8}{nm:ByteArray}{v v' v1:Value}{x y:Int}{xs:List Int}
def Bys(w:World)(b:Nat)(v:Value)(l:List UInt8):Prop:=w.ownsRow (b+1) 5 1 v l.length (cn l)
theorem Bys.form(h:Bys w b v l):∃a cap,v = .slice a l.length cap:=by
 rcases h.2 with⟨e,c⟩|⟨g,cap,_,e,_⟩
 . exact⟨none,0,by rw[e,c]⟩
 . exact⟨_,cap,e⟩
theorem Bys.set(h:Bys w b v l)(u:Value):Bys (w.setCell ⟨b,o,none⟩ u) b v l:=
 ownsRow_setCell_below h (a:=⟨b,o,none⟩) (a0p b) u
theorem Bys.drew(h:Bys w b v l):Bys w.drew b v l:=h
def Out(w:World)(b V m:Nat):Prop:=
 V<p2 m/\∃v,Three w b v (.int .i64 (V/p2 (8*(m/8)):Nat)) (.int .i64 (m%8:Nat))/\Bys w b v (leS (m/8) V)
theorem zK(V m x:Nat)(a:V<p2 m)(b:x<=1)(c:m%8<7) :
  V+x*p2 m<p2 (m+1)/\(V+x*p2 m)/p2 (8*((m+1)/8))=V/p2 (8*(m/8))+x*p2 (m%8)/\leS ((m+1)/8) (V+x*p2 m)=leS (m/8) V:=by
 refine⟨add_lt V x m a b,?_,?_⟩
 . rw[show(m+1)/8=m/8 by omega];have:=wz V x m (m/8) (by omega);rw[show m-8*(m/8)=m%8 by omega]at this;exact this
 . rw[show(m+1)/8=m/8 by omega];exact rD (m/8) V x m (by omega)
theorem zJ(V m x:Nat)(e:V<p2 m)(f:x<=1)(g:m%8=7) :
  V+x*p2 m<p2 (m+1)/\(V+x*p2 m)/p2 (8*((m+1)/8))=0/\(m+1)%8=0 /\
   leS ((m+1)/8) (V+x*p2 m)=leS (m/8) V++[UInt8.ofNat (V/p2 (8*(m/8))+x*p2 (m%8))]:=by
 have b:=add_lt V x m e f;refine⟨b,?_,by omega,?_⟩
 .
  apply a11;have:p2 (8*((m+1)/8))=2 ^ (m+1):=by unfold p2;rw[show 8*((m+1)/8)=m+1 by omega]
  rw[this];exact b
 . rw[show(m+1)/8=m/8+1 by omega];have a:=rD (m/8) V x m (by omega);have d:=wz V x m (m/8) (by omega);rw[show m-8*(m/8)=m%8 by omega]at d;have c:=wM (V+x*2 ^ m) (m+1) (m/8) b (by omega);rw[show m+1-8*(m/8)=8 by omega]at c;show leS (m/8) (V+x*2 ^ m)++[UInt8.ofNat ((V+x*2 ^ m)/2 ^ (8*(m/8))%256)]=_;rw[a0U c,a,d];rfl
theorem rC(V m:Nat)(a:V<p2 m):V/p2 (8*(m/8))<p2 (m%8):=by
 have:=wM V m (m/8) a (by omega);rw[show m-8*(m/8)=m%8 by omega]at this;exact this
theorem oq(k:Nat)(h:k<256):(UInt8.ofNat k).toNat=k:=by
 have:k%256=k:=a0U h;simp[this]
theorem tC{v2:Value}{x:UInt8}(T2:Three W2 b v v1 v2)(Y2:Bys W2 b v l)(j:Below b w W2)
  (d:Below (b+1) W2 WA) (a:w'.ownsRow (b+1) 5 1 v' (l.length+1) (cn l++[.int .u8 (x.toNat:Int)])) (c:WA.grownBy w' v.ownBlock) :
  (∃g cap,v' = .slice (some ⟨g,0,none⟩) (l.length+1) cap)/\Three w' b v v1 v2/\Bys w' b v' (l++[x])/\Below b w w':=by
 have h:=T2.2.2.2.2.2.2;have i:=a0j h d.size;have f:∀k,v.ownBlock=some k->b+1<=k:=fun k m=>(Y2.lt k m).1;have hb:Below (b+1) W2 w':=d.grown c (by omega) f;refine⟨?_,T2.kept hb,?_,j.trans (hb.mono (by omega))⟩
 .
  rcases a.2 with⟨_,n⟩|⟨g,cap,_,e,_⟩
  . omega
  . exact⟨g,cap,e⟩
 . show w'.ownsRow (b+1) 5 1 v' (l++[x]).length (cn (l++[x]));simpa[cn]using a
theorem Ky(n k:Nat):n%p2 (k+1)=n%p2 k+n/p2 k%2*p2 k:=zj n k
theorem xf(V n k m:Nat):V+n%p2 (k+1)*p2 m=V+n%p2 k*p2 m+n/p2 k%2*p2 (m+k):=by
 rw[Ky,a1y,a1P,show p2 k*p2 m=p2 (m+k) by unfold p2;rw[←a0P,a2p]];omega
theorem yC(n k:Nat):n/p2 k/2=n/p2 (k+1):=ky n k
theorem oQ(b V m:Nat)(num bits:Int)(w:World)(h:Out w b V m)(n0:0<=num)(n1:num<65536)(b0:0<=bits)(b1:bits<=16)(hm:m<=100000) :
  Calls prog 224 #[.pointer (some ⟨b,0,none⟩),.int .i64 num,.int .i64 bits] w fun e w'=>e = .returned (.tuple #[]) /\
   Out w' b (V+num.toNat%p2 bits.toNat*p2 m) (m+bits.toNat)/\Below b w w':=by
 obtain⟨n,rfl⟩:=a0r n0;obtain⟨c,rfl⟩:=a0r b0;rw[a0l,a0l];obtain⟨i0,hi,ba,bb,bc⟩:=a0w Tryz.infoU8;go_enter func224,ntmps224;go_wp2
 go_loopw [1,6] (fun x i wr=>∃k:Nat,k<=c/\i = .int .i64 k/\x = .int .i64 (n/p2 k:Nat)/\Out wr b (V+n%p2 k*p2 m) (m+k)/\Below b w wr) (fun _ i _=>c-(intOf i).toNat)
 case atStart=>exact⟨0,a0g _,rfl,by simp[p2],by simpa[p2,a1u]using h,a0c _ _⟩
 case round=>
  obtain⟨k,hk,rfl,rfl,z,a⟩:=hrel;by_cases b5:k<c
  .
   have B:=af (xf V n k m);have g:=af (yC n k);have a6:n/p2 k<=n:=a2f _ _;obtain⟨hV,v,s,G⟩:=z;obtain⟨sa,scap,rfl⟩:=G.form;have a5:=rC (V+n%p2 k*p2 m) (m+k) hV;generalize V+n%p2 k*p2 m=V1 at *
   generalize W:m+k=m1 at *
   have hx:n/p2 k%2<=1:=by omega
   have ad:((n/p2 k:Nat):Int)%2=((n/p2 k%2:Nat):Int):=by omega
   have be:((n/p2 k:Nat):Int)<65536:=by omega
   have a7:p2 (m1%8)<=128:=oO (m1%8) 7 (by omega);have O:n/p2 k%2*p2 (m1%8)<=1*p2 (m1%8):=a2d _ hx;have y:((n/p2 k%2:Nat):Int)*((p2 (m1%8):Nat):Int)=((n/p2 k%2*p2 (m1%8):Nat):Int):=by simp
   have q:=zK V1 m1 (n/p2 k%2) hV hx;have d:=zJ V1 m1 (n/p2 k%2) hV hx;have ab:m1%8<8:=a0W _ (by omega);have l:m1<=100016:=by omega
   have Q:(leS (m1/8) V1).length=m1/8:=ax _ _;generalize n/p2 k=nk at *
   generalize a9:nk%2=x at *
   generalize a1:V1/p2 (8*(m1/8))=L at *
   generalize ac:m1%8=r at *
   generalize N:p2 r=P at *
   generalize a2:x*P=X at *
   have ao:=af N;have K:=af W;have a0:=af ac;have E:=af q;have C:=af d;clear W a1 ac N a2 hV q d a9 hx a6;obtain⟨k0,H,I,f0,f1,f2,F⟩:=s;have s:Hid (Three wr b _ _ _):=⟨k0,H,I,f0,f1,f2,F⟩;have b6:(r:Int)<8:=by omega
   have bs:(L:Int)<128:=by omega
   have bz:(X:Int)<=128:=by omega
   have S:(k:Int)<(c:Int):=by omega
   have bq:=af ab;have D:=af l;have Hk:=af hk;have al:Hid (IntKind.i64.wrap ((L:Int)+IntKind.i64.wrap ((nk:Int).tmod 2*(P:Int)))=(L:Int)+(X:Int)):=by
    show IntKind.i64.wrap ((L:Int)+IntKind.i64.wrap ((nk:Int).tmod 2*(P:Int)))=(L:Int)+(X:Int);rw[a14 (by omega),ad,y,bw (X:Int) (by omega) (by omega),bw ((L:Int)+(X:Int)) (by omega) (by omega)]
   clear ab l a7 O a5 hk hm;go_wp2_with fail;go_cut[]from 7 to 62 (fun wc=>wc=(wr.setCell ⟨b,1,none⟩ (.int .i64 ((L:Int)+(X:Int)))).drew)
   case first=>
    go_region_with (go_at_call 249;refine(eR _ _ (by omega)).mono ?_;rintro e w' ⟨rfl,rfl⟩;rw[a0l,ae ao])
    all_goals
     go_wp2_with fail
     go_meet
     exact by rw[ae al]
   case rest=>
    have T1:=((ae s).set1 (.int .i64 ((L:Int)+(X:Int)))).drew;have Y1:=(G.set (o:=1) (.int .i64 ((L:Int)+(X:Int)))).drew;have B1:Below b w _:=(aj a (o:=1) (a0a _) (.int .i64 ((L:Int)+(X:Int)))).drew;rw[←hcut]at T1 Y1 B1;clear hcut G a s k0 H I f0 f1 f2 F y ad;have T1':=af T1;obtain⟨k0,H,I,f0,f1,f2,F⟩:=T1;by_cases aa:(r:Int)=7
    .
     have A:r=7:=by omega
     obtain⟨o1,o2,o3,o4⟩:=ae C A;have O1:=af o1;have O2:=af o2;have O3:=af o3;have O4:=af o4;have M:L+X<256:=by omega
     have a4:=af (oq (L+X) M);have b4:IntKind.u8.wrap ((L:Int)+(X:Int))=(L:Int)+(X:Int):=by
      rw[IntKind.wrap_u8'];omega
     subst A;clear o1 o2 o3 o4 aa M;have T2:=(ae T1').set2 (.int .i64 8);have Y2:=Y1.set (o:=2) (.int .i64 8);have B2:Below b w _:=aj B1 (o:=2) (a0a _) (.int .i64 8);have U:=af Q;clear Q;go_wp2_with fail;generalize wc.setCell ⟨b,2,none⟩ (.int .i64 8)=W2 at *
     clear k0 H I f0 f1 f2 T1' Y1 B1;have T2':=af T2;obtain⟨k0,H,I,f0,f1,f2,a3⟩:=T2;have R:Hid (((UInt8.ofNat (L+X)).toNat:Int)=(L:Int)+(X:Int)):=by
      show((UInt8.ofNat (L+X)).toNat:Int)=(L:Int)+(X:Int);rw[ae a4];omega
     have T:(leS (m1/8) V1).length<=20000:=by have:=ae U;have:=ae D;omega
     have J:=af T;clear T;go_cut[]from 7 to 62 (fun wc2=>∃v',Three wc2 b v' (.int .i64 ((L:Int)+(X:Int))) (.int .i64 8)/\Bys wc2 b v' (leS (m1/8) V1++[UInt8.ofNat (L+X)])/\Below b w wc2)
     case first=>
      go_region_law (refine aK rfl (.tmp 47) (.tmp 53) 22 rfl (b+1) 5 i0 (.int .u8 0) 1 1 a0M hi ba bb bc rfl (by decide) _ _ _ (by simp[Act.eval]) (Y2.alloc _) ⟨W2.heap.size,0,none⟩ 1 1 [.int .u8 ((L:Int)+(X:Int))] (by simp[Act.eval]) rfl (by intro j u hj;match j,hj with | 0,hj=>simp at hj;subst hj;simp[Addr.add]) (by intro u hu;simp at hu;subst hu;rfl) (by have:=ae J;unfold maxLen;omega) (by have:=ae J;omega) (by simp;omega) ?_;intro v' w' p f Z;clear Z;rw[←ae R]at p;obtain⟨⟨g',bd,rfl⟩,T3,Y3,B3⟩:=tC (ae T2') Y2 B2 (by first|exact(a0c _ _).alloc (by omega) _|exact((a0c _ _).alloc (by omega) _).drew) p f;clear p f;have T3':=af T3;obtain⟨q0,q1,q2,e0,e1,e2,b2⟩:=T3)
      all_goals
       go_wp2_with fail
       go_meet
       exact⟨_,(ae T3').set0 _,Y3.set _,aj B3 (a0a _) _⟩
     case rest=>
      obtain⟨v',T4,Y4,B4⟩:=hcut;clear k0 H I f0 f1 f2 T2' Y2 B2 a3;obtain⟨va,vc,rfl⟩:=Y4.form;have T4':=af T4;obtain⟨k0,H,I,f0,f1,f2,b3⟩:=T4;go_wp2;go_roundw
      case rel=>
       refine⟨k+1,by have:=ae Hk;omega,by go_num,by rw[←ae g];go_num,?_,aj (aj B4 (a0a _) _) (a0a _) _⟩;rw[ae B,show m+(k+1)=m1+1 by have:=ae K;omega];refine⟨ae O1,.slice va (leS (m1/8) V1++[UInt8.ofNat (L+X)]).length vc,?_,?_⟩
       . rw[ae O2,ae O3];exact((ae T4').set1 _).set2 _
       . rw[ae O4];exact(Y4.set _).set _
      case measure=>simp[intOf];omega
    .
     have bk:((r:Int)+1 == 8)=false:=by simp;omega
     have t:r<7:=by omega
     obtain⟨o1,o2,o3⟩:=ae E t;have O1:=af o1;have O2:=af o2;have O3:=af o3;have Y:Hid ((m1+1)%8=r+1):=by show(m1+1)%8=r+1;have:=ae a0;omega
     clear o1 o2 o3 t aa;go_wp2;go_roundw
     case rel=>
      refine⟨k+1,by have:=ae Hk;omega,by go_num,by rw[←ae g];go_num,?_,aj B1 (a0a _) _⟩;rw[ae B,show m+(k+1)=m1+1 by have:=ae K;omega];refine⟨ae O1,.slice sa (leS (m1/8) V1).length scap,?_,?_⟩
      . rw[ae O2,ae Y];exact(ae T1').set2 _
      . rw[ae O3];exact Y1.set _
     case measure=>simp[intOf];omega
  .
   have S:k=c:=by omega
   subst S;go_wp2
   go_end0
   exact⟨rfl,z,a⟩
def mR(l:List (Int×Int)):List (Nat×Nat):=l.map (fun p=>(p.1.toNat,p.2.toNat))
def aX(l:List (Int×Int)):Nat×Nat:=gU (0,0) (mR l)
def cm(l:List (Int×Int)):List UInt8:=leS (((aX l).2+7)/8) (aX l).1
def rl(l:List (Int×Int)):List UInt8:=if lOk l=true then cm l else []
theorem fy{l:List (Int×Int)}(h:lOk l=true):rl l=cm l:=a0e h
theorem M5{l:List (Int×Int)}(h:lOk l=false):rl l=[]:=a0d (by simp[h])
theorem G8(l:List (Int×Int))(k:Nat)(h:k<l.length):aX (l.take (k+1)) =
  ((aX (l.take k)).1+(l.getD k (0,0)).1.toNat*p2 (aX (l.take k)).2,(aX (l.take k)).2+(l.getD k (0,0)).2.toNat):=by
 rw[a1r h,aX,mR,a06,lN];simp only[a0E,a2i,gU];have e:l.getD k (0,0)=l[k]:=by simp[List.getD,h]
 rw[e];rfl
theorem vU(l:List (Int×Int))(h:aY l=true):((aX l).2:Int)=bK l:=by
 have key:∀(m:List (Int×Int)) (s:Nat×Nat),aY m=true->((gU s (mR m)).2:Int)=(s.2:Int)+bK m:=by
  intro m;induction m with
  | nil=>intro s _;simp[mR,gU,bK]
  | cons p m ih=>
   intro s a;simp only[aY,a18,a0h]at a;have b:=aR.1 a.1;have:=ih (s.1+p.1.toNat*2 ^ s.2,s.2+p.2.toNat) a.2;simp only[mR,a0E,gU]at this ⊢;rw[this];simp only[bK,a0E,a0N];omega
 have:=key l (0,0) h;simpa[aX]using this
theorem xq(l:List (Int×Int))(h:aY l=true):(aX l).1<p2 (aX l).2:=by
 have key:∀(m:List (Int×Int)) (s:Nat×Nat),s.1<p2 s.2->aY m=true->(gU s (mR m)).1<p2 (gU s (mR m)).2:=by
  intro m;induction m with
  | nil=>intro s b _;exact b
  | cons p m ih=>
   intro s b a;simp only[aY,a18,a0h]at a;have d:=aR.1 a.1;have c:p.1.toNat<p2 p.2.toNat:=by omega
   exact ih _ (Ku s.1 s.2 p.1.toNat p.2.toNat b c) a.2
 exact key l (0,0) (by decide) h
theorem xd(w:World)(t:TypeId):Out (w.alloc (.cells #[.slice none 0 0,.int .i64 0,.int .i64 0] t)) w.heap.size 0 0:=by
 refine⟨by decide,.slice none 0 0,⟨by simp,by simp,by simp,by simp,by simp,by simp,by simp⟩,?_⟩;exact a1A _ _ _ _
theorem Ex{a b:List UInt8}(h:a=b):Ending.returned (.string ⟨a.toArray⟩) = .returned (.string ⟨b.toArray⟩):=by rw[h]
theorem kw(h:Bys w b v l) :
  (convert 22 9 v).run prog w = .ok (.string ⟨l.toArray⟩) w:=by
 rcases h.2 with⟨e,a⟩|⟨g,cap,_,e,_⟩
 . subst e;have d:l=[]:=a1R a;subst d;rw[run_convert_bytes_string w _ _ _ none 0 0 a0M a2u a2v];rfl
 .
  subst e;exact a3G w _ _ _ ⟨g,0,none⟩ cap l a0M a2u a2v (fun j c=>by
   have:=h.cells (g:=g) rfl j (.int .u8 (l[j].toNat:Int)) (by simp[cn,c]);exact this)
theorem nc.below{a:Option Addr}{l:List (Int×Int)}{B:Nat}(h:nc w a l)(b:w.heap.size<=B)(hb:Below B w w'):nc w' a l:=h.later (hb.mono b)
theorem Two.kept{v0:Value}(h:Two w b v0 v1)(hb:Below (b+1) w w'):Two w' b v0 v1:=by
 obtain⟨c0,c1,f0,f1,c⟩:=h;have a:=a0p b;exact⟨(hb.cell (p:=⟨b,0,none⟩) a).trans c0,(hb.cell (p:=⟨b,1,none⟩) a).trans c1,(hb.frozen (p:=⟨b,0,none⟩) a).trans f0,(hb.frozen (p:=⟨b,1,none⟩) a).trans f1,a0j c hb.size⟩
def jO(w:World)(b V m:Nat):Prop:=
 V<p2 m/\∃v,Two w b v (.int .i64 (m:Int))/\Bys w b v (leS ((m+7)/8) V)
theorem Kw{x:UInt8}(T2:Two W2 b v v1)(Y2:Bys W2 b v l)(j:Below b w W2)
  (d:Below (b+1) W2 WA) (a:w'.ownsRow (b+1) 5 1 v' (l.length+1) (cn l++[.int .u8 (x.toNat:Int)])) (c:WA.grownBy w' v.ownBlock) :
  (∃g cap,v' = .slice (some ⟨g,0,none⟩) (l.length+1) cap)/\Two w' b v v1/\Bys w' b v' (l++[x])/\Below b w w':=by
 have h:=T2.2.2.2.2;have i:=a0j h d.size;have f:∀k,v.ownBlock=some k->b+1<=k:=fun k m=>(Y2.lt k m).1;have hb:Below (b+1) W2 w':=d.grown c (by omega) f;refine⟨?_,T2.kept hb,?_,j.trans (hb.mono (by omega))⟩
 .
  rcases a.2 with⟨_,n⟩|⟨g,cap,_,e,_⟩
  . omega
  . exact⟨g,cap,e⟩
 . show w'.ownsRow (b+1) 5 1 v' (l++[x]).length (cn (l++[x]));simpa[cn]using a
theorem Bys.at{cap:Nat}(h:Bys w b (.slice (some ⟨g,0,none⟩) l.length cap) l)(a:j<l.length) :
  w.cell? ⟨g,j,none⟩=some (.int .u8 ((l.getD j 0).toNat:Int))/\w.frozen? ⟨g,j,none⟩=false/\b<g:=by
 refine⟨?_,a2t h j,(a0D h g rfl).1⟩;rw[a04 h j (by omega)];simp[cn,a,List.getD]
theorem Bys.put{cap:Nat}(h:Bys w b (.slice (some ⟨g,0,none⟩) l.length cap) l)(x:UInt8) :
  Bys (w.setCell ⟨g,j,none⟩ (.int .u8 (x.toNat:Int))) b (.slice (some ⟨g,0,none⟩) l.length cap) (l.set j x):=by
 have:=a15 h j (.int .u8 (x.toNat:Int));show World.ownsRow _ _ _ _ _ (l.set j x).length (cn (l.set j x));rw[a1I];have e:cn (l.set j x)=(cn l).set j (.int .u8 (x.toNat:Int)):=by simp[cn,List.map_set]
 rw[e];exact this.1
theorem PE(V m x:Nat)(a:V<p2 m)(b:x<=1) :
  V+x*p2 m<p2 (m+1)/\leS ((m+1+7)/8) (V+x*p2 m)=(leS (m/8+1) V).set (m/8) (UInt8.ofNat (V/p2 (8*(m/8))+x*p2 (m%8))):=by
 refine⟨add_lt V x m a b,?_⟩;rw[show(m+1+7)/8=m/8+1 by omega];exact Mx (m/8) V x m rfl b a
theorem PD(V m:Nat)(a:V<p2 m)(b:m%8=0):leS ((m+7)/8) V++[0]=leS (m/8+1) V:=by
 rw[show(m+7)/8=m/8 by omega];exact(Mw (m/8) V (by rw[show 8*(m/8)=m by omega];exact a)).symm
theorem Py(V m:Nat)(a:m%8≠0):leS ((m+7)/8) V=leS (m/8+1) V:=by
 rw[show(m+7)/8=m/8+1 by omega]
theorem Pw(V m:Nat)(a:V<p2 m):((leS (m/8+1) V).getD (m/8) 0).toNat=V/p2 (8*(m/8)):=by
 rw[Ed _ _ _ (by omega)];have b:=rC V m a;have h2:=oO (m%8) 7 (by omega);have c:p2 7=128:=rfl;have e:V/2 ^ (8*(m/8))%256=V/p2 (8*(m/8)):=a0U (by show V/p2 (8*(m/8))<256;omega);rw[e,oq _ (by omega)]
def Box(w:World)(P:Nat)(x y:Int):Prop:=w.heap[P]?=some (.cells #[.int .i64 x,.int .i64 y] 157)
theorem LL(w:World)(x y:Int):Box (w.alloc (.cells #[.int .i64 x,.int .i64 y] 157)) w.heap.size x y:=by
 show(w.heap.push _)[w.heap.size]?=_;simp
theorem Box.cells(h:Box w P x y):w.cell? ⟨P,0,none⟩=some (.int .i64 x)/\w.cell? ⟨P,1,none⟩=some (.int .i64 y)/\P<w.heap.size:=by
 refine⟨by simp[World.cell?,show w.heap[P]?=_ from h],by simp[World.cell?,show w.heap[P]?=_ from h],?_⟩;have a:w.heap[P]?=some _:=h;exact(Array.getElem?_eq_some_iff.1 a).1
theorem Box.ne(h:Box w P x y)(i:Bys w b v l)(k:Nat)(a:v.ownBlock=some k):k≠P:=by
 rintro rfl;rcases i.2 with⟨e,_⟩|⟨g,cap,d,e,_,c,_⟩
 . subst e;simp[Value.ownBlock]at a
 . subst e;simp only[Value.ownBlock,a0k]at a;subst a;have f:w.heap[g]?=some (.cells #[.int .i64 x,.int .i64 y] 157):=h;rw[f]at c;simp at c
theorem Box.set(h:Box w P x y)(hb:b≠P)(u:Value):Box (w.setCell ⟨b,o,none⟩ u) P x y:=by
 show(w.setCell ⟨b,o,none⟩ u).heap[P]?=_;rw[a0S w ⟨b,o,none⟩ u P (fun e=>hb e.symm)];exact h
theorem Box.drew(h:Box w P x y):Box w.drew P x y:=h
theorem Box.alloc(h:Box w P x y)(o:Obj):Box (w.alloc o) P x y:=by
 show(w.alloc o).heap[P]?=_;rw[a2h w o P h.cells.2.2];exact h
theorem Box.grown(h:Box w P x y)(c:Bys w b v l)(a:w.grownBy w' v.ownBlock):Box w' P x y:=by
 show w'.heap[P]?=_;rw[a.block P h.cells.2.2 (fun e=>h.ne c P e.symm rfl)];exact h
def bO(b:Nat)(w w':World):Prop:=w.heap.size<=w'.heap.size/\∀k,k<w.heap.size->k≠b->(∀cur fr,w.heap[k]?≠some (.cells cur 5 fr))->w'.heap[k]?=w.heap[k]?
theorem bO.refl(b:Nat)(w:World):bO b w w:=⟨a0a _,fun _ _ _ _=>rfl⟩
theorem bO.trans{w1 w2:World}(h:bO b w w1)(k:bO b w1 w2):bO b w w2:=
 ⟨a0G h.1 k.1,fun j c hb d=>by
  have e:=h.2 j c hb d;rw[k.2 j (a0j c h.1) hb (fun a fr=>by rw[e];exact d a fr),e]⟩
theorem bO.drew(h:bO b w w'):bO b w w'.drew:=h
theorem bO.alloc(h:bO b w w')(o:Obj):bO b w (w'.alloc o):=
 h.trans ⟨by simp,fun j a _ _=>a2h w' o j a⟩
theorem bO.set(h:bO b w w')(u:Value):bO b w (w'.setCell ⟨b,o,none⟩ u):=
 h.trans ⟨by simp,fun j _ hb _=>a0S w' ⟨b,o,none⟩ u j hb⟩
theorem bO.setRow{cap:Nat}(h:bO b w w')(m:Bys w' c (.slice (some ⟨g,0,none⟩) l.length cap) l)(u:Value):bO b w (w'.setCell ⟨g,j,none⟩ u):=by
 refine h.trans ⟨by simp,fun k _ _ i=>?_⟩;by_cases e:k=g
 .
  subst e;rcases m.2 with⟨e,_⟩|⟨g',d,a,e,_,f,_⟩
  . simp at e
  . simp only[a0L,a0k,a0F,a03,a1T]at e;obtain⟨rfl,_⟩:=e;exact absurd f (i a (0,0))
 . exact a0S w' ⟨g,j,none⟩ u k e
theorem bO.grown{w'':World}(h:bO b w w')(m:Bys w' c v l)(g:w'.grownBy w'' v.ownBlock):bO b w w'':=by
 refine h.trans ⟨g.size,fun k i _ j=>?_⟩;refine g.block k i (fun e=>?_);rcases m.2 with⟨e',_⟩|⟨g',f,a,e',_,d,_⟩
 . subst e';simp[Value.ownBlock]at e
 . subst e';simp only[Value.ownBlock,a0k]at e;subst e;exact j a (0,0) d
theorem Dy(B X r:Nat)(a:B<p2 r)(e:r<8)(b:X=0∨X=p2 r):bits .or .u8 (B:Int) (X:Int)=((B+X:Nat):Int):=by
 have d:=oO r 7 (by omega);have c:p2 7=128:=rfl;rw[u8_or_nat B X (by omega) (by omega)]
 congr 1
 rw[Nat.or_comm];rcases b with rfl|rfl
 . simp
 . rw[nat_join r (p2 r) B (by unfold p2;simp) a];omega
theorem Two.other{v0:Value}(h:Two w b v0 v1)(a:g≠b)(u:Value):Two (w.setCell ⟨g,o,none⟩ u) b v0 v1:=by
 obtain⟨c0,c1,f0,f1,hb⟩:=h;refine⟨?_,?_,by simpa using f0,by simpa using f1,by simpa using hb⟩
 . rw[World.cell?_setCell_other _ _ _ _ (by simp only[ne_eq,a0F];omega)];exact c0
 . rw[World.cell?_setCell_other _ _ _ _ (by simp only[ne_eq,a0F];omega)];exact c1
theorem vW{wr:World}{cap V1 m1 x L X:Nat}{p q:Int}(j:Two wr b (.slice (some ⟨g,0,none⟩) (leS (m1/8+1) V1).length cap) (.int .i64 (m1:Int)))
  (a:Bys (wr.setCell ⟨g,m1/8,none⟩ (.int .u8 ((UInt8.ofNat (L+X)).toNat:Int))) b (.slice (some ⟨g,0,none⟩) (leS (m1/8+1) V1).length cap) ((leS (m1/8+1) V1).set (m1/8) (UInt8.ofNat (L+X))))
  (k:V1+x*p2 m1<p2 (m1+1)) (l:leS ((m1+1+7)/8) (V1+x*p2 m1)=(leS (m1/8+1) V1).set (m1/8) (UInt8.ofNat (L+X)))
  (h:(UInt8.ofNat (L+X)).toNat=L+X) (o:b<g) (n:g≠P) (m:P≠b) (d:Box wr P p q) (c:Below b w wr) (f:Bys wr b (.slice (some ⟨g,0,none⟩) (leS (m1/8+1) V1).length cap) (leS (m1/8+1) V1)) (i:bO b w wr) :
  jO ((wr.setCell ⟨g,m1/8,none⟩ (.int .u8 ((L:Int)+(X:Int)))).setCell ⟨b,1,none⟩ (.int .i64 ((m1:Int)+1))).drew b (V1+x*p2 m1) (m1+1) /\
  Box ((wr.setCell ⟨g,m1/8,none⟩ (.int .u8 ((L:Int)+(X:Int)))).setCell ⟨b,1,none⟩ (.int .i64 ((m1:Int)+1))).drew P p q /\
  Below b w ((wr.setCell ⟨g,m1/8,none⟩ (.int .u8 ((L:Int)+(X:Int)))).setCell ⟨b,1,none⟩ (.int .i64 ((m1:Int)+1))).drew /\
  bO b w ((wr.setCell ⟨g,m1/8,none⟩ (.int .u8 ((L:Int)+(X:Int)))).setCell ⟨b,1,none⟩ (.int .i64 ((m1:Int)+1))).drew:=by
 have e:((UInt8.ofNat (L+X)).toNat:Int)=(L:Int)+(X:Int):=by rw[h];omega
 rw[e]at a;refine⟨⟨k,.slice (some ⟨g,0,none⟩) (leS (m1/8+1) V1).length cap,?_,?_⟩,?_,?_,?_⟩
 . exact((j.other (by omega) _).set1 _).drew
 . rw[l];exact(a.set _).drew
 . exact((d.set (by omega) _).set (by omega) _).drew
 . exact(aj (aj c (by omega) _) (a0a _) _).drew
 . exact((i.setRow f _).set _).drew
theorem Kt(b V m:Nat)(num bits:Int)(w:World)(h:jO w b V m)(hp:pOk num bits=true)(hm:m<=100000) :
  Calls prog 335 #[.pointer (some ⟨b,0,none⟩),.agg #[.int .i64 num,.int .i64 bits]] w fun e w'=>e = .returned (.int .i64 num) /\
   jO w' b (V+num.toNat*p2 m) (m+bits.toNat)/\Below b w w'/\bO b w w':=by
 obtain⟨⟨b0,b1⟩,n0,n1⟩:=aR.1 hp;have hq:=(Kv bits b1).2;obtain⟨n,rfl⟩:=a0r n0;obtain⟨c,rfl⟩:=a0r b0;rw[a0l,a0l];rw[a0l]at n1 hq;have Z:Hid (n%p2 c=n):=a0U (by omega);have c5:(n:Int)<65536:=by omega
 obtain⟨i0,hi,cc,cg,ch⟩:=a0w Tryz.infoU8;have cy:b<w.heap.size:=by obtain⟨_,v,ht,_⟩:=h;exact ht.2.2.2.2
 have C:=LL w (n:Int) (c:Int);have h0:jO (w.alloc (.cells #[.int .i64 (n:Int),.int .i64 (c:Int)] 157)) b V m:=by
  obtain⟨W,v,ht,hy⟩:=h;exact⟨W,v,ht.kept ((a0c _ _).alloc (by omega) _),a0n hy _⟩
 have A:Below b w (w.alloc (.cells #[.int .i64 (n:Int),.int .i64 (c:Int)] 157)):=(a0c _ _).alloc (by omega) _;clear n1 hq h hp;go_enter func335,ntmps335;go_wp2_with fail
 go_loopw [5,8] (fun _ i wr=>∃k:Nat,k<=c/\i = .int .i64 k/\jO wr b (V+n%p2 k*p2 m) (m+k)/\Box wr w.heap.size n c/\Below b w wr/\bO b w wr) (fun _ i _=>c-(intOf i).toNat)
 case atStart=>exact⟨0,a0g _,rfl,by simpa[p2,a1u]using h0,C,A,(bO.refl _ _).alloc _⟩
 case round=>
  obtain⟨k,hk,rfl,G,d,p,t⟩:=hrel;clear h0 C A;obtain⟨bc0,bc1,J⟩:=d.cells;by_cases b5:k<c
  .
   have Q:=af (xf V n k m);have b6:n/p2 k<=n:=a2f _ _;have ad:Hid ((n:Int)/2 ^ k=((n/p2 k:Nat):Int)):=(Int.natCast_ediv n (2 ^ k)).symm;obtain⟨W,v,bs,a⟩:=G;obtain⟨sa,scap,rfl⟩:=a.form;have a9:=rC (V+n%p2 k*p2 m) (m+k) W;generalize V+n%p2 k*p2 m=V1 at *
   generalize ba:m+k=m1 at *
   have hx:n/p2 k%2<=1:=by omega
   have bc:((n/p2 k:Nat):Int)<65536:=by omega
   have bd:=qw ((n/p2 k:Nat):Int) (a3A _) (Int.lt_trans bc (by omega));have b4:((n/p2 k:Nat):Int)%2=((n/p2 k%2:Nat):Int):=by omega
   rw[b4]at bd;have b7:p2 (m1%8)<=128:=oO (m1%8) 7 (by omega);have a2:n/p2 k%2*p2 (m1%8)<=1*p2 (m1%8):=a2d _ hx;have cs:((n/p2 k%2:Nat):Int)*(2:Int) ^ (m1%8)=((n/p2 k%2*p2 (m1%8):Nat):Int):=by rw[a1H,pO]
   have K:n/p2 k%2*p2 (m1%8)=0∨n/p2 k%2*p2 (m1%8)=p2 (m1%8):=by
    rcases (show n/p2 k%2=0∨n/p2 k%2=1 by omega)with e|e<;>rw[e]<;>simp
   obtain⟨bz,b2⟩:=PE V1 m1 (n/p2 k%2) W hx;have b3:=Pw V1 m1 W;have c6:=Dy (V1/p2 (8*(m1/8))) (n/p2 k%2*p2 (m1%8)) (m1%8) a9 (by omega) K;have H:=af (PD V1 m1 W);have y:=af (Py V1 m1);have O:(leS (m1/8+1) V1).length=m1/8+1:=ax _ _;have D:(leS ((m1+7)/8) V1).length=(m1+7)/8:=ax _ _;have F:m1<=100016:=by omega
   have z:V1/p2 (8*(m1/8))+n/p2 k%2*p2 (m1%8)<256:=by omega
   have a4:=oq _ z;have a6:(k:Int)<(c:Int):=by omega
   have cp:(k:Int)<=16:=by omega
   have bk:(m1:Int)%8<8:=by omega
   have cr:(m1:Int)<=100016:=by omega
   have cv:((n/p2 k%2*p2 (m1%8):Nat):Int)<=128:=by omega
   have cu:((n/p2 k%2:Nat):Int)<=1:=by omega
   have ac:=af ba;have HK:=af hk;have s:=af O;have T:=af D;have U:=af F;have al:=af bz;have ao:=af b2;have a0:=af b3;have aa:=af a4;have c7:=ae ad;clear ad b4 K a9 b7 a2 bz b2 b3 O D F z a4 b6 hx ba hk W b5;generalize n/p2 k=nk at *
   generalize nk%2=x at *
   generalize x*p2 (m1%8)=X at *
   generalize V1/p2 (8*(m1/8))=L at *
   have l:=af bs;obtain⟨k0,k1,f0,f1,co⟩:=bs;have a1:w.heap.size≠b:=by omega
   by_cases hr:m1%8=0
   .
    have b8:((m1:Int)%8 == 0)=true:=by simp;omega
    have be:=af (ae H hr);clear hr H y bk hm;have a7:(leS ((m1+7)/8) V1).length<=20000:=by have:=ae T;have:=ae U;omega
    have ab:=af a7;clear a7;go_wp2_with (at_builtin;refine a0x _ rfl _ _ 22 rfl (b+1) 5 i0 (.int .u8 0) 1 1 a0M hi cc cg ch rfl (by decide) _ _ _ rfl (a0n a _) ⟨wr.heap.size,0,none⟩ 1 1 [.int .u8 0] rfl rfl (by intro j u hj;match j,hj with | 0,hj=>simp at hj;subst hj;simp[Addr.add]) (by intro u hu;simp at hu;subst hu;rfl) (by have:=ae ab;unfold maxLen;omega) (by have:=ae ab;omega) (by simp;omega) ?_;intro v' w' P q bb;clear bb;have B:=(d.alloc _).grown (a0n a _) q;have M:=(t.alloc (.cells #[.int .u8 0] 5)).grown (a0n a _) q;obtain⟨⟨g,cap,rfl⟩,T3,Y3,B3⟩:=Kw (x:=0) (ae l) a p ((a0c _ _).alloc (by omega) _) P q;clear P q a d p t l k0 k1 f0 f1;have T3':=af T3;obtain⟨k0,k1,f0,f1,a3⟩:=T3);have E:(leS ((m1+7)/8) V1).length+1=(leS (m1/8+1) V1).length:=by rw[←ae be,a0m];rfl
    rw[E]at Y3 ⊢;have T4:=(ae T3').set0 (.slice (some ⟨g,0,none⟩) (leS (m1/8+1) V1).length cap);have a:=Y3.set (o:=0) (.slice (some ⟨g,0,none⟩) (leS (m1/8+1) V1).length cap);rw[ae be]at a;have d:=B.set (b:=b) (o:=0) (by omega) (.slice (some ⟨g,0,none⟩) (leS (m1/8+1) V1).length cap);have t:=M.set (o:=0) (.slice (some ⟨g,0,none⟩) (leS (m1/8+1) V1).length cap);have p:Below b w _:=aj B3 (o:=0) (a0a _) (.slice (some ⟨g,0,none⟩) (leS (m1/8+1) V1).length cap);clear Y3 B3 T3' k0 k1 f0 f1 B M bc0 bc1 J E a3;generalize w'.setCell ⟨b,0,none⟩ (.slice (some ⟨g,0,none⟩) (leS (m1/8+1) V1).length cap)=wA at *
    have l:=af T4;obtain⟨k0,k1,f0,f1,a3⟩:=T4;obtain⟨bc0,bc1,J⟩:=d.cells;obtain⟨gc,gf,gb⟩:=a.at (j:=m1/8) (by have:=ae s;omega);rw[ae a0]at gc;have I:=af (a.put (j:=m1/8) (UInt8.ofNat (L+X)));have Y:g≠w.heap.size:=d.ne a g rfl;have R:=af a;have S:=af t;clear t;have f:=ae s;rw[f]at k0;generalize hN:m1/8+1=N at k0;have a5:(m1:Int)/8<(N:Int):=by omega
    clear hN f a
    go_region
    all_goals
     go_wp2;go_roundw
     case rel=>
      have r:=vW (ae l) (ae I) (ae al) (ae ao) (ae aa) gb Y a1 d p (ae R) (ae S);refine⟨k+1,by have:=ae HK;omega,by go_num,?_,r.2.1,r.2.2.1,r.2.2.2⟩;rw[ae Q,show m+(k+1)=m1+1 by have:=ae ac;omega];exact r.1
     case measure=>simp[intOf];omega
   .
    have b8:((m1:Int)%8 == 0)=false:=by simp;omega
    have bq:=ae y hr;rw[bq]at a k0 l;obtain⟨g,cap,hform⟩:∃g cap,Value.slice sa (leS (m1/8+1) V1).length scap = .slice (some ⟨g,0,none⟩) (leS (m1/8+1) V1).length cap:=by
     rcases a.2 with⟨_,h0⟩|⟨g,cap,_,e,_⟩
     . have:=ae s;omega
     . exact⟨g,cap,e⟩
    rw[hform]at a k0 l;obtain⟨gc,gf,gb⟩:=a.at (j:=m1/8) (by have:=ae s;omega);rw[ae a0]at gc;have I:=af (a.put (j:=m1/8) (UInt8.ofNat (L+X)));have Y:g≠w.heap.size:=d.ne a g rfl;have R:=af a;have S:=af t;clear t;have f:=ae s;rw[f]at k0;generalize hN:m1/8+1=N at k0;have a5:(m1:Int)/8<(N:Int):=by omega
    clear hN f hform bq hr H y a hm bk;go_wp2_with fail
    go_region
    all_goals
     go_wp2;go_roundw
     case rel=>
      have r:=vW (ae l) (ae I) (ae al) (ae ao) (ae aa) gb Y a1 d p (ae R) (ae S);refine⟨k+1,by have:=ae HK;omega,by go_num,?_,r.2.1,r.2.2.1,r.2.2.2⟩;rw[ae Q,show m+(k+1)=m1+1 by have:=ae ac;omega];exact r.1
     case measure=>simp[intOf];omega
  .
   have a6:k=c:=by omega
   subst a6;rw[ae Z]at G;go_wp2;go_ret;exact⟨rfl,G,p,t⟩
def Ints(w:World)(b:Nat)(v:Value)(xs:List Int):Prop:=w.ownsRow (b+1) 3 1 v xs.length (xs.map (Value.int .i64))
theorem Ints.keep(h:Ints w b v xs)(f:bO b w w'):Ints w' b v xs:=by
 refine⟨h.1,?_⟩;rcases h.2 with e|⟨g,cap,a,e,hb,c,i⟩
 . exact .inl e
 . refine .inr ⟨g,cap,a,e,hb,?_,i⟩;rw[f.2 g (Array.getElem?_eq_some_iff.1 c).1 (by omega) (fun d fr=>by rw[c];simp)];exact c
theorem Bys.other{o:Value}(h:Bys w b v l)(p:Ints w c o xs)(n:w.grownBy w' o.ownBlock):Bys w' b v l:=by
 refine a16 h n ?_;cases f:v.ownBlock with
 | none=>exact .inl rfl
 | some k=>
  refine .inr (fun e=>?_);rcases h.2 with⟨e1,_⟩|⟨g,cap,m,e1,_,d,_⟩
  . subst e1;simp[Value.ownBlock]at f
  .
   rcases p.2 with⟨e2,_⟩|⟨g2,i,j,e2,_,a,_⟩
   . subst e2;simp[Value.ownBlock]at e
   . subst e1 e2;simp only[Value.ownBlock,a0k]at f e;subst f;subst e;rw[d]at a;simp at a
theorem jO.alloc(h:jO w b V m)(o:Obj):jO (w.alloc o) b V m:=by
 obtain⟨c,v,a,d⟩:=h;exact⟨c,v,a.kept ((a0c _ _).alloc (by have:=a.2.2.2.2;omega) _),a0n d _⟩
theorem jO.other{o:Value}(h:jO w b V m)(c:Ints w b o xs)(a:w.grownBy w' o.ownBlock):jO w' b V m:=by
 obtain⟨e,v,d,g⟩:=h;exact⟨e,v,d.kept ((a0c _ _).grown a (by have:=d.2.2.2.2;omega) (fun k f=>(a0D c k f).1)),g.other c a⟩
theorem jO.lt(h:jO w b V m):b<w.heap.size:=by
 obtain⟨c,v,a,d⟩:=h;exact a.2.2.2.2
theorem Gi(a:Addr)(w:World):(method 499 212 (.pointer (some a)) "loop.example/corbel/impl.pass").run prog w = .ok (335,.pointer (some a)) w:=by kernel_rfl
theorem Fo(b:Nat)(a:Option Addr)(cap:Nat)(l:List (Int×Int))(w0 w:World)(h:nc w0 a l)(h0:Below b w0 w)(hs:w0.heap.size<=b)(hok:lOk l=true)(hw:jO w b 0 0) :
  Calls prog 146 #[.slice a l.length cap,.func (.method "loop.example/corbel/impl.pass") #[.iface 212 (.pointer (some ⟨b,0,none⟩))] #[]] w fun e w'=>
   (∃v,e = .returned v)/\jO w' b (aX l).1 (aX l).2/\Below b w w':=by
 simp only[lOk,a0h,a2D]at hok;obtain⟨hall,h4⟩:=hok;have hall':=af hall;have H4:=af h4;have h4':(l.length:Int)<=4000:=by omega
 clear hall h4;obtain⟨i0,hi,hz0,hz1,hz2⟩:=a0w Tryz.infoInt;have mp:=Gi ⟨b,0,none⟩;go_enter func146,ntmps146;go_wp2_with fail
 go_loopw [5,7,10] (fun o _ i wr=>∃(k:Nat) (xs:List Int),k<=l.length/\i = .int .i64 k/\xs.length=k/\Ints wr b o xs/\jO wr b (aX (l.take k)).1 (aX (l.take k)).2/\Below b w wr) (fun _ _ i _=>l.length-(intOf i).toNat)
 case atStart=>exact⟨0,[],a0g _,rfl,rfl,a1A _ _ _ _,hw,a0c _ _⟩
 case round=>
  obtain⟨k,xs,hk,rfl,hxs,hints,hout,hbel⟩:=hrel;have hltb:=hout.lt;by_cases hlt:k<l.length
  .
   obtain⟨g,o,rfl,hg,hc⟩:=(h.below hs (h0.trans hbel)) (by omega);obtain⟨c0,c1⟩:=hc k hlt;have hmb:=vU (l.take k) (kZ (ae hall') k);obtain⟨s0,s1⟩:=Dl (kZ (ae hall') k);have s2:((l.take k).length:Int)<=4000:=by simp;omega
   have hml:Hid ((aX (l.take k)).2<=64000):=by show(aX (l.take k)).2<=64000;omega
   have hpk:=af (EQ (ae hall') k hlt);have hstep:=af (G8 l k hlt);have HK:=af hk;have HX:=af hxs;clear hmb s0 s1 s2 hc hk hxs hw;generalize (l.getD k (0,0)).1=x at *
   generalize (l.getD k (0,0)).2=y at *
   generalize aX (l.take k)=S at *
   go_wp2_with fail;refine(Kt b S.1 S.2 x y _ (hout.alloc _) (ae hpk) (by have:=ae hml;omega)).mono ?_;rintro e w1 ⟨rfl,hout1,hbel1,hkp1⟩;have hints1:Ints w1 b u5 xs:=Ints.keep (a0n hints _) hkp1;have hbel2:=(hbel.alloc (a0C hltb) (.cells #[.int .i64 x,.int .i64 y] 157)).trans hbel1;have hlt1:=hout1.lt;clear hout hints hbel hbel1 hkp1;go_wp2_with (at_builtin;refine a0x _ rfl _ _ 65 rfl (b+1) 3 i0 (.int .i64 0) 1 8 a0I hi hz0 hz1 hz2 rfl (by decide) _ _ _ rfl (a0n hints1 _) ⟨w1.heap.size,0,none⟩ 1 1 [.int .i64 x] rfl rfl (by intro j u hj;match j,hj with | 0,hj=>simp at hj;subst hj;simp[Addr.add]) (by intro u hu;simp at hu;subst hu;rfl) (by have:=ae HX;have:=ae H4;unfold maxLen;omega) (by have:=ae HX;have:=ae H4;omega) (by simp;omega) ?_;intro v' w2 hown hgrow hnil;clear hnil);have hout2:jO w2 b _ _:=(hout1.alloc (.cells #[.int .i64 x] 3)).other (a0n hints1 _) hgrow;have hints2:Ints w2 b v' (xs++[x]):=by
    show World.ownsRow _ _ _ _ _ (xs++[x]).length _;simpa using hown
   have hbel3:Below b w w2:=(hbel2.alloc (a0C hlt1) _).grown hgrow (by simp;omega) (fun j hj=>a0C (a0D hints1 j hj).1);clear hown hgrow hints1 hout1 hbel2;go_wp2;go_roundw
   case rel=>exact⟨k+1,xs++[x],by have:=ae HK;omega,by go_num,by have:=ae HX;simp;omega,hints2,by rw[ae hstep];exact hout2,hbel3⟩
   case measure=>simp[intOf];omega
  .
   have hlk:Hid (l.take k=l):=a0A (by omega);clear h hw;obtain⟨va,vc,rfl⟩:∃va vc,u5 = .slice va xs.length vc:=by
    rcases hints.2 with⟨e,h0⟩|⟨g,cp,_,e,_⟩
    . exact⟨none,0,by rw[e,h0]⟩
    . exact⟨_,cp,e⟩
   go_wp2;go_ret;rw[ae hlk]at hout;exact⟨⟨_,rfl⟩,hout,hbel⟩
theorem Ha(b:Nat)(a:Option Addr)(cap:Nat)(l:List (Int×Int))(w0 w:World)(h:nc w0 a l)(g:Below b w0 w)(i:w0.heap.size<=b)(f:lOk l=true)(j:jO w b 0 0) :
  Calls prog 118 #[.iface 212 (.pointer (some ⟨b,0,none⟩)),.slice a l.length cap] w fun e w'=>
   (∃v,e = .returned v)/\jO w' b (aX l).1 (aX l).2/\Below b w w':=by
 go_enter func118,ntmps118;go_wp2_with fail;refine(Fo b a cap l w0 _ h g i f j).mono ?_;rintro e w1 ⟨⟨v,rfl⟩,d,c⟩;go_wp2;go_ret;exact⟨⟨_,rfl⟩,d,c⟩
theorem Lp(w:World)(t:TypeId):jO (w.alloc (.cells #[.slice none 0 0,.int .i64 0] t)) w.heap.size 0 0:=
 ⟨by decide,.slice none 0 0,⟨by simp,by simp,by simp,by simp,by simp⟩,a1A _ _ _ _⟩
theorem rh(a:Option Addr)(cap:Nat)(l:List (Int×Int))(w:World)(h:nc w a l)(m:l.length<=1000000000) :
  CD 128 #[.slice a l.length cap] w (.string ⟨(rl l).toArray⟩):=by
 cases b:lOk l
 . have i:=af (M5 b);have g:=tj b;go_enter func128,ntmps128;go_wp2_with (go_at_call 117;refine(gz _ _ _ _ h m).mono ?_;rintro e w1 ⟨rfl,c⟩;rw[g]);go_ret;exact⟨Ex (a:=[]) (ae i).symm,c⟩
 .
  have i:=af (fy b);have g:=vo b;have d:aY l=true:=by simp only[lOk,a0h]at b;exact b.1
  obtain⟨s0,_⟩:=Dl d;generalize bK l=sb at *
  clear d;go_enter func128,ntmps128;go_wp2_with fail;refine(gz _ _ _ _ h m).mono ?_;rintro e w1 ⟨rfl,c⟩;rw[g];clear g;have o:=h.later c;go_wp2_with fail;refine(Ha w1.heap.size a cap l w1 _ o ((a0c _ _).alloc (a0a _) _) (a0a _) b (Lp w1 _)).mono ?_;rintro e w2 ⟨⟨v0,rfl⟩,⟨_,v,T,Y⟩,j⟩;have k:=kw Y;obtain⟨va,vc,rfl⟩:=Y.form;obtain⟨k0,q,f0,f1,p⟩:=T;clear q Y;generalize f:(leS (((aX l).2+7)/8) (aX l).1)=res at *
  have n:Hid (res=rl l):=by have h:=ae i;rw[h,←f];exact rfl
  clear f;go_wp2;go_ret;exact⟨Ex (ae n),ak c (((a0c _ _).alloc (a0a _) _).trans j)⟩
theorem vj(q k V W:Nat)(a:V<2 ^ (8*q)):leS (q+k) (V+W*2 ^ (8*q))=leS q V++leS k W:=by
 induction k with
 | zero=>simp[leS,rD q V W (8*q) (a0a _)]
 | succ k ih=>
  rw[show q+(k+1)=(q+k)+1 by omega];simp only[leS];rw[ih,a0H]
  congr 3
  have e:2 ^ (8*(q+k))=2 ^ (8*q)*2 ^ (8*k):=by rw[←a0P];congr 1;omega
  rw[e,←a10,Nat.add_mul_div_right _ _ (a1t _),a11 a,a0J]
theorem CY(V m:Nat)(l:List (Nat×Nat)):gU (V,m) l=(V+(gU (0,0) l).1*2 ^ m,m+(gU (0,0) l).2):=by
 have key:∀(l:List (Nat×Nat)) (W k:Nat),gU (V+W*2 ^ m,m+k) l=(V+(gU (W,k) l).1*2 ^ m,m+(gU (W,k) l).2):=by
  intro l;induction l with
  | nil=>intro W k;rfl
  | cons p l ih=>
   intro W k;simp only[gU];have e:V+W*2 ^ m+p.1*2 ^ (m+k)=V+(W+p.1*2 ^ k)*2 ^ m:=by
    rw[a1y,a0P,a1P,a1q (2 ^ m)];omega
   rw[e,a1U m k p.2];exact ih _ _
 have:=key l 0 0;simpa using this
theorem lW(l m:List (Int×Int)):aX (l++m)=((aX l).1+(aX m).1*2 ^ (aX l).2,(aX l).2+(aX m).2):=by
 rw[aX,mR,a06,lN];exact CY _ _ _
theorem og(l m:List (Int×Int)):aY (l++m)=(aY l&&aY m):=by simp[aY]
theorem EG(f b:List (Int×Int))(d:lOk f=true)(hb:lOk b=true)(l:f.length+b.length<=4000)(i:(aX f).2%8=0):rl (f++b)=rl f++rl b:=by
 have a:aY f=true:=by simp only[lOk,a0h]at d;exact d.1
 have c:aY b=true:=by simp only[lOk,a0h]at hb;exact hb.1
 have h:lOk (f++b)=true:=by
  simp only[lOk,a0h,a2D,og];exact⟨⟨a,c⟩,by simpa using l⟩
 rw[fy h,fy d,fy hb,cm,cm,cm,lW];have g:=xq f a;generalize aX f=F at *
 generalize aX b=B at *
 obtain⟨V,m⟩:=F;obtain⟨W,k⟩:=B;have j:m%8=0:=i;have e:m=8*(m/8):=by omega
 show leS ((m+k+7)/8) (V+W*2 ^ m)=leS ((m+7)/8) V++leS ((k+7)/8) W;rw[show(m+k+7)/8=m/8+(k+7)/8 by omega,show(m+7)/8=m/8 by omega];have:=vj (m/8) ((k+7)/8) V W (by rw[←e];exact g);rw[←e]at this;exact this
theorem Jz(V:Nat):leS 4 V=leS 2 (V%65536)++leS 2 (V/65536):=by
 have:=vj 2 2 (V%65536) (V/65536) (a0W _ (by decide));rw[←this]
 congr 1
 show V=V%65536+V/65536*2 ^ 16;omega
def ec(ws:List Nat):List (Int×Int):=ws.map fun(x:Nat)=>(((x:Nat):Int),(16:Int))
theorem AO{ws:List Nat}(h:∀x∈ws,x<65536)(c:ws.length<=100):lOk (ec ws)=true:=by
 unfold lOk;simp only[a0h,a0o];refine⟨?_,by unfold ec;rw[a1o];omega⟩;unfold aY ec;rw[List.all_map,a05];intro x b;have a:p2 (16:Int).toNat=65536:=by decide
 have:=h x b;show pOk ((x:Nat):Int) 16=true;exact aR.2 ⟨by omega,by omega,by rw[a];omega⟩
theorem Hg{ws:List Nat}(h:∀x∈ws,x<65536)(b:ws.length<=100):rl (ec ws)=ws.flatMap (leS 2):=by
 induction ws with
 | nil=>decide
 | cons x ws ih=>
  have d:x<65536:=h x (by simp);have c:lOk (ec [x])=true:=AO (fun y a=>by rw[a09.1 a];exact d) (by simp);have h2:lOk (ec ws)=true:=AO (fun y a=>h y (by simp[a])) (by simp at b;omega);have e:ec (x :: ws)=ec [x]++ec ws:=rfl;have e1:aX (ec [x])=(x,16):=by simp[aX,mR,gU,ec]
  rw[e,EG _ _ c h2 (by unfold ec;simp at b ⊢;omega) (by rw[e1];exact(by decide:(16:Nat)%8=0)),ih (fun y a=>h y (by simp[a])) (by simp at b;omega),fy c,cm,e1,a07];show leS ((16+7)/8) x++_=_;rw[show(16+7)/8=2 by decide]
theorem aM(V many:Nat)(w:World)(M:V<1099511627776)(P:many<=10) :
  CD 79 #[.int .i64 (V:Int),.int .i64 (many:Int)] w (.string ⟨(leS many V).toArray⟩):=by
 obtain⟨i0,H,A,B,C⟩:=a0w Tryz.infoU8;have J:(many:Int)<=10:=by omega
 have p:Hid (aN (w.alloc (.cells #[] 5)) w.heap.size (.slice (some ⟨w.heap.size,0,none⟩) 0 0) (leS 0 V)):=aN.lit _ _ (a0a _);have j:Hid (Below w.heap.size w (w.alloc (.cells #[] 5))):=(a0c _ _).alloc (a0a _) _;go_enter func79,ntmps79;go_wp2_with fail
 go_loopw [0,5,6] (fun x v i wr=>∃k:Nat,k<=many/\i = .int .i64 k/\x = .int .i64 ((V/2 ^ (8*k):Nat):Int)/\aN wr w.heap.size v (leS k V)/\Below w.heap.size w wr) (fun _ _ i _=>many-(intOf i).toNat)
 case atStart=>exact⟨0,a0g _,rfl,by simp,ae p,ae j⟩
 case round=>
  obtain⟨k,O,rfl,rfl,hq,a⟩:=hrel;have e:Hid ((leS k V).length=k):=ax k V;obtain⟨va,vc,rfl⟩:=hq.formN (ae e);clear p j;by_cases I:k<many
  .
   have n:(k:Int)<(many:Int):=by omega
   have N:V/2 ^ (8*k)<=V:=a2f _ _;have s:Hid (leS k V++[UInt8.ofNat (V/2 ^ (8*k)%256)]=leS (k+1) V):=rfl;have m:Hid (V/2 ^ (8*k)/256=V/2 ^ (8*(k+1))):=by show _=_;rw[a10,show 8*(k+1)=8*k+8 by omega,a0P]
   generalize V/2 ^ (8*k)=x at *
   have K:(x:Int)<=1099511627776:=by omega
   obtain⟨y,hy⟩:∃y,x%256=y:=⟨_,rfl⟩;have u:(x:Int)%256=(y:Int):=by omega
   have L:Int.tmod (x:Int) 256=(y:Int):=by rw[a14 (by omega)];exact u
   have Q:IntKind.u8.wrap (y:Int)=(y:Int):=by simp only[IntKind.wrap,IntKind.bits,IntKind.signed];simp;omega
   have z:((UInt8.ofNat y).toNat:Int)=(y:Int):=by rw[a29];omega
   obtain⟨d,hd⟩:∃d,x/256=d:=⟨_,rfl⟩;have G:(x:Int)/256=(d:Int):=by omega
   rw[hy]at s;rw[hd]at m;have D:Hid (k+1<=maxLen/\(k+1)*1<=140737488355328):=by show _/\_;unfold maxLen;omega
   have r:=af (hq.own (ae e));have l:=a.size;have h:=af a;clear hq a hy hd;go_wp2_with (at_builtin;refine a0x _ rfl _ _ 22 rfl w.heap.size 5 i0 (.int .u8 0) 1 1 a0M H A B C rfl (by decide) _ _ _ rfl (a0n (ae r) _) ⟨wr.heap.size,0,none⟩ 1 1 [.int .u8 (y:Int)] rfl rfl (bh _ _ rfl _ _) (one_byte _) (ae D).1 (ae D).2 (an l _) ?_;intro v' x2 g c o;clear o);have t:=aE (v:=.slice va k vc) c (ae r) (a0a _) l (ae h);have f:World.ownsRow x2 w.heap.size 5 1 v' (k+1) (cn (leS k V)++[.int .u8 ((UInt8.ofNat y).toNat:Int)]):=by rw[z];exact g
   have q:=bX (b:=UInt8.ofNat y) (ae e) f;rw[ae s]at q;clear g f c;go_wp2;go_roundw
   case rel=>exact⟨k+1,by omega,by go_num,by rw[←ae m],q,t⟩
   case measure=>simp[intOf];omega
  .
   obtain rfl:k=many:=by omega
   have n:¬ (k:Int)<(k:Int):=by omega
   have F:=hq.text;have E:=af a;clear hq a;go_wp2;go_ret;exact⟨rfl,ae E⟩
def df(ws:List Nat):List Int:=ws.map fun(x:Nat)=>((x:Nat):Int)
theorem He(ws:List Nat)(k:Nat)(h:k<ws.length):(df ws).getD k 0=((ws.getD k 0:Nat):Int):=by
 unfold df;simp[List.getD,h]
theorem DD(ws:List Nat)(k:Nat)(h:k<ws.length):ec (ws.take (k+1))=ec (ws.take k)++[(((ws.getD k 0:Nat):Int),(16:Int))]:=by
 unfold ec;rw[a1r h,a06];simp[List.getD,h]
theorem Lo(x:Int)(w:World):CD 129 #[.int .i64 x] w (.agg #[.int .i64 x,.int .i64 16]):=by
 go_enter func129,ntmps129;go_wp2;refine a0t (v:=.agg #[.int .i64 x,.int .i64 16]) (by simp[results,results129,go_sem]) rfl ⟨rfl,?_⟩;exact(a0c _ _).alloc (a0a _) _
theorem BF(a:Option Addr)(cap n:Nat)(ws:List Nat)(w:World)(B:ws.length=n)(h:bu w a (df ws))(I:n<=100) :
  Calls prog 115 #[.slice a n cap,.func (.func 129) #[] #[]] w fun e w'=>∃v,e = .returned v/\Pcs w' w.heap.size v (ec ws)/\Below w.heap.size w w':=by
 have O:(n:Int)<=100:=by omega
 have x:=af B;have M:=af I;have G:Hid ((df ws).length=n):=by show _=_;unfold df;rw[a1o];exact B
 clear B I;obtain⟨i0,N,D,E,F⟩:=a0w Tryz.infoPiece;go_enter func115,ntmps115;go_wp2_with fail
 go_loopw [5,7,10] (fun o _ i wr=>∃k:Nat,k<=n/\i = .int .i64 k/\Pcs wr w.heap.size o (ec (ws.take k))/\Below w.heap.size w wr) (fun _ _ i _=>n-(intOf i).toNat)
 case atStart=>exact⟨0,a0g _,rfl,a1A _ _ _ _,a0c _ _⟩
 case round=>
  obtain⟨k,H,rfl,hq,b⟩:=hrel;by_cases p:k<n
  .
   obtain⟨g,o,rfl,P,r⟩:=(h.later b) (by rw[ae G];omega);have c0:=r k (by rw[ae G];exact p);rw[He ws k (by rw[ae x];exact p)]at c0;have C:=af (DD ws k (by rw[ae x];exact p));have A:Hid ((ec (ws.take k)).length=k):=by show _=_;unfold ec;have:=ae x;simp;omega
   have L:=af H;clear r H h;generalize ((ws.getD k 0:Nat):Int)=y at *
   have HP:=af (Lo y wr);go_wp2_with fail;refine(ae HP).mono ?_;rintro e x1 ⟨rfl,m⟩;have q:=Pcs.later hq m (a0a _);have c:=ak b m;have j:=c.size;have f:Hid ((ec (ws.take k)).length+1<=maxLen/\((ec (ws.take k)).length+1)*16<=140737488355328):=by
    show _/\_;rw[ae A];have:=ae M;unfold maxLen;omega
   clear hq b m HP;go_wp2_with (at_builtin;refine a0x _ rfl _ _ 154 rfl w.heap.size 157 i0 (.agg #[.int .i64 0,.int .i64 0]) 2 16 underlying154 N D E F rfl (by decide) _ _ _ rfl (a0n q _) ⟨x1.heap.size,0,none⟩ 1 1 [.int .i64 y,.int .i64 16] rfl rfl (Nr x1 _ _ _) (Nq _ _) (ae f).1 (ae f).2 (an j _) ?_;intro v' x2 l d t;clear t);have z:=aE (v:=u5) d q (a0a _) j c;have u:=zT l;rw[←ae C]at u;clear l d q;go_wp2;go_roundw
   case rel=>exact⟨k+1,by have:=ae L;omega,by go_num,u,z⟩
   case measure=>simp[intOf];omega
  . have s:ws.take k=ws:=a0A (by rw[ae x];omega);rw[s]at hq;have K:=af hq;have J:=af b;clear hq b s;go_wp2;go_ret;exact⟨_,rfl,ae K,ae J⟩
theorem ff(a:Option Addr)(cap n:Nat)(ws:List Nat)(w:World)(l:ws.length=n)(h:bu w a (df ws))(k:n<=100)(p:∀x∈ws,x<65536) :
  CD 96 #[.slice a n cap] w (.string ⟨(ws.flatMap (leS 2)).toArray⟩):=by
 have m:=af (BF a cap n ws w l h k);have r:=af (Hg p (by omega));have o:(ec ws).length=n:=by unfold ec;rw[a1o];exact l
 have d:=af o;have s:=af k;clear l h k p o;go_enter func96,ntmps96;go_wp2_with fail;refine(ae m).mono ?_;rintro e w1 ⟨v,rfl,j,b⟩;obtain⟨a1,c1,rfl⟩:=j.formN (ae d);have g:=rh a1 c1 (ec ws) w1 (j.rowN (ae d)) (by have:=ae d;have:=ae s;omega);rw[ae r,ae d]at g;have i:=af g;have q:=af b;clear j b g m;go_wp2_with fail;refine(ae i).mono ?_;rintro e w2 ⟨rfl,c⟩;have f:=af (ak (ae q) c);clear c;go_wp2;go_ret;exact⟨rfl,ae f⟩
theorem eq(V:Nat)(w:World)(k:V<4294967296) :
  CD 97 #[.int .i64 (V:Int)] w (.string ⟨(leS 4 V).toArray⟩):=by
 have e1:bits .and .i64 (V:Int) 65535=((V%65536:Nat):Int):=by
  have:=yJ (V:Int) (by omega) (by omega);rw[this];omega
 have d:Hid ([V%65536,V/65536].flatMap (leS 2)=leS 4 V):=by
  show _=_;rw[Jz];simp
 have hq:V/65536<65536:=by omega
 have f:Hid (bu (w.alloc (.cells #[.int .i64 ((V%65536:Nat):Int),.int .i64 ((V/65536:Nat):Int)] 3)) (some ⟨w.heap.size,0,none⟩) (df [V%65536,V/65536])):=by
  intro _;refine⟨w.heap.size,0,rfl,by simp,fun i j=>?_⟩
  match i,j with
  | 0,_=>simp[df]
  | 1,_=>simp[df]
 have c:=af (ff (some ⟨w.heap.size,0,none⟩) 2 2 [V%65536,V/65536] _ rfl (ae f) (by omega) (fun x b=>by
  simp only[a1a,List.mem_nil_iff,a1L]at b;rcases b with rfl|rfl
  . exact a0W _ (by decide)
  . exact hq))
 rw[ae d]at c;have g:Hid (Below w.heap.size w (w.alloc (.cells #[.int .i64 ((V%65536:Nat):Int),.int .i64 ((V/65536:Nat):Int)] 3))):=(a0c _ _).alloc (a0a _) _;generalize b:V%65536=x at *
 generalize l:V/65536=y at *
 have e2:(V:Int)/65536=(y:Int):=by omega
 clear d f b;go_enter func97,ntmps97;go_wp2_with fail;refine(ae c).mono ?_;rintro e w1 ⟨rfl,a⟩;have h:=af (ak (ae g) a);clear a;go_wp2;go_ret;exact⟨rfl,ae h⟩
def Ly(W:World)(g:Nat)(how st crc pk lg:Nat)(nm:ByteArray):Prop:=W.cell? ⟨g,0,none⟩=some (.int .i64 (how:Nat))/\W.cell? ⟨g,1,none⟩=some (.int .i64 (st:Nat))/\W.cell? ⟨g,2,none⟩=some (.int .i64 (crc:Nat))/\W.cell? ⟨g,3,none⟩=some (.int .i64 (pk:Nat))/\W.cell? ⟨g,4,none⟩=some (.int .i64 (lg:Nat))/\W.cell? ⟨g,5,none⟩=some (.string nm)
def ud(w:World)(how st crc pk lg:Nat)(nm:ByteArray)(W:World):Prop:=Below w.heap.size w W/\w.heap.size<W.heap.size/\Ly W w.heap.size how st crc pk lg nm
theorem ud.later{W':World}(h:ud w how st crc pk lg nm W)(hb:Below W.heap.size W W'):ud w how st crc pk lg nm W':=by
 have a:∀j,W'.cell? ⟨w.heap.size,j,none⟩=W.cell? ⟨w.heap.size,j,none⟩:=fun j=>hb.cell (p:=⟨w.heap.size,j,none⟩) h.2.1;exact⟨h.1.trans (hb.mono (a0C h.2.1)),a0j h.2.1 hb.size,(a 0).trans h.2.2.1,(a 1).trans h.2.2.2.1,(a 2).trans h.2.2.2.2.1,(a 3).trans h.2.2.2.2.2.1,(a 4).trans h.2.2.2.2.2.2.1,(a 5).trans h.2.2.2.2.2.2.2⟩
theorem GR(W:World)(x y z:Nat):bu (W.alloc (.cells #[.int .i64 ((x:Nat):Int),.int .i64 ((y:Nat):Int),.int .i64 ((z:Nat):Int)] 3)) (some ⟨W.heap.size,0,none⟩) (df [x,y,z]):=by
 intro _;refine⟨W.heap.size,0,rfl,by simp,fun i a=>?_⟩
 match i,a with
 | 0,_=>simp[df]
 | 1,_=>simp[df]
 | 2,_=>simp[df]
theorem Ns(W:World)(x y:Nat):bu (W.alloc (.cells #[.int .i64 ((x:Nat):Int),.int .i64 ((y:Nat):Int)] 3)) (some ⟨W.heap.size,0,none⟩) (df [x,y]):=by
 intro _;refine⟨W.heap.size,0,rfl,by simp,fun i a=>?_⟩
 match i,a with
 | 0,_=>simp[df]
 | 1,_=>simp[df]
def uc(w:World)(how st crc pk lg:Nat)(nm:ByteArray)(W:World)(r0 r1:Option Nat):Prop:=ud w how st crc pk lg nm W/\(∀g,r0=some g->bu W (some ⟨g,0,none⟩) (df [20,0,how]))/\∀g,r1=some g->bu W (some ⟨g,0,none⟩) (df [nm.size,0])
theorem uc.later{W':World}{a b:Option Nat}(h:uc w how st crc pk lg nm W a b)(hb:Below W.heap.size W W'):uc w how st crc pk lg nm W' a b:=⟨h.1.later hb,fun g e=>(h.2.1 g e).later hb,fun g e=>(h.2.2 g e).later hb⟩
theorem uc.new0{a:Option Nat}(h:uc w how st crc pk lg nm W none a):uc w how st crc pk lg nm (W.alloc (.cells #[.int .i64 20,.int .i64 0,.int .i64 ((how:Nat):Int)] 3)) (some W.heap.size) a:=by
 have h2:=h.later ((a0c W.heap.size W).alloc (a0a _) (.cells #[.int .i64 20,.int .i64 0,.int .i64 ((how:Nat):Int)] 3));exact⟨h2.1,fun g e=>by cases e;exact GR W 20 0 how,h2.2.2⟩
theorem uc.new1{a:Option Nat}(h:uc w how st crc pk lg nm W a none):uc w how st crc pk lg nm (W.alloc (.cells #[.int .i64 ((nm.size:Nat):Int),.int .i64 0] 3)) a (some W.heap.size):=by
 have h2:=h.later ((a0c W.heap.size W).alloc (a0a _) (.cells #[.int .i64 ((nm.size:Nat):Int),.int .i64 0] 3));exact⟨h2.1,h2.2.1,fun g e=>by cases e;exact Ns W nm.size 0⟩
def az(l:List UInt8):ByteArray:=⟨l.toArray⟩
def du(how st crc pk lg n:Nat):ByteArray:=az ([20,0,how].flatMap (leS 2))++az (leS 4 st)++az (leS 4 crc)++az (leS 4 pk)++az (leS 4 lg)++az ([n,0].flatMap (leS 2))
theorem Aw(how st crc pk lg:Nat)(nm:ByteArray)(w:World)(A:how<65536)(u:st<4294967296)(h2:crc<4294967296)(y:pk<4294967296)(z:lg<4294967296)(B:nm.size<65536) :
  CD 121 #[.agg #[.int .i64 (how:Nat),.int .i64 (st:Nat),.int .i64 (crc:Nat),.int .i64 (pk:Nat),.int .i64 (lg:Nat),.string nm]] w (.string (du how st crc pk lg nm.size)):=by
 have p:prog.follows .mixedOrders=true:=by kernel_rfl
 have q:Hid (∀g W,bu W (some ⟨g,0,none⟩) (df [20,0,how])->CD 96 #[.slice (some ⟨g,0,none⟩) 3 3] W (.string (az ([20,0,how].flatMap (leS 2))))):=fun g W h=>ff _ 3 3 [20,0,how] W rfl h (by omega) (fun x t=>by simp at t;omega);have r:Hid (∀g W,bu W (some ⟨g,0,none⟩) (df [nm.size,0])->CD 96 #[.slice (some ⟨g,0,none⟩) 2 2] W (.string (az ([nm.size,0].flatMap (leS 2))))):=fun g W h=>ff _ 2 2 [nm.size,0] W rfl h (by omega) (fun x t=>by simp at t;omega);have k:Hid (∀W,CD 97 #[.int .i64 (st:Int)] W (.string (az (leS 4 st)))):=fun W=>eq st W u;have m:Hid (∀W,CD 97 #[.int .i64 (crc:Int)] W (.string (az (leS 4 crc)))):=fun W=>eq crc W h2;have n:Hid (∀W,CD 97 #[.int .i64 (pk:Int)] W (.string (az (leS 4 pk)))):=fun W=>eq pk W y;have o:Hid (∀W,CD 97 #[.int .i64 (lg:Int)] W (.string (az (leS 4 lg)))):=fun W=>eq lg W z;have j:∀l:List UInt8,(az l).size=l.length:=fun l=>by simp[az,ByteArray.size]
 have z0:((az ([20,0,how].flatMap (leS 2))).size:Int)<=100:=by rw[j];simp[ax]
 have z5:((az ([nm.size,0].flatMap (leS 2))).size:Int)<=100:=by rw[j];simp[ax]
 have z1:((az (leS 4 st)).size:Int)<=100:=by rw[j,ax];omega
 have z2:((az (leS 4 crc)).size:Int)<=100:=by rw[j,ax];omega
 have z3:((az (leS 4 pk)).size:Int)<=100:=by rw[j,ax];omega
 have z4:((az (leS 4 lg)).size:Int)<=100:=by rw[j,ax];omega
 unfold du;generalize az ([20,0,how].flatMap (leS 2))=A0 at *
 generalize az ([nm.size,0].flatMap (leS 2))=A5 at *
 generalize az (leS 4 st)=A1 at *
 generalize az (leS 4 crc)=A2 at *
 generalize az (leS 4 pk)=A3 at *
 generalize az (leS 4 lg)=A4 at *
 have C:(nm.size:Int)<65536:=by omega
 have T0':Hid (ud w how st crc pk lg nm (w.alloc (.cells #[.int .i64 (how:Nat),.int .i64 (st:Nat),.int .i64 (crc:Nat),.int .i64 (pk:Nat),.int .i64 (lg:Nat),.string nm] 90))):=⟨(a0c _ _).alloc (a0a _) _,by simp,by simp,by simp,by simp,by simp,by simp,by simp⟩;clear A u h2 y z B j;go_enter func121,ntmps121;go_wp2_with fail;obtain⟨W0,hW0⟩:∃x,w.alloc (.cells #[.int .i64 (how:Nat),.int .i64 (st:Nat),.int .i64 (crc:Nat),.int .i64 (pk:Nat),.int .i64 (lg:Nat),.string nm] 90)=x:=⟨_,rfl⟩;rw[hW0]at T0';rw[hW0];have T0:=T0';clear T0' hW0;refine wp_region_held_drew (S:=fun W=>Ly W w.heap.size how st crc pk lg nm) p (ae T0).2.2 (fun c=>?_);refine ag 0 (.pointer (some ⟨w.heap.size,0,none⟩)) rfl (by kernel_rfl) (fun _ _ _ h=>h) rfl (fun W a=>by obtain⟨s0,s1,s2,s3,s4,s5⟩:=a;go_simp) c ?_;refine ag 1 (.int .i64 (how:Nat)) rfl (by kernel_rfl) (fun _ _ _ h=>h) rfl (fun W a=>by obtain⟨s0,s1,s2,s3,s4,s5⟩:=a;go_simp) c ?_;refine ag 4 (.pointer (some ⟨w.heap.size,1,none⟩)) rfl (by kernel_rfl) (fun _ _ _ h=>h) rfl (fun W a=>by obtain⟨s0,s1,s2,s3,s4,s5⟩:=a;go_simp) c ?_;refine ag 5 (.int .i64 (st:Nat)) rfl (by kernel_rfl) (fun _ _ _ h=>h) rfl (fun W a=>by obtain⟨s0,s1,s2,s3,s4,s5⟩:=a;go_simp) c ?_;refine ag 8 (.pointer (some ⟨w.heap.size,2,none⟩)) rfl (by kernel_rfl) (fun _ _ _ h=>h) rfl (fun W a=>by obtain⟨s0,s1,s2,s3,s4,s5⟩:=a;go_simp) c ?_;refine ag 9 (.int .i64 (crc:Nat)) rfl (by kernel_rfl) (fun _ _ _ h=>h) rfl (fun W a=>by obtain⟨s0,s1,s2,s3,s4,s5⟩:=a;go_simp) c ?_;refine ag 12 (.pointer (some ⟨w.heap.size,3,none⟩)) rfl (by kernel_rfl) (fun _ _ _ h=>h) rfl (fun W a=>by obtain⟨s0,s1,s2,s3,s4,s5⟩:=a;go_simp) c ?_;refine ag 13 (.int .i64 (pk:Nat)) rfl (by kernel_rfl) (fun _ _ _ h=>h) rfl (fun W a=>by obtain⟨s0,s1,s2,s3,s4,s5⟩:=a;go_simp) c ?_;refine ag 16 (.pointer (some ⟨w.heap.size,4,none⟩)) rfl (by kernel_rfl) (fun _ _ _ h=>h) rfl (fun W a=>by obtain⟨s0,s1,s2,s3,s4,s5⟩:=a;go_simp) c ?_;refine ag 17 (.int .i64 (lg:Nat)) rfl (by kernel_rfl) (fun _ _ _ h=>h) rfl (fun W a=>by obtain⟨s0,s1,s2,s3,s4,s5⟩:=a;go_simp) c ?_;refine ag 20 (.pointer (some ⟨w.heap.size,5,none⟩)) rfl (by kernel_rfl) (fun _ _ _ h=>h) rfl (fun W a=>by obtain⟨s0,s1,s2,s3,s4,s5⟩:=a;go_simp) c ?_;refine ag 21 (.string nm) rfl (by kernel_rfl) (fun _ _ _ h=>h) rfl (fun W a=>by obtain⟨s0,s1,s2,s3,s4,s5⟩:=a;go_simp) c ?_;refine ag 22 (.int .i64 (nm.size:Nat)) rfl (by kernel_rfl) (fun _ _ _ h=>h) rfl (fun W a=>by obtain⟨s0,s1,s2,s3,s4,s5⟩:=a;go_simp) c ?_;have b:uc w how st crc pk lg nm W0.drew none none:=⟨⟨(ae T0).1.drew,(ae T0).2.1,(ae T0).2.2⟩,nofun,nofun⟩;generalize W0.drew=W at b c ⊢;refine wpAnyH_ready (rs:=[2,23]) (by kernel_rfl) (by simp) ?_;repeat' first
  | exact AllReadyH.nil
  | refine AllReadyH.cons rfl (fun K d=>?_) ?_
  | (refine ip 5 rfl ?_;go_simp;have b:=b.new0;refine Shut.out d _ _ b.1.2.2 (fun c=>?_);clear d K;generalize W.alloc (.cells #[.int .i64 20,.int .i64 0,.int .i64 ((how:Nat):Int)] 3)=V at b c ⊢;generalize W.heap.size=g at b ⊢;revert V;intro W c b;(first|refine wpAnyH_ready (rs:=[3,23]) (by decide +kernel) (by simp) ?_|refine wpAnyH_ready (rs:=[3]) (by decide +kernel) (by simp) ?_))
  | (refine ip 26 rfl ?_;go_simp;have b:=b.new1;refine Shut.out d _ _ b.1.2.2 (fun c=>?_);clear d K;generalize W.alloc (.cells #[.int .i64 ((nm.size:Nat):Int),.int .i64 0] 3)=V at b c ⊢;generalize W.heap.size=g at b ⊢;revert V;intro W c b;(first|refine wpAnyH_ready (rs:=[2]) (by decide +kernel) (by simp) ?_|refine wpAnyH_ready (rs:=[3]) (by decide +kernel) (by simp) ?_|refine wpAnyH_ready (rs:=[6]) (by decide +kernel) (by simp) ?_|refine wpAnyH_ready (rs:=[10]) (by decide +kernel) (by simp) ?_|refine wpAnyH_ready (rs:=[14]) (by decide +kernel) (by simp) ?_|refine wpAnyH_ready (rs:=[18]) (by decide +kernel) (by simp) ?_|refine wpAnyH_ready (rs:=[24]) (by decide +kernel) (by simp) ?_))
  | (refine ip 6 rfl ?_;go_simp;go_at_call 96;refine(ae q _ _ (b.2.1 _ rfl)).mono ?_;rintro e W ⟨rfl,f⟩;have b:=b.later f;refine Shut.out d _ _ b.1.2.2 (fun c=>?_);clear d K;clear f;(first|refine wpAnyH_ready (rs:=[6,23]) (by decide +kernel) (by simp) ?_|refine wpAnyH_ready (rs:=[6]) (by decide +kernel) (by simp) ?_))
  | (refine ip 9 rfl ?_;go_simp;go_at_call 97;refine(ae k _).mono ?_;rintro e W ⟨rfl,f⟩;have b:=b.later f;refine Shut.out d _ _ b.1.2.2 (fun c=>?_);clear d K;clear f;refine wpAnyH_take (i:=7) (v:=.string (A0++A1)) rfl (by kernel_rfl) (by kernel_rfl) (by kernel_rfl) (fun _ _ _ h=>h) (a0s ⟨by rfl,fun W a=>by go_simp<;>omega⟩) c ?_;(first|refine wpAnyH_ready (rs:=[10,23]) (by decide +kernel) (by simp) ?_|refine wpAnyH_ready (rs:=[10]) (by decide +kernel) (by simp) ?_))
  | (refine ip 13 rfl ?_;go_simp;go_at_call 97;refine(ae m _).mono ?_;rintro e W ⟨rfl,f⟩;have b:=b.later f;refine Shut.out d _ _ b.1.2.2 (fun c=>?_);clear d K;clear f;refine wpAnyH_take (i:=11) (v:=.string (A0++A1++A2)) rfl (by kernel_rfl) (by kernel_rfl) (by kernel_rfl) (fun _ _ _ h=>h) (a0s ⟨by rfl,fun W a=>by go_simp<;>omega⟩) c ?_;(first|refine wpAnyH_ready (rs:=[14,23]) (by decide +kernel) (by simp) ?_|refine wpAnyH_ready (rs:=[14]) (by decide +kernel) (by simp) ?_))
  | (refine ip 17 rfl ?_;go_simp;go_at_call 97;refine(ae n _).mono ?_;rintro e W ⟨rfl,f⟩;have b:=b.later f;refine Shut.out d _ _ b.1.2.2 (fun c=>?_);clear d K;clear f;refine wpAnyH_take (i:=15) (v:=.string (A0++A1++A2++A3)) rfl (by kernel_rfl) (by kernel_rfl) (by kernel_rfl) (fun _ _ _ h=>h) (a0s ⟨by rfl,fun W a=>by go_simp<;>omega⟩) c ?_;(first|refine wpAnyH_ready (rs:=[18,23]) (by decide +kernel) (by simp) ?_|refine wpAnyH_ready (rs:=[18]) (by decide +kernel) (by simp) ?_))
  | (refine ip 21 rfl ?_;go_simp;go_at_call 97;refine(ae o _).mono ?_;rintro e W ⟨rfl,f⟩;have b:=b.later f;refine Shut.out d _ _ b.1.2.2 (fun c=>?_);clear d K;clear f;refine wpAnyH_take (i:=19) (v:=.string (A0++A1++A2++A3++A4)) rfl (by kernel_rfl) (by kernel_rfl) (by kernel_rfl) (fun _ _ _ h=>h) (a0s ⟨by rfl,fun W a=>by go_simp<;>omega⟩) c ?_;(first|refine wpAnyH_ready (rs:=[23]) (by decide +kernel) (by simp) ?_|refine wpAnyH_ready (rs:=[24]) (by decide +kernel) (by simp) ?_))
  | (refine ip 27 rfl ?_;go_simp;go_at_call 96;refine(ae r _ _ (b.2.2 _ rfl)).mono ?_;rintro e W ⟨rfl,f⟩;have b:=b.later f;refine Shut.out d _ _ b.1.2.2 (fun c=>?_);clear d K;clear f;refine wpAnyH_take (i:=25) (v:=.string (A0++A1++A2++A3++A4++A5)) rfl (by kernel_rfl) (by kernel_rfl) (by kernel_rfl) (fun _ _ _ h=>h) (a0s ⟨by rfl,fun W a=>by go_simp<;>omega⟩) c ?_;refine wpAnyH_ready (rs:=[26]) (by kernel_rfl) (by simp) ?_)
  | (refine ip 2 rfl ?_;go_simp;refine Shut.out d _ _ b.1.2.2 (fun c=>?_);clear d K;refine wpAnyH_done (by kernel_rfl) ?_ _;generalize s:A0++A1++A2++A3++A4++A5=AA;go_wp2;go_ret;exact⟨by subst s;rfl,b.1.1⟩)
theorem bH(l:List UInt8):(az l).size=l.length:=by simp[az,ByteArray.size]
theorem dM(how st crc pk lg n:Nat):(du how st crc pk lg n).size=26:=by
 unfold du;rw[a0u,a0u,a0u,a0u,a0u];simp only[bH,a07,a2M,a0m,ax,a0Q]
def cj(how st crc pk lg:Nat)(nm:ByteArray):ByteArray:=(⟨#[80,75,3,4]⟩:ByteArray)++du how st crc pk lg nm.size++nm
theorem yH(how st crc pk lg:Nat)(nm f:ByteArray)(w:World)(k:how<65536)(l:st<4294967296)(h2:crc<4294967296)(m:pk<4294967296)(n:lg<4294967296)(o:nm.size<65536) :
  CD 87 #[.agg #[.int .i64 (how:Nat),.int .i64 (st:Nat),.int .i64 (crc:Nat),.int .i64 (pk:Nat),.int .i64 (lg:Nat),.string nm,.string f]] w (.string (cj how st crc pk lg nm)):=by
 have j:=af (fun W=>Aw how st crc pk lg nm W k l h2 m n o);have d:prog.follows .mixedOrders=true:=by kernel_rfl
 obtain⟨A,hA⟩:∃A,du how st crc pk lg nm.size=A:=⟨_,rfl⟩;have q:(A.size:Int)<=1000:=by
  rw[←hA,dM];omega
 have r:(nm.size:Int)<65536:=by omega
 have p:cj how st crc pk lg nm=(⟨#[80,75,3,4]⟩:ByteArray)++A++nm:=by unfold cj;rw[hA]
 rw[hA]at j;rw[p];have T0':Hid (ud w how st crc pk lg nm (w.alloc (.cells #[.int .i64 (how:Nat),.int .i64 (st:Nat),.int .i64 (crc:Nat),.int .i64 (pk:Nat),.int .i64 (lg:Nat),.string nm,.string f] 92))):=⟨(a0c _ _).alloc (a0a _) _,by simp,by simp,by simp,by simp,by simp,by simp,by simp⟩;clear k l h2 m n o hA p;go_enter func87,ntmps87;go_wp2_with fail;obtain⟨W0,hW0⟩:∃x,w.alloc (.cells #[.int .i64 (how:Nat),.int .i64 (st:Nat),.int .i64 (crc:Nat),.int .i64 (pk:Nat),.int .i64 (lg:Nat),.string nm,.string f] 92)=x:=⟨_,rfl⟩;rw[hW0]at T0';rw[hW0];have T0:=T0';clear T0' hW0;refine wp_region_held_drew (S:=fun W=>Ly W w.heap.size how st crc pk lg nm) d (ae T0).2.2 (fun b=>?_);refine ag 0 (.pointer (some ⟨w.heap.size,0,none⟩)) rfl (by kernel_rfl) (fun _ _ _ h=>h) rfl (fun W a=>by obtain⟨s0,s1,s2,s3,s4,s5⟩:=a;go_simp) b ?_;refine ag 1 (.agg #[.int .i64 (how:Nat),.int .i64 (st:Nat),.int .i64 (crc:Nat),.int .i64 (pk:Nat),.int .i64 (lg:Nat),.string nm]) rfl (by kernel_rfl) (fun _ _ _ h=>h) rfl (fun W a=>by obtain⟨s0,s1,s2,s3,s4,s5⟩:=a;go_simp) b ?_;refine ag 4 (.pointer (some ⟨w.heap.size,0,none⟩)) rfl (by kernel_rfl) (fun _ _ _ h=>h) rfl (fun W a=>by obtain⟨s0,s1,s2,s3,s4,s5⟩:=a;go_simp) b ?_;refine ag 5 (.pointer (some ⟨w.heap.size,5,none⟩)) rfl (by kernel_rfl) (fun _ _ _ h=>h) rfl (fun W a=>by obtain⟨s0,s1,s2,s3,s4,s5⟩:=a;go_simp) b ?_;refine ag 6 (.string nm) rfl (by kernel_rfl) (fun _ _ _ h=>h) rfl (fun W a=>by obtain⟨s0,s1,s2,s3,s4,s5⟩:=a;go_simp) b ?_;have T1:Hid (ud w how st crc pk lg nm W0.drew):=⟨(ae T0).1.drew,(ae T0).2.1,(ae T0).2.2⟩;generalize W0.drew=W1 at *
 refine ah 2 (by kernel_rfl) rfl fun K c=>?_;go_simp;go_at_call 121;refine(ae j W1).mono ?_;rintro e W2 ⟨rfl,i⟩;have T2:=af ((ae T1).later i);refine Shut.out c _ _ (ae T2).2.2 (fun b=>?_);clear c K i;refine ag 3 (.string ((⟨#[80,75,3,4]⟩:ByteArray)++A)) rfl (by kernel_rfl) (fun _ _ _ h=>h) rfl (fun W a=>by obtain⟨s0,s1,s2,s3,s4,s5⟩:=a;go_simp<;>omega) b ?_;refine ag 7 (.string ((⟨#[80,75,3,4]⟩:ByteArray)++A++nm)) rfl (by kernel_rfl) (fun _ _ _ h=>h) rfl (fun W a=>by obtain⟨s0,s1,s2,s3,s4,s5⟩:=a;go_simp<;>omega) b ?_;refine ah 8 (by kernel_rfl) rfl fun K c=>?_;go_simp;refine Shut.out c _ _ (ae T2).2.2 (fun b=>?_);clear c K;refine wpAnyH_done (by kernel_rfl) ?_ _;generalize g:(⟨#[80,75,3,4]⟩:ByteArray)++A++nm=AA;go_wp2;go_ret;exact⟨by subst g;rfl,(ae T2).1⟩
theorem su(how st crc pk lg:Nat)(nm:ByteArray):(cj how st crc pk lg nm).size=30+nm.size:=by
 unfold cj;rw[a0u,a0u,dM];have:(⟨#[80,75,3,4]⟩:ByteArray).size=4:=rfl;omega
theorem yG(how st crc pk lg:Nat)(nm a:ByteArray)(w:World)(j:how<65536)(k:st<4294967296)(h2:crc<4294967296)(l:pk<4294967296)(m:lg<4294967296)(n:nm.size<65536)(q:a.size<=100000) :
  CD 64 #[.agg #[.int .i64 (how:Nat),.int .i64 (st:Nat),.int .i64 (crc:Nat),.int .i64 (pk:Nat),.int .i64 (lg:Nat),.string nm,.string a]] w (.string (cj how st crc pk lg nm++a)):=by
 have f:prog.follows .mixedOrders=true:=by kernel_rfl
 have o:=af (fun W=>yH how st crc pk lg nm a W j k h2 l m n);have r:((cj how st crc pk lg nm).size:Int)<=70000:=by rw[su];omega
 have s:(a.size:Int)<=100000:=by omega
 generalize cj how st crc pk lg nm=A at *
 have T0':Hid (ud w how st crc pk lg nm (w.alloc (.cells #[.int .i64 (how:Nat),.int .i64 (st:Nat),.int .i64 (crc:Nat),.int .i64 (pk:Nat),.int .i64 (lg:Nat),.string nm,.string a] 92))/\(w.alloc (.cells #[.int .i64 (how:Nat),.int .i64 (st:Nat),.int .i64 (crc:Nat),.int .i64 (pk:Nat),.int .i64 (lg:Nat),.string nm,.string a] 92)).cell? ⟨w.heap.size,6,none⟩=some (.string a)):=⟨⟨(a0c _ _).alloc (a0a _) _,by simp,by simp,by simp,by simp,by simp,by simp,by simp⟩,by simp⟩;clear j k h2 l m n q;go_enter func64,ntmps64;go_wp2_with fail;obtain⟨W0,hW0⟩:∃x,w.alloc (.cells #[.int .i64 (how:Nat),.int .i64 (st:Nat),.int .i64 (crc:Nat),.int .i64 (pk:Nat),.int .i64 (lg:Nat),.string nm,.string a] 92)=x:=⟨_,rfl⟩;rw[hW0]at T0';rw[hW0];have T0:=T0';clear T0' hW0;refine wp_region_held_drew (S:=fun W=>Ly W w.heap.size how st crc pk lg nm/\W.cell? ⟨w.heap.size,6,none⟩=some (.string a)) f ⟨(ae T0).1.2.2,(ae T0).2⟩ (fun c=>?_);refine ag 0 (.agg #[.int .i64 (how:Nat),.int .i64 (st:Nat),.int .i64 (crc:Nat),.int .i64 (pk:Nat),.int .i64 (lg:Nat),.string nm,.string a]) rfl (by kernel_rfl) (fun _ _ _ h=>h) rfl (fun W b=>by obtain⟨⟨s0,s1,s2,s3,s4,s5⟩,s6⟩:=b;go_simp) c ?_;refine ag 2 (.pointer (some ⟨w.heap.size,6,none⟩)) rfl (by kernel_rfl) (fun _ _ _ h=>h) rfl (fun W b=>by obtain⟨⟨s0,s1,s2,s3,s4,s5⟩,s6⟩:=b;go_simp) c ?_;refine ag 3 (.string a) rfl (by kernel_rfl) (fun _ _ _ h=>h) rfl (fun W b=>by obtain⟨⟨s0,s1,s2,s3,s4,s5⟩,s6⟩:=b;go_simp) c ?_;have T1:Hid (ud w how st crc pk lg nm W0.drew/\W0.drew.cell? ⟨w.heap.size,6,none⟩=some (.string a)):=⟨⟨(ae T0).1.1.drew,(ae T0).1.2.1,(ae T0).1.2.2⟩,(ae T0).2⟩;generalize W0.drew=W1 at *
 refine ah 1 (by kernel_rfl) rfl fun K d=>?_;go_simp;go_at_call 87;refine(ae o W1).mono ?_;rintro e W2 ⟨rfl,g⟩;have T2:Hid (ud w how st crc pk lg nm W2/\W2.cell? ⟨w.heap.size,6,none⟩=some (.string a)):=⟨(ae T1).1.later g,by rw[g.cell (p:=⟨w.heap.size,6,none⟩) (ae T1).1.2.1];exact(ae T1).2⟩;refine Shut.out d _ _ ⟨(ae T2).1.2.2,(ae T2).2⟩ (fun c=>?_);clear d K g;refine ag 4 (.string (A++a)) rfl (by kernel_rfl) (fun _ _ _ h=>h) rfl (fun W b=>by obtain⟨⟨s0,s1,s2,s3,s4,s5⟩,s6⟩:=b;go_simp<;>omega) c ?_;refine ah 5 (by kernel_rfl) rfl fun K d=>?_;go_simp;refine Shut.out d _ _ ⟨(ae T2).1.2.2,(ae T2).2⟩ (fun c=>?_);clear d K;refine wpAnyH_done (by kernel_rfl) ?_ _;generalize i:A++a=AA;go_wp2;go_ret;exact⟨by subst i;rfl,(ae T2).1.1⟩
theorem yZ(l:List UInt8):leS l.length (cb l)=l:=by
 apply a2H
 . rw[ax]
 . intro j a h2;have h:=Ed l.length (cb l) j h2;rw[AJ]at h;rw[List.getD_eq_getElem?_getD,List.getElem?_eq_getElem a,List.getD_eq_getElem?_getD,List.getElem?_eq_getElem h2]at h;simpa using h
theorem gi(k V:Nat):cb (leS k V)=V%2 ^ (8*k):=by
 induction k with
 | zero=>simp[leS,cb,a1u]
 | succ k ih=>
  simp only[leS];rw[gX,ih,ax];have e:2 ^ (8*(k+1))=2 ^ (8*k)*256:=by rw[a2q,a0P]
  rw[e,Nat.mod_mul]
  congr 2
  simp[cb]
theorem oK(V p k:Nat):V/2 ^ p%2 ^ (k+1)=V/2 ^ p%2 ^ k+V/2 ^ (p+k)%2*2 ^ k:=by
 rw[zj,a10,←a0P]
def fB(l:List Int):Nat:=(l.map Int.toNat).sum
theorem qO(a b:List Int):fB (a++b)=fB a+fB b:=by simp[fB]
theorem kh(x:Int)(b:List Int):fB (x :: b)=x.toNat+fB b:=by simp[fB]
def dD(V:Nat):Nat->List Int->List Int
 | _,[]=>[]
 | p,b :: bs=>((V/2 ^ p%2 ^ b.toNat:Nat):Int) :: dD V (p+b.toNat) bs
theorem vA(V p:Nat)(l:List Int):(dD V p l).length=l.length:=by
 induction l generalizing p with
 | nil=>rfl
 | cons b l ih=>simp[dD,ih]
theorem xi(V p:Nat)(a b:List Int):dD V p (a++b)=dD V p a++dD V (p+fB a) b:=by
 induction a generalizing p with
 | nil=>simp[dD,fB]
 | cons x a ih=>simp[dD,ih,kh,a1U]
def dY(l:List Int):Bool:=l.all (fun b=>decide (0<=b)&&decide (b<=16))
def jq(s:List UInt8)(l:List Int):Bool:=dY l&&decide (l.length<=4000)&&decide (s.length=(fB l+7)/8)&&decide (cb s<2 ^ fB l)
def yz(s:List UInt8)(l:List Int):List Int:=if jq s l=true then dD (cb s) 0 l else []
theorem Bm{l:List Int}(h:dY l=true)(k:Nat)(a:k<l.length):0<=l.getD k 0/\l.getD k 0<=16:=by
 have:=a05.1 h (l.getD k 0) (by simp[List.getD,a]);simpa using this
theorem Nk{l:List Int}(h:dY l=true):fB l<=16*l.length:=by
 induction l with
 | nil=>simp[fB]
 | cons b l ih=>
  have a:(0<=b/\b<=16)/\dY l=true:=by simpa[dY]using h
  have:=ih a.2;rw[kh,a0B];omega
theorem Db(s:List UInt8)(m:Nat)(h:s.length=(m+7)/8):(cb s/2 ^ m%2 ^ ((8-m%8)%8)=0)<->cb s<2 ^ m:=by
 have a:=pe s;have e:8*s.length=m+(8-m%8)%8:=by omega
 rw[e,a0P]at a;have h2:cb s/2 ^ m<2 ^ ((8-m%8)%8):=Nat.div_lt_of_lt_mul a;rw[a0U h2];constructor
 .
  intro b;rcases Nat.div_eq_zero_iff.1 b with h|h
  . have:=a1t m;omega
  . exact h
 . exact a11
def cW(m:List UInt8):List (Int×Int):=m.map fun b=>((b.toNat:Int),8)
theorem ng(m:List UInt8):(cW m).length=m.length:=by simp[cW]
theorem Fa(m:List UInt8):aY (cW m)=true:=by
 simp only[aY,cW,List.all_map,a05];intro b _;have:=a3J b;have a:p2 (8:Int).toNat=256:=by decide
 have c:pOk (b.toNat:Int) 8=true:=aR.2 ⟨by omega,by omega,by rw[a];omega⟩;exact c
theorem Bu(m:List UInt8):aX (cW m)=(cb m,8*m.length):=by
 induction m with
 | nil=>rfl
 | cons b m ih=>
  have e0:cW (b :: m)=[((b.toNat:Int),(8:Int))]++cW m:=rfl;have e:aX [((b.toNat:Int),(8:Int))]=(b.toNat,8):=by simp[aX,mR,gU]
  have e2:cb (b :: m)=cb [b]+2 ^ (8*1)*cb m:=gX [b] m;have e3:cb [b]=b.toNat:=by simp[cb]
  rw[e0,lW,ih,e,e2,e3];refine Prod.ext ?_ ?_
  . show b.toNat+cb m*2 ^ 8=b.toNat+2 ^ (8*1)*cb m;rw[a1q]
  . show 8+8*m.length=8*(b :: m).length;rw[a0B];omega
theorem nf(m:List UInt8)(h:m.length<=4000):lOk (cW m)=true:=by
 simp only[lOk,a0h,a2D];exact⟨Fa m,by rw[ng];exact h⟩
theorem Bt(m:List UInt8)(h:m.length<=4000):rl (cW m)=m:=by
 rw[fy (nf m h),cm,Bu];show leS ((8*m.length+7)/8) (cb m)=m;rw[show(8*m.length+7)/8=m.length by omega];exact yZ m
def js(n:Nat):List (Int×Int):=[(1,1),(0,2),(0,5),((n:Int),16),(((65535-n:Nat):Int),16)]
def iO(n:Nat):Nat:=1+n*256+(65535-n)*16777216
theorem sw(n:Nat)(h:n<=65535):lOk (js n)=true:=by
 have a:p2 (16:Int).toNat=65536:=by decide
 have a1:pOk 1 1=true:=by decide
 have a2:pOk 0 2=true:=by decide
 have a3:pOk 0 5=true:=by decide
 have a4:pOk (n:Int) 16=true:=aR.2 ⟨by omega,by omega,by rw[a];omega⟩;have a5:pOk ((65535-n:Nat):Int) 16=true:=aR.2 ⟨by omega,by omega,by rw[a];omega⟩;simp only[lOk,aY,js,a18,a2N,a1,a2,a3,a4,a5];simp
theorem uT(n:Nat):aX (js n)=(iO n,40):=by
 simp[aX,mR,js,gU,iO]
theorem Fy(n:Nat)(h:n<=65535):rl (js n)=leS 5 (iO n):=by
 rw[fy (sw n h),cm,uT];simp only[Nat.reduceAdd,Nat.reduceDiv]
theorem yF(n:Nat):(aX (js n)).2%8=0:=by rw[uT];simp only[Nat.reduceMod]
theorem GK(L:List UInt8)(h:L.length<=300):rl (js L.length++cW L)=leS 5 (iO L.length)++L:=by
 rw[EG (js L.length) (cW L) (sw _ (by omega)) (nf L (by omega)) (by rw[ng];simp[js];omega) (yF _),Fy _ (by omega),Bt L (by omega)]
def jH(L:List UInt8):List UInt8:=if L.length<=300 then leS 5 (iO L.length)++L else []
def KB(b:Nat)(w w':World):Prop:=Below b w w'/\bO b w w'
theorem KB.refl(b:Nat)(w:World):KB b w w:=⟨a0c _ _,bO.refl _ _⟩
theorem KB.trans{w1 w2:World}(h:KB b w w1)(k:KB b w1 w2):KB b w w2:=⟨h.1.trans k.1,h.2.trans k.2⟩
theorem KB.drew(h:KB b w w'):KB b w w'.drew:=⟨h.1.drew,h.2.drew⟩
theorem KB.set(h:KB b w w')(o:Nat)(u:Value):KB b w (w'.setCell ⟨b,o,none⟩ u):=⟨aj h.1 (a0a _) u,h.2.set u⟩
theorem KB.below{w'':World}(h:KB b w w')(hb:Below w'.heap.size w' w'')(c:b<=w'.heap.size):KB b w w'':=
 ⟨h.1.trans (hb.mono c),h.2.trans ⟨hb.size,fun k a _ _=>hb.block k a⟩⟩
theorem zW{v2:Value}{x:UInt8}(T2:Three W2 b v v1 v2)(Y2:Bys W2 b v l)(h:KB b w W2)
  (e:Below (b+1) W2 WA) (d:bO b W2 WA) (f:Bys WA b v l) (c:w'.ownsRow (b+1) 5 1 v' (l.length+1) (cn l++[.int .u8 (x.toNat:Int)])) (a:WA.grownBy w' v.ownBlock) :
  (∃g cap,v' = .slice (some ⟨g,0,none⟩) (l.length+1) cap)/\Three w' b v v1 v2/\Bys w' b v' (l++[x])/\KB b w w':=by
 obtain⟨i,h2,j,k⟩:=tC T2 Y2 h.1 e c a;exact⟨i,h2,j,k,h.2.trans (d.grown f a)⟩
theorem Kx(b V m:Nat)(num bits:Int)(w:World)(h:Out w b V m)(n0:0<=num)(n1:num<65536)(b0:0<=bits)(b1:bits<=16)(hm:m<=100000) :
  Calls prog 224 #[.pointer (some ⟨b,0,none⟩),.int .i64 num,.int .i64 bits] w fun e w'=>e = .returned (.tuple #[]) /\
   Out w' b (V+num.toNat%p2 bits.toNat*p2 m) (m+bits.toNat)/\KB b w w':=by
 obtain⟨n,rfl⟩:=a0r n0;obtain⟨c,rfl⟩:=a0r b0;rw[a0l,a0l];obtain⟨i0,hi,ba,bb,bc⟩:=a0w Tryz.infoU8;go_enter func224,ntmps224;go_wp2
 go_loopw [1,6] (fun x i wr=>∃k:Nat,k<=c/\i = .int .i64 k/\x = .int .i64 (n/p2 k:Nat)/\Out wr b (V+n%p2 k*p2 m) (m+k)/\KB b w wr) (fun _ i _=>c-(intOf i).toNat)
 case atStart=>exact⟨0,a0g _,rfl,by simp[p2],by simpa[p2,a1u]using h,KB.refl _ _⟩
 case round=>
  obtain⟨k,hk,rfl,rfl,z,a⟩:=hrel;by_cases b5:k<c
  .
   have B:=af (xf V n k m);have g:=af (yC n k);have a6:n/p2 k<=n:=a2f _ _;obtain⟨hV,v,s,G⟩:=z;obtain⟨sa,scap,rfl⟩:=G.form;have a5:=rC (V+n%p2 k*p2 m) (m+k) hV;generalize V+n%p2 k*p2 m=V1 at *
   generalize W:m+k=m1 at *
   have hx:n/p2 k%2<=1:=by omega
   have ad:((n/p2 k:Nat):Int)%2=((n/p2 k%2:Nat):Int):=by omega
   have be:((n/p2 k:Nat):Int)<65536:=by omega
   have a7:p2 (m1%8)<=128:=oO (m1%8) 7 (by omega);have O:n/p2 k%2*p2 (m1%8)<=1*p2 (m1%8):=a2d _ hx;have y:((n/p2 k%2:Nat):Int)*((p2 (m1%8):Nat):Int)=((n/p2 k%2*p2 (m1%8):Nat):Int):=by simp
   have q:=zK V1 m1 (n/p2 k%2) hV hx;have d:=zJ V1 m1 (n/p2 k%2) hV hx;have ab:m1%8<8:=a0W _ (by omega);have l:m1<=100016:=by omega
   have Q:(leS (m1/8) V1).length=m1/8:=ax _ _;generalize n/p2 k=nk at *
   generalize a9:nk%2=x at *
   generalize a1:V1/p2 (8*(m1/8))=L at *
   generalize ac:m1%8=r at *
   generalize N:p2 r=P at *
   generalize a2:x*P=X at *
   have ao:=af N;have K:=af W;have a0:=af ac;have E:=af q;have C:=af d;clear W a1 ac N a2 hV q d a9 hx a6;obtain⟨k0,H,I,f0,f1,f2,F⟩:=s;have s:Hid (Three wr b _ _ _):=⟨k0,H,I,f0,f1,f2,F⟩;have b6:(r:Int)<8:=by omega
   have bs:(L:Int)<128:=by omega
   have bz:(X:Int)<=128:=by omega
   have S:(k:Int)<(c:Int):=by omega
   have bq:=af ab;have D:=af l;have Hk:=af hk;have al:Hid (IntKind.i64.wrap ((L:Int)+IntKind.i64.wrap ((nk:Int).tmod 2*(P:Int)))=(L:Int)+(X:Int)):=by
    show IntKind.i64.wrap ((L:Int)+IntKind.i64.wrap ((nk:Int).tmod 2*(P:Int)))=(L:Int)+(X:Int);rw[a14 (by omega),ad,y,bw (X:Int) (by omega) (by omega),bw ((L:Int)+(X:Int)) (by omega) (by omega)]
   clear ab l a7 O a5 hk hm;go_wp2_with fail;go_cut[]from 7 to 62 (fun wc=>wc=(wr.setCell ⟨b,1,none⟩ (.int .i64 ((L:Int)+(X:Int)))).drew)
   case first=>
    go_region_with (go_at_call 249;refine(eR _ _ (by omega)).mono ?_;rintro e w' ⟨rfl,rfl⟩;rw[a0l,ae ao])
    all_goals
     go_wp2_with fail
     go_meet
     exact by rw[ae al]
   case rest=>
    have T1:=((ae s).set1 (.int .i64 ((L:Int)+(X:Int)))).drew;have Y1:=(G.set (o:=1) (.int .i64 ((L:Int)+(X:Int)))).drew;have B1:KB b w _:=(a.set 1 (.int .i64 ((L:Int)+(X:Int)))).drew;rw[←hcut]at T1 Y1 B1;clear hcut G a s k0 H I f0 f1 f2 F y ad;have T1':=af T1;obtain⟨k0,H,I,f0,f1,f2,F⟩:=T1;by_cases aa:(r:Int)=7
    .
     have A:r=7:=by omega
     obtain⟨o1,o2,o3,o4⟩:=ae C A;have O1:=af o1;have O2:=af o2;have O3:=af o3;have O4:=af o4;have M:L+X<256:=by omega
     have a4:=af (oq (L+X) M);have b4:IntKind.u8.wrap ((L:Int)+(X:Int))=(L:Int)+(X:Int):=by
      rw[IntKind.wrap_u8'];omega
     subst A;clear o1 o2 o3 o4 aa M;have T2:=(ae T1').set2 (.int .i64 8);have Y2:=Y1.set (o:=2) (.int .i64 8);have B2:KB b w _:=B1.set 2 (.int .i64 8);have U:=af Q;clear Q;go_wp2_with fail;generalize wc.setCell ⟨b,2,none⟩ (.int .i64 8)=W2 at *
     clear k0 H I f0 f1 f2 T1' Y1 B1;have T2':=af T2;obtain⟨k0,H,I,f0,f1,f2,a3⟩:=T2;have R:Hid (((UInt8.ofNat (L+X)).toNat:Int)=(L:Int)+(X:Int)):=by
      show((UInt8.ofNat (L+X)).toNat:Int)=(L:Int)+(X:Int);rw[ae a4];omega
     have T:(leS (m1/8) V1).length<=20000:=by have:=ae U;have:=ae D;omega
     have J:=af T;clear T;go_cut[]from 7 to 62 (fun wc2=>∃v',Three wc2 b v' (.int .i64 ((L:Int)+(X:Int))) (.int .i64 8)/\Bys wc2 b v' (leS (m1/8) V1++[UInt8.ofNat (L+X)])/\KB b w wc2)
     case first=>
      go_region_law (refine aK rfl (.tmp 47) (.tmp 53) 22 rfl (b+1) 5 i0 (.int .u8 0) 1 1 a0M hi ba bb bc rfl (by decide) _ _ _ (by simp[Act.eval]) (Y2.alloc _) ⟨W2.heap.size,0,none⟩ 1 1 [.int .u8 ((L:Int)+(X:Int))] (by simp[Act.eval]) rfl (by intro j u hj;match j,hj with | 0,hj=>simp at hj;subst hj;simp[Addr.add]) (by intro u hu;simp at hu;subst hu;rfl) (by have:=ae J;unfold maxLen;omega) (by have:=ae J;omega) (by simp;omega) ?_;intro v' w' p f Z;clear Z;rw[←ae R]at p;obtain⟨⟨g',bd,rfl⟩,T3,Y3,B3⟩:=zW (ae T2') Y2 B2 (by first|exact(a0c _ _).alloc (by omega) _|exact((a0c _ _).alloc (by omega) _).drew) (by first|exact(bO.refl _ _).alloc _|exact((bO.refl _ _).alloc _).drew) (by first|exact Y2.alloc _|exact(Y2.alloc _).drew) p f;clear p f;have T3':=af T3;obtain⟨q0,q1,q2,e0,e1,e2,b2⟩:=T3)
      all_goals
       go_wp2_with fail
       go_meet
       exact⟨_,(ae T3').set0 _,Y3.set _,B3.set _ _⟩
     case rest=>
      obtain⟨v',T4,Y4,B4⟩:=hcut;clear k0 H I f0 f1 f2 T2' Y2 B2 a3;obtain⟨va,vc,rfl⟩:=Y4.form;have T4':=af T4;obtain⟨k0,H,I,f0,f1,f2,b3⟩:=T4;go_wp2;go_roundw
      case rel=>
       refine⟨k+1,by have:=ae Hk;omega,by go_num,by rw[←ae g];go_num,?_,(B4.set _ _).set _ _⟩;rw[ae B,show m+(k+1)=m1+1 by have:=ae K;omega];refine⟨ae O1,.slice va (leS (m1/8) V1++[UInt8.ofNat (L+X)]).length vc,?_,?_⟩
       . rw[ae O2,ae O3];exact((ae T4').set1 _).set2 _
       . rw[ae O4];exact(Y4.set _).set _
      case measure=>simp[intOf];omega
    .
     have bk:((r:Int)+1 == 8)=false:=by simp;omega
     have t:r<7:=by omega
     obtain⟨o1,o2,o3⟩:=ae E t;have O1:=af o1;have O2:=af o2;have O3:=af o3;have Y:Hid ((m1+1)%8=r+1):=by show(m1+1)%8=r+1;have:=ae a0;omega
     clear o1 o2 o3 t aa;go_wp2;go_roundw
     case rel=>
      refine⟨k+1,by have:=ae Hk;omega,by go_num,by rw[←ae g];go_num,?_,B1.set _ _⟩;rw[ae B,show m+(k+1)=m1+1 by have:=ae K;omega];refine⟨ae O1,.slice sa (leS (m1/8) V1).length scap,?_,?_⟩
      . rw[ae O2,ae Y];exact(ae T1').set2 _
      . rw[ae O3];exact Y1.set _
     case measure=>simp[intOf];omega
  .
   have S:k=c:=by omega
   subst S;go_wp2
   go_end0
   exact⟨rfl,z,a⟩
theorem kW(b V m:Nat)(w:World)(h:Out w b V m)(d:m<=90000) :
  Calls prog 225 #[.pointer (some ⟨b,0,none⟩)] w fun e w'=>e = .returned (.tuple #[])/\Out w' b V (8*((m+7)/8))/\Below b w w':=by
 have j:=af h;obtain⟨k,v,u,n⟩:=h;obtain⟨k0,o,x,f0,f1,f2,q⟩:=u;by_cases l:m%8=0
 .
  have g:((m%8:Nat):Int)=0:=by omega
  have s:Hid (8*((m+7)/8)=m):=by show _=_;omega
  clear l k n k0 o d;go_enter func225,ntmps225;go_wp2
  go_end0
  exact⟨rfl,by rw[ae s];exact ae j,a0c _ _⟩
 .
  have g:(0:Int)<((m%8:Nat):Int):=by omega
  have t:((m%8:Nat):Int)<8:=by omega
  have a:Hid (m+(8-m%8)=8*((m+7)/8)):=by show _=_;omega
  have i:Hid ((8-((m%8:Nat):Int)).toNat=8-m%8):=by show(8-((m%8:Nat):Int)).toNat=8-m%8;omega
  have f:=af d;clear l k n k0 o d;generalize ((m%8:Nat):Int)=r at *
  go_enter func225,ntmps225;go_wp2_with fail;refine(oQ b V m 0 (8-r) _ (ae j) (by omega) (by omega) (by omega) (by omega) (by have:=ae f;omega)).mono ?_;rintro e w1 ⟨rfl,c,hb⟩;rw[ae i]at c;simp only[Int.toNat_zero,Nat.zero_mod,Nat.zero_mul,a1l]at c;rw[ae a]at c;have p:=af c;clear c;go_wp2
  go_end0
  exact⟨rfl,ae p,hb⟩
theorem LM(l:List UInt8)(s:ByteArray):(⟨l.toArray⟩:ByteArray)++s=⟨(l++s.data.toList).toArray⟩:=by
 apply ByteArray.ext;rw[a1w];apply Array.ext';simp
theorem yV(s:ByteArray)(w:World)(A:s.size<=300) :
  CD 184 #[.string s] w (.string ⟨(leS 5 (iO s.size)++s.data.toList).toArray⟩):=by
 have E:(s.size:Int)<=300:=by omega
 have B:=af (xd w 294);have m:Hid (Below w.heap.size w (w.alloc (.cells #[.slice none 0 0,.int .i64 0,.int .i64 0] 294))):=(a0c _ _).alloc (a0a _) _;have q:=af A;clear A;go_enter func184,ntmps184;go_wp2_with fail;refine(oQ _ 0 0 1 1 _ (ae B) (by omega) (by omega) (by omega) (by omega) (by omega)).mono ?_;rintro e x1 ⟨rfl,r,d⟩;go_wp2_with fail;refine(oQ _ _ _ 0 2 _ r (by omega) (by omega) (by omega) (by omega) (by omega)).mono ?_;rintro e x2 ⟨rfl,h2,f⟩;have a:Out x2 w.heap.size 1 3:=h2;clear r h2;go_wp2_with fail;refine(kW _ _ _ _ a (by omega)).mono ?_;rintro e x3 ⟨rfl,t,g⟩;have b:Out x3 w.heap.size 1 8:=t;have n:=af (((ae m).trans d).trans (f.trans g));clear a t d f g;go_wp2_with fail;refine(oQ _ _ _ (s.size:Int) 16 _ b (by omega) (by omega) (by omega) (by omega) (by omega)).mono ?_;rintro e x4 ⟨rfl,u,h⟩;clear b;go_wp2_with fail;refine(oQ _ _ _ (65535-(s.size:Int)) 16 _ u (by omega) (by omega) (by omega) (by omega) (by omega)).mono ?_;rintro e x5 ⟨rfl,x,i⟩;have z:1+((s.size:Int).toNat%p2 (16:Int).toNat*p2 8)+((65535-(s.size:Int)).toNat%p2 (16:Int).toNat*p2 (8+(16:Int).toNat))=iO s.size:=by
  have e16:p2 (16:Int).toNat=65536:=by decide
  have e8:p2 8=256:=by decide
  have e24:p2 (8+(16:Int).toNat)=16777216:=by decide
  rw[e16,e8,e24];unfold iO;have:=ae q;rw[a0l,show(65535-(s.size:Int)).toNat=65535-s.size by omega,a0U (by omega),a0U (by omega)]
 have l:Out x5 w.heap.size (iO s.size) 40:=by rw[←z];exact x
 obtain⟨_,v,T,Y⟩:=l;have j:=kw Y;have o:=af ((ae n).trans (h.trans i));obtain⟨k0,F,G,f0,f1,f2,D⟩:=T;have k:leS (40/8) (iO s.size)=leS 5 (iO s.size):=rfl;rw[k]at j;have p:=af (LM (leS 5 (iO s.size)) s);clear u x z h i Y F G k;have c:=ax 5 (iO s.size);generalize y:leS 5 (iO s.size)=P at j p c;have HP:=af y;have C:¬ 9223372036854775807<P.length+s.size:=by have:=ae q;omega
 clear y c;go_wp2;go_ret;exact⟨by rw[ae HP,←ae p];rfl,ae o⟩
def wd(l:List UInt8)(i k:Nat):Nat:=cb ((l.drop i).take k)
theorem EH(l:List UInt8)(i k:Nat):wd l i k<2 ^ (8*k):=by
 unfold wd;refine a0j (pe _) (a0K (by decide) ?_);rw[a0v];omega
theorem ib(l:List UInt8)(i:Nat):wd l i 2<65536:=EH l i 2
theorem ea(l:List UInt8)(i:Nat):wd l i 4<4294967296:=EH l i 4
theorem ew(h:i+k<=l.length):((l.drop i).take k).length=k:=by
 rw[a0v,a0X];omega
theorem gJ(h:i+k<=l.length):leS k (wd l i k)=(l.drop i).take k:=by
 have:=yZ ((l.drop i).take k);rw[ew h]at this;exact this
theorem OU(k:Nat)(h:i+j<=l.length):wd l i (j+k)=wd l i j+2 ^ (8*j)*wd l (i+j) k:=by
 unfold wd;rw[a3f,gX,ew h,a1M]
theorem Px(h:i+2<=l.length):wd l i 4=wd l i 2+65536*wd l (i+2) 2:=OU (j:=2) 2 h
theorem qU{v:Nat}(h:i+k<=l.length)(a:v<2 ^ (8*k)):wd l i k=v<->(l.drop i).take k=leS k v:=by
 constructor
 . intro e;rw[←e,gJ h]
 . intro e;unfold wd;rw[e,gi,a0U a]
theorem G6(h:i+k<=l.length):cb l/2 ^ (8*i)%2 ^ (8*k)=wd l i k:=by
 have e1:cb l=cb (l.take i)+2 ^ (8*i)*cb (l.drop i):=by
  have a:=gX (l.take i) (l.drop i);rw[a1E,a0v,a1m (by omega)]at a;exact a
 have l1:cb (l.take i)<2 ^ (8*i):=by
  have:=pe (l.take i);rw[a0v,a1m (by omega)]at this;exact this
 have e2:cb (l.drop i)=wd l i k+2 ^ (8*k)*cb ((l.drop i).drop k):=by
  have a:=gX ((l.drop i).take k) ((l.drop i).drop k);rw[a1E,ew h]at a;exact a
 rw[e1,Nat.add_mul_div_left _ _ (a1t _),a11 l1,a0J,e2,Nat.add_mul_mod_self_left,a0U (EH l i k)]
theorem tE(V b:Nat):∀(n p j:Nat),j<n->(dD V p (List.replicate n ((b:Nat):Int))).getD j 0=((V/2 ^ (p+b*j)%2 ^ b:Nat):Int)
 | 0,_,_,h=>by omega
 | n+1,p,0,_=>by simp[List.replicate_succ,dD]
 | n+1,p,j+1,h=>by
  rw[List.replicate_succ];simp only[dD,a2U];rw[tE V b n _ j (by omega),a0l,show p+b+b*j=p+b*(j+1) by rw[a2q];omega]
theorem wL(h:30<=l.length):jq (l.take 30) (List.replicate 15 16)=true:=by
 have e1:fB (List.replicate 15 16)=240:=by decide
 have e2:(l.take 30).length=30:=by rw[a0v];omega
 have e3:dY (List.replicate 15 16)=true:=by decide
 have e4:=pe (l.take 30);rw[e2]at e4;unfold jq;rw[e1,e2,e3];simpa using e4
theorem BQ(h:30<=l.length)(j:Nat)(b:j<15):(yz (l.take 30) (List.replicate 15 16)).getD j 0=((wd l (2*j) 2:Nat):Int):=by
 unfold yz;rw[a0e (wL h)];have a:=tE (cb (l.take 30)) 16 15 0 j b;rw[show((16:Nat):Int)=16 from rfl]at a;rw[a];have e2:(l.take 30).length=30:=by rw[a0v];omega
 have h2:=G6 (l:=l.take 30) (i:=2*j) (k:=2) (by omega);rw[show 0+16*j=8*(2*j) by omega,show(16:Nat)=8*2 from rfl,h2]
 congr 1
 unfold wd;rw[a3e,a2O,a1m (by omega)]
theorem Jj(h:30<=l.length):(yz (l.take 30) (List.replicate 15 16)).length=15:=by
 unfold yz;rw[a0e (wL h),vA,a0z]
def lk(l:List UInt8):Bool:=decide (wd l 0 4=67324752)&&(decide (wd l 4 2=20)&&(decide (wd l 6 2=0)&&decide (wd l 28 2=0)))
theorem Cy(l:List UInt8)(n:Nat):l.take (30+n)=(l.drop 0).take 4++((l.drop 4).take 2++((l.drop 6).take 2++((l.drop 8).take 2++((l.drop 10).take 4++((l.drop 14).take 4++((l.drop 18).take 4++((l.drop 22).take 4++((l.drop 26).take 2++((l.drop 28).take 2++(l.drop 30).take n))))))))):=by
 have st:∀i k m,(l.drop i).take (k+m)=(l.drop i).take k++(l.drop (i+k)).take m:=fun i k m=>by rw[a3f,a1M]
 rw[←st 28 2 n,←st 26 2 _,←st 22 4 _,←st 18 4 _,←st 14 4 _,←st 10 4 _,←st 8 2 _,←st 6 2 _,←st 4 2 _,←st 0 4 _,a1D]
 congr 1
 omega
theorem nl(how st crc pk lg:Nat)(nm:ByteArray):(cj how st crc pk lg nm).data.toList=leS 4 67324752++(leS 2 20++(leS 2 0++(leS 2 how++(leS 4 st++(leS 4 crc++(leS 4 pk++(leS 4 lg++(leS 2 nm.size++(leS 2 0++nm.data.toList))))))))):=by
 have e:leS 4 67324752=[80,75,3,4]:=by decide +kernel
 rw[e];unfold cj du az;simp
theorem Jk(h:30+wd l 26 2<=l.length)(b:nm.data.toList=(l.drop 30).take (wd l 26 2)) :
  (cj (wd l 8 2) (wd l 10 4) (wd l 14 4) (wd l 18 4) (wd l 22 4) nm).data.toList.isPrefixOf l=lk l:=by
 have c:nm.size=wd l 26 2:=by
  have:=congrArg List.length b;rw[ew h]at this;simpa using this
 have a:(cj (wd l 8 2) (wd l 10 4) (wd l 14 4) (wd l 18 4) (wd l 22 4) nm).data.toList.length=30+wd l 26 2:=by
  rw[nl,b];simp only[a0m,ax,ew h];omega
 rw[a2e,List.isPrefixOf_iff_prefix,List.prefix_iff_eq_take,a,Cy,nl,c,b,
  gJ (i:=8) (k:=2) (by omega),gJ (i:=10) (k:=4) (by omega),gJ (i:=14) (k:=4) (by omega),gJ (i:=18) (k:=4) (by omega),gJ (i:=22) (k:=4) (by omega),gJ (i:=26) (k:=2) (by omega)]
 simp only[lk,a0h,a0o];rw[qU (i:=0) (k:=4) (by omega) (by decide),qU (i:=4) (k:=2) (by omega) (by decide),qU (i:=6) (k:=2) (by omega) (by decide),qU (i:=28) (k:=2) (by omega) (by decide)];constructor
 . intro e;obtain⟨e1,e⟩:=a1h e (by rw[ax,ew (by omega)]);obtain⟨e2,e⟩:=a1h e (by rw[ax,ew (by omega)]);obtain⟨e3,e⟩:=a1h e (by rw[ax,ew (by omega)]);have e:=a1N (a1N (a1N (a1N (a1N (a1N e)))));obtain⟨e4,_⟩:=a1h e (by rw[ax,ew (by omega)]);exact⟨e1.symm,e2.symm,e3.symm,e4.symm⟩
 . rintro⟨e1,e2,e3,e4⟩;rw[e1,e2,e3,e4]
theorem Nv(k:Nat)(h:i<l.length):wd l i (k+1)=(l.getD i 0).toNat+256*wd l (i+1) k:=by
 have e:(l.drop i).take (k+1)=l[i] :: (l.drop (i+1)).take k:=by rw[a2V h,List.take_succ_cons]
 unfold wd;rw[e,List.getD_eq_getElem?_getD,List.getElem?_eq_getElem h];simp only[cb,a1c]
theorem Dz{a b:List UInt8}(k:Nat)(h:a.length=m):wd (a++b) (m+i) k=wd b i k:=by
 unfold wd;rw[←h,a2J,a2P (by omega),a1i,a1C]
theorem gj(b:List UInt8)(h:V<2 ^ (8*k)):wd (leS k V++b) 0 k=V:=by
 unfold wd;rw[a1D,a1d (by rw[ax];exact a0a _),a0A (by rw[ax];exact a0a _),gi,a0U h]
theorem sx(r:List UInt8)(d:how<65536)(e:st<4294967296)(h2:crc<4294967296)(f:pk<4294967296)(g:lg<4294967296)(h:nm.size<65536) :
  lk ((cj how st crc pk lg nm).data.toList++r)=true/\wd ((cj how st crc pk lg nm).data.toList++r) 8 2=how/\wd ((cj how st crc pk lg nm).data.toList++r) 10 4=st/\wd ((cj how st crc pk lg nm).data.toList++r) 14 4=crc/\wd ((cj how st crc pk lg nm).data.toList++r) 18 4=pk/\wd ((cj how st crc pk lg nm).data.toList++r) 22 4=lg/\wd ((cj how st crc pk lg nm).data.toList++r) 26 2=nm.size/\(((cj how st crc pk lg nm).data.toList++r).drop 30).take nm.size=nm.data.toList/\((cj how st crc pk lg nm).data.toList++r).drop (30+nm.size)=r:=by
 rw[nl];simp only[a0H];have g4:∀(V:Nat) (b:List UInt8) (i k:Nat),wd (leS 4 V++b) (4+i) k=wd b i k:=fun V b i k=>Dz k (ax 4 V);have g2:∀(V:Nat) (b:List UInt8) (i k:Nat),wd (leS 2 V++b) (2+i) k=wd b i k:=fun V b i k=>Dz k (ax 2 V);have c:∀(V:Nat) (b:List UInt8) (i:Nat),(leS 4 V++b).drop (4+i)=b.drop i:=fun V b i=>by rw[a2J,a2P (by rw[ax];omega),a1i,ax,a1C]
 have a:∀(V:Nat) (b:List UInt8) (i:Nat),(leS 2 V++b).drop (2+i)=b.drop i:=fun V b i=>by rw[a2J,a2P (by rw[ax];omega),a1i,ax,a1C]
 have e30:∀j,30+j=4+(2+(2+(2+(4+(4+(4+(4+(2+(2+j))))))))):=fun j=>by omega
 have l:nm.data.toList.length=nm.size:=by simp
 refine⟨?_,?_,?_,?_,?_,?_,?_,?_,?_⟩
 . unfold lk;rw[gj _ (by decide),show(4:Nat)=4+0 from rfl,g4,gj _ (by decide),show(6:Nat)=4+(2+0)from rfl,g4,g2,gj _ (by decide),show(28:Nat)=4+(2+(2+(2+(4+(4+(4+(4+(2+0))))))))from rfl,g4,g2,g2,g2,g4,g4,g4,g4,g2,gj _ (by decide)];rfl
 . rw[show(8:Nat)=4+(2+(2+0))from rfl,g4,g2,g2,gj _ d]
 . rw[show(10:Nat)=4+(2+(2+(2+0)))from rfl,g4,g2,g2,g2,gj _ e]
 . rw[show(14:Nat)=4+(2+(2+(2+(4+0))))from rfl,g4,g2,g2,g2,g4,gj _ h2]
 . rw[show(18:Nat)=4+(2+(2+(2+(4+(4+0)))))from rfl,g4,g2,g2,g2,g4,g4,gj _ f]
 . rw[show(22:Nat)=4+(2+(2+(2+(4+(4+(4+0))))))from rfl,g4,g2,g2,g2,g4,g4,g4,gj _ g]
 . rw[show(26:Nat)=4+(2+(2+(2+(4+(4+(4+(4+0)))))))from rfl,g4,g2,g2,g2,g4,g4,g4,g4,gj _ h]
 . rw[show(30:Nat)=4+(2+(2+(2+(4+(4+(4+(4+(2+(2+0)))))))))from rfl,c,a,a,a,c,c,c,c,a,a,a1D,a1d (by omega),a0A (by omega)]
 . rw[e30,c,a,a,a,c,c,c,c,a,a,a2J,a2P (by omega),a1i,l,a2j,a1D]
attribute [local go_sem ↓] Go.wp_at_zero Go.wp_at_succ
theorem JX(V p k:Nat)(h:k<=16):V/2 ^ p%2 ^ k<65536:=by
 have a:V/2 ^ p%2 ^ k<2 ^ k:=a0W _ (a1t k);have h2:2 ^ k<=2 ^ 16:=a0K (by omega) h;omega
theorem rG(k:Nat)(h:k<=16):p2 k<=65536:=by
 have h2:2 ^ k<=2 ^ 16:=a0K (by omega) h;have a:p2 k=2 ^ k:=rfl;omega
theorem gF(b p c:Nat)(s:ByteArray)(w:World)(h:Rdr w b s p)(A:s.size<=2000000)(u:c<=16) :
  Calls prog 209 #[.pointer (some ⟨b,0,none⟩),.int .i64 (c:Int)] w fun e w'=>e = .returned (.int .i64 (ai s/2 ^ p%2 ^ c:Nat))/\Rdr w' b s (p+c)/\aw b w w':=by
 have D:=af A;have F:(c:Int)<=16:=by omega
 have B:=af u;clear A u;go_enter func209,ntmps209;go_wp2_with fail
 go_loopw [5,6] (fun n i wr=>∃k:Nat,k<=c/\i = .int .i64 k/\n = .int .i64 (ai s/2 ^ p%2 ^ k:Nat)/\Rdr wr b s (p+k)/\aw b w wr) (fun _ i _=>c-(intOf i).toNat)
 case atStart=>exact⟨0,a0g _,rfl,by simp[a1u],h,aw.refl _ _⟩
 case round=>
  obtain⟨k,v,rfl,rfl,q,d⟩:=hrel;clear h;have C:=af v;by_cases H:k<c
  .
   have G:(k:Int)<(c:Int):=by omega
   have a:k<=16:=by have:=ae B;omega
   have t:Hid (ai s/2 ^ p%2 ^ (k+1)=ai s/2 ^ p%2 ^ k+ai s/2 ^ (p+k)%2*p2 k):=oK (ai s) p k;have m:=JX (ai s) p k a;have I:ai s/2 ^ (p+k)%2<=1:=by omega
   have o:=rG k a;have f:=af (kS b (p+k) s wr q (ae D));have j:=af (fun W=>M4 k (p2 k) W (by omega) rfl);generalize ai s/2 ^ p%2 ^ k=n at *
   generalize ai s/2 ^ (p+k)%2=x at *
   generalize p2 k=PW at *
   have g:x*PW<=65536:=by rcases (show x=0∨x=1 by omega)with e|e<;>subst e<;>omega
   have e1:IntKind.i64.wrap ((x:Int)*(PW:Int))=((x*PW:Nat):Int):=by rw[←a1H];exact bw _ (by omega) (by omega)
   have e1':((x:Int)*(PW:Int))=((x*PW:Nat):Int):=by rw[←a1H]
   have z:(n:Int)<65536:=by omega
   have y:((x*PW:Nat):Int)<=65536:=by omega
   generalize E:x*PW=M at *
   clear E a I o m g v q;go_wp2_with fail;refine(ae f).mono ?_;rintro e x1 ⟨rfl,r,l⟩;go_wp2_with fail;refine(ae j _).mono ?_;rintro e x2 ⟨rfl,rfl⟩;go_wp2;go_roundw
   case rel=>exact⟨k+1,by omega,by go_num,by rw[ae t];go_num,r,d.trans l⟩
   case measure=>simp[intOf];omega
  .
   obtain rfl:k=c:=by have:=ae C;omega
   go_wp2;go_ret;exact⟨rfl,q,d⟩
theorem rest_step(V p j:Nat):(V/2 ^ p%2 ^ (j+1)=0)<->(V/2 ^ p%2 ^ j=0/\V/2 ^ (p+j)%2=0):=by
 rw[oK];have:=a1t j;constructor
 .
  intro h;have a:=Nat.eq_zero_of_add_eq_zero_right h;have h2:=Nat.eq_zero_of_add_eq_zero_left h;rcases Nat.mul_eq_zero.1 h2 with b|b
  . exact⟨a,b⟩
  . omega
 . rintro⟨a,h2⟩;rw[a,h2];simp
theorem xk(b p:Nat)(s:ByteArray)(w:World)(h:Rdr w b s p)(J:s.size<=2000000)(T:p<=8*s.size) :
  Calls prog 176 #[.pointer (some ⟨b,0,none⟩)] w fun e w'=>e = .returned (.bool (decide (ai s/2 ^ p%2 ^ ((8-p%8)%8)=0)))/\Rdr w' b s (p+(8-p%8)%8)/\aw b w w':=by
 have N:=af J;have E:(8-p%8)%8<=7:=by omega
 have F:(p+(8-p%8)%8)%8=0:=by omega
 have y:p+(8-p%8)%8<=8*s.size:=by omega
 have f:∀j,j<(8-p%8)%8->(p+j)%8≠0:=by omega
 have V:(s.size:Int)<=2000000:=by omega
 generalize (8-p%8)%8=c at *
 have B:=af y;clear J T y;go_enter func176,ntmps176;go_wp2_with fail
 go_loopw [3] (fun n wr=>∃k m:Nat,k<=c/\n = .int .i64 (m:Nat)/\m<=k/\(m=0<->ai s/2 ^ p%2 ^ k=0)/\Rdr wr b s (p+k)/\aw b w wr) (fun _ wr=>c+p-(match wr.cell? ⟨b,1,none⟩with|some (.int _ i)=>i.toNat|_=>0))
 case atStart=>exact⟨0,0,a0g _,rfl,a0a _,by simp[a1u],h,aw.refl _ _⟩
 case round=>
  obtain⟨k,m,I,rfl,v,u,z,d⟩:=hrel;clear h;have P:=z.at (by have:=ae B;omega);obtain⟨c0,c1,c2,f0,f1,f2,Q⟩:=P;have M:=af I;have r:=af u;have U:((p+k:Nat):Int)<=16000000:=by have:=ae B;omega
  clear u;by_cases g:k<c
  .
   have S:¬ ((p+k:Nat):Int)%8=0:=by have:=f k g;omega
   have G:=af (rest_step (ai s) p k);have K:ai s/2 ^ (p+k)%2<=1:=by omega
   have t:=af (kS b (p+k) s wr z (ae N));generalize ai s/2 ^ (p+k)%2=x at *
   have W:(x:Int)<=1:=by omega
   have R:(m:Int)<=7:=by omega
   have L:=af K;have A:=af v;have q:=af g;have C:=af (show p+k<8*s.size by have:=ae B;omega);clear f K I v g z F E;generalize a:p+k=pk at *
   have o:=af a;clear a;go_wp2_with fail;refine(ae t).mono ?_;rintro e x1 ⟨rfl,l,D⟩;go_wp2;go_roundw
   case rel=>exact⟨k+1,m+x,ae q,by go_num,by have:=ae A;have:=ae L;omega,by rw[ae G,←ae r];omega,by rw[←ae o]at l;exact l,d.trans D⟩
   case measure=>
    have O:=(l.at (by have:=ae C;omega)).2.1;rw[O,c1];have:=ae o;have:=ae q;simp;omega
  .
   obtain rfl:k=c:=by have:=ae M;omega
   have X:((p+k:Nat):Int)%8=0:=by omega
   generalize a:p+k=pk at *
   go_wp2;go_ret;refine⟨am ?_,by rw[a];exact z,d⟩;rw[show decide (ai s/2 ^ p%2 ^ k=0)=decide (m=0)from decide_eq_decide.2 (ae r).symm];rcases a2x m with H|H
   . subst H;rfl
   . rw[a0i (by omega)];first|(exact a0i (by omega))|(exact beq_false_of_ne (by omega))|(exact(by omega:False).elim)
end Go.Proofs.YtlpmnnjlmjffpaaGreatDoor
namespace Go.Proofs.YtlpmnnjlmjffpaaGreatDoor
open Go.Proofs.Tryz
open Go.RowKit Corb
variable {b p:Nat}{s:ByteArray}{w:World}
theorem Box.keep1{w':World}{P:Nat}{x y:Int}(h:Box w P x y)(a:aw b w w')(hb:P≠b):Box w' P x y:=by
 unfold Box at *
 rw[a.2 P (Array.getElem?_eq_some_iff.1 h).1 hb];exact h
theorem MY(n x k M:Nat)(d:n<p2 k)(g:x<=1)(c:k<=16)(a:x*p2 k=M):bits .or .i64 (n:Int) (M:Int)=((n+M:Nat):Int):=by
 have f:=rG k c;have b:M<=65536:=by
  rcases (show x=0∨x=1 by omega)with e|e<;>subst e<;>omega
 rw[nn n M (by omega) (by omega)]
 congr 1
 rw[Nat.or_comm];rw[nat_join k M n (by rw[←a];exact Nat.mul_mod_left _ _) d];omega
theorem tD(b p c:Nat)(num:Int)(s:ByteArray)(w:World)(h:Rdr w b s p)(B:s.size<=2000000)(z:c<=16) :
  Calls prog 262 #[.pointer (some ⟨b,0,none⟩),.agg #[.int .i64 num,.int .i64 (c:Int)]] w fun e w'=>e = .returned (.int .i64 (ai s/2 ^ p%2 ^ c:Nat))/\Rdr w' b s (p+c)/\aw b w w':=by
 have F:=af B;have G:(c:Int)<=16:=by omega
 have D:=af z;have q:=h.lt;have y:=h.alloc (.cells #[.int .i64 num,.int .i64 (c:Int)] 157);have j:aw b w (w.alloc (.cells #[.int .i64 num,.int .i64 (c:Int)] 157)):=(aw.refl _ _).alloc (by omega) _;clear B z h;go_enter func262,ntmps262;go_wp2_with fail
 go_loopw [5,6,9] (fun n _ i wr=>∃k:Nat,k<=c/\i = .int .i64 k/\n = .int .i64 (ai s/2 ^ p%2 ^ k:Nat)/\Rdr wr b s (p+k)/\aw b w wr) (fun _ _ i _=>c-(intOf i).toNat)
 case atStart=>exact⟨0,a0g _,rfl,by simp[a1u],y,j⟩
 case round=>
  obtain⟨k,A,rfl,rfl,t,d⟩:=hrel;clear y j;have E:=af A;by_cases q:k<c
  .
   have H:(k:Int)<(c:Int):=by omega
   have a:k<=16:=by have:=ae D;omega
   have v:Hid (ai s/2 ^ p%2 ^ (k+1)=ai s/2 ^ p%2 ^ k+ai s/2 ^ (p+k)%2*p2 k):=oK (ai s) p k;have m:ai s/2 ^ p%2 ^ k<p2 k:=a0W _ (a1t k);have C:ai s/2 ^ (p+k)%2<=1:=by omega
   have r:=rG k a;have g:=af (pQ b (p+k) s wr t (ae F));have f:=pO k;generalize ai s/2 ^ p%2 ^ k=n at *
   generalize ai s/2 ^ (p+k)%2=x at *
   have I:=MY n x k (x*p2 k) m C a rfl;have l:x*p2 k<=65536:=by rcases (show x=0∨x=1 by omega)with e|e<;>rw[e]<;>omega
   have e1':(x:Int)*2 ^ k=((x*p2 k:Nat):Int):=by rw[a1H,f]
   have e1:IntKind.i64.wrap ((x:Int)*2 ^ k)=((x*p2 k:Nat):Int):=by rw[e1'];exact bw _ (by omega) (by omega)
   generalize x*p2 k=M at *
   have e2:IntKind.i64.wrap (M:Int)=(M:Int):=bw _ (by omega) (by omega);have J:(k:Int)<=16:=by omega
   clear a C r l A t m f;go_wp2_with fail;refine(ae g).mono ?_;rintro e x1 ⟨rfl,u,o⟩;go_wp2;go_roundw
   case rel=>exact⟨k+1,by omega,by go_num,by rw[ae v];go_num,u,d.trans o⟩
   case measure=>simp[intOf];omega
  .
   obtain rfl:k=c:=by have:=ae E;omega
   go_wp2;go_ret;exact⟨rfl,t,d⟩
theorem MX(m x:Nat)(a:m<=1)(b:x<=1):∃y:Nat,bits .or .i64 (m:Int) (x:Int)=(y:Int)/\y<=1/\(y=0<->m=0/\x=0):=by
 refine⟨m ||| x,nn m x (by omega) (by omega),?_,?_⟩
 . rcases (show m=0∨m=1 by omega)with e|e<;>rcases (show x=0∨x=1 by omega)with f|f<;>subst e<;>subst f<;>decide
 . rcases (show m=0∨m=1 by omega)with e|e<;>rcases (show x=0∨x=1 by omega)with f|f<;>subst e<;>subst f<;>decide
theorem qL(b p:Nat)(s:ByteArray)(w:World)(h:Rdr w b s p)(M:s.size<=2000000)(W:p<=8*s.size) :
  Calls prog 119 #[.pointer (some ⟨b,0,none⟩)] w fun e w'=>e = .returned (.bool (decide (ai s/2 ^ p%2 ^ ((8-p%8)%8)=0)))/\Rdr w' b s (p+(8-p%8)%8)/\aw b w w':=by
 have Q:=af M;have H:(8-p%8)%8<=7:=by omega
 have I:(p+(8-p%8)%8)%8=0:=by omega
 have z:p+(8-p%8)%8<=8*s.size:=by omega
 have f:∀j,j<(8-p%8)%8->(p+j)%8≠0:=by omega
 have Y:(s.size:Int)<=2000000:=by omega
 generalize (8-p%8)%8=c at *
 have E:=af z;clear M W z;go_enter func119,ntmps119;go_wp2_with fail
 go_loopw [3] (fun n wr=>∃k m:Nat,k<=c/\n = .int .i64 (m:Nat)/\m<=1/\(m=0<->ai s/2 ^ p%2 ^ k=0)/\Rdr wr b s (p+k)/\aw b w wr) (fun _ wr=>c+p-(match wr.cell? ⟨b,1,none⟩with|some (.int _ i)=>i.toNat|_=>0))
 case atStart=>exact⟨0,0,a0g _,rfl,by omega,by simp[a1u],h,aw.refl _ _⟩
 case round=>
  obtain⟨k,m,L,rfl,v,u,C,d⟩:=hrel;clear h;have S:=C.at (by have:=ae E;omega);obtain⟨c0,c1,c2,f0,f1,f2,T⟩:=S;have P:=af L;have r:=af u;have X:((p+k:Nat):Int)<=16000000:=by have:=ae E;omega
  clear u;by_cases g:k<c
  .
   have U:¬ ((p+k:Nat):Int)%8=0:=by have:=f k g;omega
   have J:=af (rest_step (ai s) p k);have N:ai s/2 ^ (p+k)%2<=1:=by omega
   have t:=af (pQ b (p+k) s wr C (ae Q));generalize ai s/2 ^ (p+k)%2=x at *
   obtain⟨y,V,B,A⟩:=MX m x v N;have O:=af A;have D:=af B;have q:=af g;have F:=af (show p+k<8*s.size by have:=ae E;omega);clear f N L v g C I H A B;generalize a:p+k=pk at *
   have o:=af a;clear a;go_wp2_with fail;refine(ae t).mono ?_;rintro e x1 ⟨rfl,l,G⟩;go_wp2;go_roundw
   case rel=>exact⟨k+1,y,ae q,rfl,ae D,by rw[ae J,←ae r];exact ae O,by rw[←ae o]at l;exact l,d.trans G⟩
   case measure=>
    have R:=(l.at (by have:=ae F;omega)).2.1;rw[R,c1];have:=ae o;have:=ae q;simp;omega
  .
   obtain rfl:k=c:=by have:=ae P;omega
   have Z:((p+k:Nat):Int)%8=0:=by omega
   generalize a:p+k=pk at *
   go_wp2;go_ret;refine⟨am ?_,by rw[a];exact C,d⟩;rw[show decide (ai s/2 ^ p%2 ^ k=0)=decide (m=0)from decide_eq_decide.2 (ae r).symm];rcases a2x m with K|K
   . subst K;rfl
   . rw[a0i (by omega)];first|(exact a0i (by omega))|(exact beq_false_of_ne (by omega))|(exact(by omega:False).elim)
def dw(s:ByteArray)(p k:Nat):Int:=if p+k<=s.size then((wd s.data.toList p k:Nat):Int)else -1
theorem ge{k:Nat}(h:p+k<=s.size):dw s p k=((wd s.data.toList p k:Nat):Int):=a0e h
theorem xc{k:Nat}(h:¬ p+k<=s.size):dw s p k = -1:=a0d h
theorem ID(s:ByteArray)(i:Nat)(h:i<s.size):s.data.toList.getD i 0=s[i]:=by
 have a:i<s.data.toList.length:=by simpa using h
 rw[List.getD_eq_getElem?_getD,List.getElem?_eq_getElem a];rfl
theorem Ny(s:ByteArray){i:Nat}(k:Nat)(h:i<s.size):wd s.data.toList i (k+1)=256*wd s.data.toList (i+1) k+s[i].toNat:=by
 rw[Nv k (by simpa using h),ID s i h,a2p]
theorem Hh{X:Nat}{b:UInt8}(a:(X:Int)<16777216):wrap64 (256*(X:Int)+wrap64 (b.toNat:Int))=((256*X+b.toNat:Nat):Int):=by
 have:=b.toNat_lt;simp only[wrap64];omega
theorem dn(s:ByteArray)(p k:Nat)(w:World)(y:p<=4000000)(v:k<=4)(C:(s.size:Int)<=4611686018427387904) :
  CD 53 #[.string s,.int .i64 (p:Int),.int .i64 (k:Int)] w (.int .i64 (dw s p k)):=by
 have h:(k:Int)<=4:=by omega
 have z:(0:Int)<=(p:Int):=by omega
 have g:(0:Int)<=(k:Int):=by omega
 by_cases c:p+k<=s.size
 .
  rw[ge c];have d:(p:Int)+(k:Int)<=(s.size:Int):=by omega
  have r:=af c;clear c;go_enter func53,ntmps53;go_wp2_with fail
  go_loopw [7,8] (fun x i wr=>∃q j:Nat,q+j=k/\i = .int .i64 ((q:Int)-1)/\x = .int .i64 ((wd s.data.toList (p+q) j:Nat):Int)/\Below w.heap.size w wr) (fun _ i _=>(intOf i+1).toNat)
  case atStart=>exact⟨k,0,rfl,rfl,by simp[wd,cb],a0c _ _⟩
  case round=>
   obtain⟨q,j,e,rfl,rfl,b⟩:=hrel;have a:=af b;clear b;rcases q with _|q
   .
    obtain rfl:j=k:=by omega
    go_wp2;go_ret;exact⟨rfl,ae a⟩
   .
    have l:p+q<s.size:=by have:=ae r;omega
    have o:=af (Ny s j l);have u:wd s.data.toList (p+q+1) j<16777216:=a0j (EH _ _ _) (by
     have:8*j<=24:=by omega
     exact a0G (a0K (by decide) this) (by decide))
    have e1:((q+1:Nat):Int)-1=(q:Int):=by omega
    have e2:p+(q+1)=p+q+1:=rfl;rw[e1,e2];generalize wd s.data.toList (p+q+1) j=X at *
    have f:(X:Int)<16777216:=by omega
    have t:=af e;have A:(p:Int)+(q:Int)<(s.size:Int):=by omega
    have m:0<=(p:Int)+(q:Int):=by omega
    have n:(p:Int)+(q:Int)<=4611686018427387904:=by omega
    have B:(q:Int)<=4:=by omega
    clear u e1 e2 e d h g v y;go_wp2;go_roundw
    case rel=>exact⟨q,j+1,by have:=ae t;omega,by go_num,by rw[ae o,Hh f],ae a⟩
    case measure=>simp[intOf]
 .
  rw[xc c];have d:(s.size:Int)<(p:Int)+(k:Int):=by omega
  clear c;go_enter func53,ntmps53;go_wp2;go_ret;exact⟨rfl,a0c _ _⟩
theorem FK(s:ByteArray)(p:Int)(w:World)(a:p<0) :
  CD 53 #[.string s,.int .i64 p,.int .i64 2] w (.int .i64 (-1)):=by
 go_enter func53,ntmps53;go_wp2;go_ret;exact⟨rfl,a0c _ _⟩
def eF(w:World)(b:Nat)(s:ByteArray)(p:Nat):Prop:=Three w b (.string s) (.int .i64 (min p (8*s.size):Nat)) (.bool true)
theorem eF.before(h:eF w b s p)(a:p<8*s.size):Three w b (.string s) (.int .i64 (p:Int)) (.bool true):=by
 unfold eF at h;rwa[a1m (by omega)]at h
theorem eF.next(h:Three w b (.string s) (.int .i64 ((p:Int)+1)) (.bool true))(a:p<8*s.size):eF w b s (p+1):=by
 unfold eF;rwa[a1m (by omega)]
theorem eF.past(h:eF w b s p)(a:8*s.size<=p):Three w b (.string s) (.int .i64 (8*s.size:Nat)) (.bool true):=by
 unfold eF at h;rwa[a23 (by omega)]at h
theorem eF.bad(h:Three w b (.string s) (.int .i64 (8*s.size:Nat)) (.bool true))(a:8*s.size<=p):eF w b s (p+1):=by
 unfold eF;rwa[a23 (by omega)]
theorem eF.at(h:eF w b s p)(a:p<=8*s.size):Three w b (.string s) (.int .i64 (p:Int)) (.bool true):=by
 unfold eF at h;rwa[a1m (by omega)]at h
theorem eF.kept{w':World}(h:eF w b s p)(hb:Below (b+1) w w'):eF w' b s p:=Three.kept h hb
theorem eF.lt(h:eF w b s p):b<w.heap.size:=h.2.2.2.2.2.2
theorem eF.cut(h:eF w b s p):∃q,q<=8*s.size/\eF w b s q:=⟨min p (8*s.size),a3c _ _,by unfold eF at h ⊢;rw[a1m (a3c p (8*s.size))];exact h⟩
attribute [local go_sem ↓] Go.wp_at_zero Go.wp_at_succ
theorem rR(b p:Nat)(s:ByteArray)(w:World)(h:eF w b s p)(r:s.size<=2000000) :
  Calls prog 208 #[.pointer (some ⟨b,0,none⟩)] w fun e w'=>e = .returned (.int .i64 (ai s/2 ^ p%2:Nat))/\eF w' b s (p+1)/\aw b w w':=by
 have u:(s.size:Int)<=2000000:=by omega
 by_cases g:p<8*s.size
 .
  have d:=h.before g;have hq:p/8<s.size:=by omega
  have hb:=tq s p hq;generalize m:ai s/2 ^ p%2=N at *
  have l:=af g;have t:(p:Int)<8*(s.size:Int):=by omega
  have j:p2 (p%8)<=128:=oO (p%8) 7 (by omega);have i:=lK (p%8);have a:=af d;obtain⟨c0,c1,c2,f0,f1,f2,n⟩:=d;have c:(s[p/8]).toNat/p2 (p%8)%2=N:=hb;clear h m hb;obtain⟨Q,hQ⟩:∃Q,p/8=Q:=⟨_,rfl⟩;obtain⟨R,hR⟩:∃R,p%8=R:=⟨_,rfl⟩;simp only[hQ,hR]at c j i hq;have o:=(s[Q]).toNat_lt;generalize f:p2 R=PW at *
  have k:=af (fun W=>M4 R PW W (by omega) f);have e1:IntKind.i64.wrap (Q:Int)=(Q:Int):=bw _ (by omega) (by omega);have e2:(p:Int)/8=(Q:Int):=by omega
  have e3:(p:Int)%8=(R:Int):=by omega
  have e4:Int.tmod (p:Int) 8=(R:Int):=by rw[a14 (by omega)];exact e3
  have e5:(Q:Int)<(s.size:Int):=by omega
  have e6:(0:Int)<=(Q:Int):=by omega
  have q:(s[Q]).toNat/PW<=(s[Q]).toNat:=a2f _ _;have e7:((s[Q]).toNat:Int)/(PW:Int)=(((s[Q]).toNat/PW:Nat):Int):=by simp
  have e0:(0:Int)<=((s[Q]).toNat:Int)/(PW:Int)/\((s[Q]).toNat:Int)/(PW:Int)<=255:=by rw[e7];exact⟨a3A _,by omega⟩
  have e8:IntKind.i64.wrap (((s[Q]).toNat:Int)/(PW:Int))=((s[Q]).toNat:Int)/(PW:Int):=bw _ (by omega) (by omega);have e10:((s[Q]).toNat:Int)/(PW:Int)%2=(N:Int):=by rw[e7];exact_mod_cast c
  have e9:Int.tmod (((s[Q]).toNat:Int)/(PW:Int)) 2=(N:Int):=by rw[a14 e0.1];exact e10
  have e14:IntKind.i64.wrap ((s[Q]).toNat:Int)=((s[Q]).toNat:Int):=bw _ (by omega) (by omega);have e12:¬ PW=0:=by omega
  clear r g hQ hR f c q o j i e7 e0;go_enter a3B,a3C;go_wp2
  go_quiet (fail)
  go_wp2
  go_region_held3 (fun W=>W.cell? ⟨b,0,none⟩=some (.string s)/\W.cell? ⟨b,1,none⟩=some (.int .i64 (p:Int))) (first|exact⟨c0,c1⟩|assumption) (first|(go_at_call 249;refine(ae k _).mono ?_;rintro e w' ⟨rfl,rfl⟩))
  all_goals
   go_wp2;go_ret;exact⟨rfl,eF.next (by exact(ae a).set1 _) (ae l),iD _ _ _ _ _⟩
 .
  have d:=h.past (by omega);have a:=af d;have l:=af g;have m:=af (mD s p (by omega));obtain⟨c0,c1,c2,f0,f1,f2,n⟩:=d;rw[a1H]at c1;clear h g r;go_enter a3B,a3C;go_wp2
  go_quiet (fail)
  go_wp2;go_ret;exact⟨aP (by rw[ae m];rfl),eF.bad ((ae a).set2 _) (by have:=ae l;omega),iD _ _ _ _ _⟩
theorem Bj(b p c:Nat)(s:ByteArray)(w:World)(h:eF w b s p)(A:s.size<=2000000)(u:c<=16) :
  Calls prog 209 #[.pointer (some ⟨b,0,none⟩),.int .i64 (c:Int)] w fun e w'=>e = .returned (.int .i64 (ai s/2 ^ p%2 ^ c:Nat))/\eF w' b s (p+c)/\aw b w w':=by
 have D:=af A;have F:(c:Int)<=16:=by omega
 have B:=af u;clear A u;go_enter func209,ntmps209;go_wp2_with fail
 go_loopw [5,6] (fun n i wr=>∃k:Nat,k<=c/\i = .int .i64 k/\n = .int .i64 (ai s/2 ^ p%2 ^ k:Nat)/\eF wr b s (p+k)/\aw b w wr) (fun _ i _=>c-(intOf i).toNat)
 case atStart=>exact⟨0,a0g _,rfl,by simp[a1u],h,aw.refl _ _⟩
 case round=>
  obtain⟨k,v,rfl,rfl,q,d⟩:=hrel;clear h;have C:=af v;by_cases H:k<c
  .
   have G:(k:Int)<(c:Int):=by omega
   have a:k<=16:=by have:=ae B;omega
   have t:Hid (ai s/2 ^ p%2 ^ (k+1)=ai s/2 ^ p%2 ^ k+ai s/2 ^ (p+k)%2*p2 k):=oK (ai s) p k;have m:=JX (ai s) p k a;have I:ai s/2 ^ (p+k)%2<=1:=by omega
   have o:=rG k a;have f:=af (rR b (p+k) s wr q (ae D));have j:=af (fun W=>M4 k (p2 k) W (by omega) rfl);generalize ai s/2 ^ p%2 ^ k=n at *
   generalize ai s/2 ^ (p+k)%2=x at *
   generalize p2 k=PW at *
   have g:x*PW<=65536:=by rcases (show x=0∨x=1 by omega)with e|e<;>subst e<;>omega
   have e1:IntKind.i64.wrap ((x:Int)*(PW:Int))=((x*PW:Nat):Int):=by rw[←a1H];exact bw _ (by omega) (by omega)
   have e1':((x:Int)*(PW:Int))=((x*PW:Nat):Int):=by rw[←a1H]
   have z:(n:Int)<65536:=by omega
   have y:((x*PW:Nat):Int)<=65536:=by omega
   generalize E:x*PW=M at *
   clear E a I o m g v q;go_wp2_with fail;refine(ae f).mono ?_;rintro e x1 ⟨rfl,r,l⟩;go_wp2_with fail;refine(ae j _).mono ?_;rintro e x2 ⟨rfl,rfl⟩;go_wp2;go_roundw
   case rel=>exact⟨k+1,by omega,by go_num,by rw[ae t];go_num,r,d.trans l⟩
   case measure=>simp[intOf];omega
  .
   obtain rfl:k=c:=by have:=ae C;omega
   go_wp2;go_ret;exact⟨rfl,q,d⟩
theorem wm(b p:Nat)(s:ByteArray)(w:World)(h:eF w b s p)(J:s.size<=2000000)(T:p<=8*s.size) :
  Calls prog 176 #[.pointer (some ⟨b,0,none⟩)] w fun e w'=>e = .returned (.bool (decide (ai s/2 ^ p%2 ^ ((8-p%8)%8)=0)))/\eF w' b s (p+(8-p%8)%8)/\aw b w w':=by
 have N:=af J;have E:(8-p%8)%8<=7:=by omega
 have F:(p+(8-p%8)%8)%8=0:=by omega
 have y:p+(8-p%8)%8<=8*s.size:=by omega
 have f:∀j,j<(8-p%8)%8->(p+j)%8≠0:=by omega
 have V:(s.size:Int)<=2000000:=by omega
 generalize (8-p%8)%8=c at *
 have B:=af y;clear J T y;go_enter func176,ntmps176;go_wp2_with fail
 go_loopw [3] (fun n wr=>∃k m:Nat,k<=c/\n = .int .i64 (m:Nat)/\m<=k/\(m=0<->ai s/2 ^ p%2 ^ k=0)/\eF wr b s (p+k)/\aw b w wr) (fun _ wr=>c+p-(match wr.cell? ⟨b,1,none⟩with|some (.int _ i)=>i.toNat|_=>0))
 case atStart=>exact⟨0,0,a0g _,rfl,a0a _,by simp[a1u],h,aw.refl _ _⟩
 case round=>
  obtain⟨k,m,I,rfl,v,u,z,d⟩:=hrel;clear h;have P:=z.at (by have:=ae B;omega);obtain⟨c0,c1,c2,f0,f1,f2,Q⟩:=P;have M:=af I;have r:=af u;have U:((p+k:Nat):Int)<=16000000:=by have:=ae B;omega
  clear u;by_cases g:k<c
  .
   have S:¬ ((p+k:Nat):Int)%8=0:=by have:=f k g;omega
   have G:=af (rest_step (ai s) p k);have K:ai s/2 ^ (p+k)%2<=1:=by omega
   have t:=af (rR b (p+k) s wr z (ae N));generalize ai s/2 ^ (p+k)%2=x at *
   have W:(x:Int)<=1:=by omega
   have R:(m:Int)<=7:=by omega
   have L:=af K;have A:=af v;have q:=af g;have C:=af (show p+k<8*s.size by have:=ae B;omega);clear f K I v g z F E;generalize a:p+k=pk at *
   have o:=af a;clear a;go_wp2_with fail;refine(ae t).mono ?_;rintro e x1 ⟨rfl,l,D⟩;go_wp2;go_roundw
   case rel=>exact⟨k+1,m+x,ae q,by go_num,by have:=ae A;have:=ae L;omega,by rw[ae G,←ae r];omega,by rw[←ae o]at l;exact l,d.trans D⟩
   case measure=>
    have O:=(l.at (by have:=ae C;omega)).2.1;rw[O,c1];have:=ae o;have:=ae q;simp;omega
  .
   obtain rfl:k=c:=by have:=ae M;omega
   have X:((p+k:Nat):Int)%8=0:=by omega
   generalize a:p+k=pk at *
   go_wp2;go_ret;refine⟨am ?_,by rw[a];exact z,d⟩;rw[show decide (ai s/2 ^ p%2 ^ k=0)=decide (m=0)from decide_eq_decide.2 (ae r).symm];rcases a2x m with H|H
   . subst H;rfl
   . rw[a0i (by omega)];first|(exact a0i (by omega))|(exact beq_false_of_ne (by omega))|(exact(by omega:False).elim)
end Go.Proofs.YtlpmnnjlmjffpaaGreatDoor
namespace Go.Proofs.YtlpmnnjlmjffpaaGreatDoor
open Go.Proofs.Tryz
open Go.RowKit Corb
variable {l:List Int}{s:List UInt8}
theorem sB(a:Option Addr)(cap n:Nat)(l:List (Int×Int))(w:World)(c:l.length=n)(h:nc w a l)(b:n<=1000000000) :
  CD 117 #[.slice a n cap] w (.int .i64 (oI l)):=by
 subst c;exact gz a cap l w h b
theorem Rdr.over{w:World}{b p:Nat}{s:ByteArray}(h:Rdr w b s p)(a:8*s.size<p):Three w b (.string s) (.int .i64 (8*(s.size:Int))) (.bool true):=by
 unfold Rdr at h;rw[a23 (by omega),a0y (by omega)]at h;exact h
theorem yA(h:dY l=false∨4000<l.length):jq s l=false/\yz s l=[]:=by
 have a:jq s l=false:=by
  unfold jq;rcases h with h|h
  . simp[h]
  . simp;omega
 exact⟨a,a0d (by simp[a])⟩
theorem Jg(h:dY l=true)(a:l.length<=4000):jq s l=(decide (s.length=(fB l+7)/8)&&decide (cb s<2 ^ fB l)):=by
 simp[jq,h,a]
theorem Ml(h:jq s l=false):yz s l=[]:=a0d (by simp[h])
theorem Jf(h:jq s l=true):yz s l=dD (cb s) 0 l:=a0e h
theorem oR{v:Value}{a b:Bool}(h:a=b):Ending.returned (.tuple #[v,.bool a]) = .returned (.tuple #[v,.bool b]):=by rw[h]
def blank(l:List Int):List (Int×Int):=l.map fun b=>(0,b)
theorem lZ(l:List Int):(blank l).length=l.length:=by simp[blank]
theorem Gs(b:Int):pOk 0 b=inB b 0 16:=by
 rw[a2e,aR,aI];have:=lK b.toNat
 constructor
 . exact fun h=>h.1
 . exact fun h=>⟨h,by omega,by omega⟩
theorem IC(l:List Int):aY (blank l)=dY l:=by
 simp only[aY,dY,blank,List.all_map]
 congr 1
 funext b
 exact Gs b
theorem E5(l:List Int)(h:dY l=true):bK (blank l)=(fB l:Int):=by
 induction l with
 | nil=>rfl
 | cons b l ih=>
  have a:(0<=b/\b<=16)/\dY l=true:=by simpa[dY]using h
  have:=ih a.2;simp only[bK,blank,a0E,a0N]at this ⊢;rw[kh,this];omega
theorem Bn(l:List Int)(a:l.length<=4000):oI (blank l)=if dY l=true then(fB l:Int)else -1:=by
 unfold oI lOk;rw[IC,lZ];rcases hb:dY l with _|_
 . simp
 . simp[a,E5 l hb]
theorem Bo(l:List Int)(b:Int):blank (l++[b])=blank l++[(0,b)]:=by simp[blank]
theorem EZ(l:List Int)(k:Nat)(h:k<l.length):(blank l).getD k (0,0)=(0,l.getD k 0):=by
 simp[blank,List.getD,h]
theorem xC(b:Int)(w:World) :
  CD 116 #[.int .i64 b] w (.agg #[.int .i64 0,.int .i64 b]):=by
 go_enter func116,ntmps116;go_wp2;exact a0t (v:=.agg #[.int .i64 0,.int .i64 b]) (by simp[results,results116,go_sem]) rfl ⟨rfl,(a0c _ _).alloc (a0a _) _⟩
theorem Fj(a:Option Addr)(cap:Nat)(l:List Int)(w:World)(h:bu w a l)(G:l.length<=4000) :
  Calls prog 115 #[.slice a l.length cap,.func (.func 116) #[] #[]] w fun e w'=>∃v,e = .returned v/\Pcs w' w.heap.size v (blank l)/\Below w.heap.size w w':=by
 have F:=af G;have L:(l.length:Int)<=4000:=by omega
 clear G;obtain⟨i0,M,C,D,E⟩:=a0w Tryz.infoPiece;go_enter func115,ntmps115;go_wp2_with fail
 go_loopw [5,7,10] (fun o _ i wr=>∃k:Nat,k<=l.length/\i = .int .i64 k/\Pcs wr w.heap.size o (blank (l.take k))/\Below w.heap.size w wr) (fun _ _ i _=>l.length-(intOf i).toNat)
 case atStart=>exact⟨0,a0g _,rfl,a1A _ _ _ _,a0c _ _⟩
 case round=>
  obtain⟨k,I,rfl,hq,b⟩:=hrel;by_cases t:k<l.length
  .
   obtain⟨g,o,rfl,N,H⟩:=(h.later b) (by omega);have c0:=H k t;have B:=af (dL l k t);have s:Hid ((blank (l.take k)).length=k):=by show(blank (l.take k)).length=k;rw[lZ];simp;omega
   have K:=af I;clear H I h;generalize l.getD k 0=y at *
   go_wp2_with fail;refine(xC y _).mono ?_;rintro e x1 ⟨rfl,n⟩;have q:=Pcs.later hq n (a0a _);have c:=ak b n;have r:=c.size;clear hq b n;go_wp2_with (at_builtin;refine a0x _ rfl _ _ 154 rfl w.heap.size 157 i0 (.agg #[.int .i64 0,.int .i64 0]) 2 16 underlying154 M C D E rfl (by decide) _ _ _ rfl (a0n q _) ⟨x1.heap.size,0,none⟩ 1 1 [.int .i64 0,.int .i64 y] rfl rfl (by intro j u p;match j,p with | 0,p=>simp at p;subst p;simp[Addr.add] | 1,p=>simp at p;subst p;simp[Addr.add]) (by intro u J;simp at J;rcases J with rfl|rfl<;>rfl) (by have:=ae s;have:=ae F;unfold maxLen;omega) (by have:=ae s;have:=ae F;omega) (by simp;omega) ?_;intro v' x2 m d x;clear x);have A:=aE (v:=u5) d q (a0a _) r c;have z:=zT m;rw[←Bo,←ae B]at z;clear m d q;go_wp2;go_roundw
   case rel=>exact⟨k+1,by have:=ae K;omega,by go_num,z,A⟩
   case measure=>simp[intOf];omega
  . have f:l.take k=l:=a0A (by omega);rw[f]at hq;obtain⟨va,vc,rfl⟩:=hq.form;clear f h;go_wp2;go_ret;exact⟨_,rfl,hq,b⟩
theorem Gh(a:Addr)(w:World):(method 499 160 (.pointer (some a)) "loop.example/corbel/impl.pass").run prog w = .ok (262,.pointer (some a)) w:=by kernel_rfl
theorem Fl(b:Nat)(s:ByteArray)(a:Option Addr)(cap:Nat)(l:List Int)(w:World)(h:nc w a (blank l))(hbo:dY l=true)(h4:l.length<=4000)(hs:s.size<=2000000)(hr:Rdr w b s 0)(hb:∀g o,a=some ⟨g,o,none⟩->0<l.length->g<b) :
  Calls prog 146 #[.slice a l.length cap,.func (.method "loop.example/corbel/impl.pass") #[.iface 160 (.pointer (some ⟨b,0,none⟩))] #[]] w fun e w'=>
   ∃v,e = .returned v/\ay w' (b+1) v (dD (ai s) 0 l)/\Rdr w' b s (fB l)/\Below b w w':=by
 have Hbo:=af hbo;have H4:=af h4;have Hs:=af hs;have h4':(l.length:Int)<=4000:=by omega
 have hbl:=lZ l;clear hbo h4 hs;obtain⟨i0,hi,hz0,hz1,hz2⟩:=a0w Tryz.infoInt;have mp:=Gh ⟨b,0,none⟩;have Hb:=af hb;clear hb;go_enter func146,ntmps146;go_wp2_with fail
 go_loopw [5,7,10] (fun o _ i wr=>∃k:Nat,k<=l.length/\i = .int .i64 k/\ay wr (b+1) o (dD (ai s) 0 (l.take k))/\Rdr wr b s (fB (l.take k))/\Below b w wr) (fun _ _ i _=>l.length-(intOf i).toNat)
 case atStart=>exact⟨0,a0g _,rfl,ay.nil _ _,hr,a0c _ _⟩
 case round=>
  obtain⟨k,hk,rfl,hown,hrr,hbel⟩:=hrel;have hrl:=hrr.lt;by_cases hlt:k<l.length
  .
   obtain⟨g,o,rfl,hg,hc⟩:=h (by omega);have hgb:=ae Hb g o rfl (by omega);have hck:=hc k (by omega);rw[EZ l k hlt]at hck;have c0:=(hbel.cell (p:=⟨g,o+k*2,none⟩) hgb).trans hck.1;have c1:=(hbel.cell (p:=⟨g,o+k*2+1,none⟩) hgb).trans hck.2;have htk:=af (dL l k hlt);have hrd:=af (xi (ai s) 0 (l.take k) [l.getD k 0]);have hsu:=af (qO (l.take k) [l.getD k 0]);have hlk:Hid ((dD (ai s) 0 (l.take k)).length=k):=by show(dD (ai s) 0 (l.take k)).length=k;rw[vA];simp;omega
   obtain⟨y0,y1⟩:=Bm (ae Hbo) k hlt;have HK:=af hk;clear hc hk h hr hck hbl;generalize l.getD k 0=y at *
   obtain⟨c,rfl⟩:=a0r y0;go_wp2_with fail;refine(tD b (fB (l.take k)) c 0 s _ (hrr.alloc _) (ae Hs) (by omega)).mono ?_;rintro e x1 ⟨rfl,hr1,hk1⟩;have hown1:ay x1 (b+1) u5 (dD (ai s) 0 (l.take k)):=hk1.own (a0n hown _) (a0p _);have hbel1:=(hbel.alloc (a0C hrl) (.cells #[.int .i64 0,.int .i64 (c:Int)] 157)).trans hk1.1;have hr1l:=hr1.lt;generalize hX:ai s/2 ^ fB (l.take k)%2 ^ c=X at *
   have HX:=af hX;clear hX hown hrr hbel hk1;go_wp2_with (at_builtin;refine a0x _ rfl _ _ 65 rfl (b+1) 3 i0 (.int .i64 0) 1 8 a0I hi hz0 hz1 hz2 rfl (by decide) _ _ _ rfl (a0n hown1 _) ⟨x1.heap.size,0,none⟩ 1 1 [.int .i64 (X:Int)] rfl rfl (by intro j u hj;match j,hj with | 0,hj=>simp at hj;subst hj;simp[Addr.add]) (by intro u hu;simp at hu;subst hu;rfl) (by have:=ae hlk;have:=ae H4;unfold maxLen;omega) (by have:=ae hlk;have:=ae H4;omega) (by simp;omega) ?_;intro v' x3 hown hgrow hnil;clear hnil);have hr3:Rdr x3 b s (fB (l.take k)+c):=hr1.kept (aE (v:=u5) hgrow hown1 (a0a _) (by omega) (a0c _ _));have hbel3:Below b w x3:=aE (v:=u5) hgrow hown1 (a1e _) (by omega) hbel1;have hown3:=uX hown;clear hown hgrow hown1 hr1 hbel1;go_wp2;go_roundw
   case rel=>
    refine⟨k+1,by have:=ae HK;omega,by go_num,?_,?_,hbel3⟩
    . rw[ae htk,ae hrd];simp only[dD,a0J,a0l];rw[ae HX];exact hown3
    . rw[ae htk,ae hsu];simp only[fB,a0E,a2i,a0N,List.sum_nil,a0l,a1l];exact hr3
   case measure=>simp[intOf];omega
  . have hlk2:l.take k=l:=a0A (by omega);rw[hlk2]at hown hrr;obtain⟨va,vc,rfl⟩:=hown.form;clear hlk2 h hr;go_wp2;go_ret;exact⟨_,rfl,hown,hrr,hbel⟩
theorem G9(b:Nat)(s:ByteArray)(a:Option Addr)(cap:Nat)(l:List Int)(w:World)(h:nc w a (blank l))(f:dY l=true)(j:l.length<=4000)(m:s.size<=2000000)(k:Rdr w b s 0)(hb:∀g o,a=some ⟨g,o,none⟩->0<l.length->g<b) :
  Calls prog 118 #[.iface 160 (.pointer (some ⟨b,0,none⟩)),.slice a l.length cap] w fun e w'=>
   ∃v,e = .returned v/\ay w' (b+1) v (dD (ai s) 0 l)/\Rdr w' b s (fB l)/\Below b w w':=by
 go_enter func118,ntmps118;go_wp2_with fail;refine(Fl b s a cap l _ h f j m k hb).mono ?_;rintro e w1 ⟨v,rfl,c,i,d⟩;obtain⟨va,vc,rfl⟩:=c.form;go_wp2;go_ret;exact⟨_,rfl,c,i,d⟩
theorem rf(s:ByteArray)(a:Option Addr)(cap:Nat)(l:List Int)(w:World)(h:bu w a l)(hs:s.size<=2000000)(hl:l.length<=2000000) :
  Calls prog 84 #[.string s,.slice a l.length cap] w fun e w'=>∃v,e = .returned (.tuple #[v,.bool (jq s.data.toList l)])/\ay w' w.heap.size v (yz s.data.toList l)/\Below w.heap.size w w':=by
 have ac:(l.length:Int)<=2000000:=by omega
 have Y:=af hs;clear hs hl;by_cases S:l.length<=4000
 .
  have V:(l.length:Int)<=4000:=by omega
  have G:=af S;have C:=af (Bn l S);have j:=af (lZ l);go_enter func84,ntmps84;go_wp2_with fail;refine(Fj a cap l _ h (ae G)).mono ?_;rintro e x1 ⟨v,rfl,hq,J⟩;obtain⟨va,vc,rfl⟩:=hq.formN (ae j);have u:=hq.rowN (ae j);clear h S;go_wp2_with fail;refine(sB va vc l.length (blank l) _ (ae j) u (by have:=ae G;omega)).mono ?_;rintro e x2 ⟨rfl,A⟩;rw[ae C];have O:=hq.later A (a0a _);have d:=O.rowN (ae j);have c:=ak J A;have Q:=af c.size;clear u J A hq;rcases k:dY l with _|_
  .
   have b:=af (yA (s:=s.data.toList) (a0s k));rw[a0d (by simp)];go_wp2
   go_ret2
   refine⟨_,oR (ae b).1.symm,?_,c⟩;rw[(ae b).2];exact ay.nil _ _
  .
   have U:=af k;have n:=af (Jg (s:=s.data.toList) k (ae G));have P:s.data.toList.length=s.size:=by simp
   have X:=Nk k;have hS:(fB l:Int)<=64000:=by have:=ae G;omega
   have aa:(0:Int)<=(fB l:Int):=by omega
   have r:=af (Db s.data.toList (fB l));rw[P]at n r;rw[a0e rfl];have x:=af (Jf (s:=s.data.toList) (l:=l));have t:=af (Ml (s:=s.data.toList) (l:=l));have Z:cb s.data.toList=ai s:=rfl;rw[Z]at n r x;clear k X P Z;generalize hm:fB l=m at *
   have Hm:=af hm;clear hm;by_cases he:(s.size:Int)=((m:Int)+7)/8
   .
    have L:s.size=(m+7)/8:=by omega
    have I:=M6 x2 s 162;have z:Below x2.heap.size x2 (x2.alloc (.cells #[.string s,.int .i64 0,.bool false] 162)):=(a0c _ _).alloc (a0a _) _;have q:=d.later z;have M:∀g o,va=some ⟨g,o,none⟩->0<l.length->g<x2.heap.size:=by
     intro g o e h0;obtain⟨g',o',e',ab,_⟩:=d (by rw[ae j];exact h0);rw[e]at e';simp only[a0k,a0F,a03]at e';omega
    have R:=af L;have HG:=af M;clear L M d;go_wp2_with fail;refine(G9 x2.heap.size s va vc l _ q (ae U) (ae G) (ae Y) I (ae HG)).mono ?_;rintro e x3 ⟨v,rfl,p,E,K⟩;have f:=ak c (z.trans K);rw[ae Hm]at E;clear I z q K c O;obtain⟨va',vc',rfl⟩:=p.form;go_wp2_with fail;refine(qL x2.heap.size m s _ E (ae Y) (by have:=ae R;omega)).mono ?_;rintro e x4 ⟨rfl,W,B⟩;have D:=B.own p (a0p _);have i:=f.trans (B.1.mono (ae Q));clear p E W B f;by_cases F:ai s/2 ^ m%2 ^ ((8-m%8)%8)=0
    .
     rw[a0y F];have N:jq s.data.toList l=true:=by
      rw[ae n,a0y (ae R),a0y ((ae r (ae R)).1 F)];rfl
     have H:=af N;clear N F;go_wp2
     go_ret2
     refine⟨_,oR (ae H).symm,?_,i⟩;rw[ae x (ae H)];exact ay.mono D (Nat.le_succ_of_le (ae Q))
    .
     rw[a0i F];have b:jq s.data.toList l=false:=by
      rw[ae n,a0i (fun h=>F ((ae r (ae R)).2 h))];simp
     have y:=af b;have T:=af (ae t b);clear b F;go_wp2
     go_ret2
     refine⟨_,oR (ae y).symm,?_,i⟩;rw[ae T];exact ay.nil _ _
   .
    have b:jq s.data.toList l=false:=by
     rw[ae n,a0i (by omega)];rfl
    have ad:((s.size:Int) != ((m:Int)+7)/8)=true:=by simpa using he
    have y:=af b;have T:=af (ae t b);clear b;go_wp2
    go_ret2
    refine⟨_,oR (ae y).symm,?_,c⟩;rw[ae T];exact ay.nil _ _
 .
  have b:=af (yA (s:=s.data.toList) (l:=l) (Or.inr (by omega)));have V:4000<(l.length:Int):=by omega
  clear S;go_enter func84,ntmps84;go_wp2
  go_ret2
  refine⟨_,oR (ae b).1.symm,?_,a0c _ _⟩;rw[(ae b).2];exact ay.nil _ _
def bitsOf(l:List (Int×Int)):List Int:=l.map (·.2)
def numsOf(l:List (Int×Int)):List Int:=l.map (·.1)
theorem zX(V p q:Nat)(l:List Int):dD V (p+q) l=dD (V/2 ^ p) q l:=by
 induction l generalizing q with
 | nil=>rfl
 | cons b l ih=>
  simp only[dD];rw[a10,←a0P,←ih,a1U]
theorem GA(l:List (Int×Int))(W:Nat)(h:aY l=true):dD ((aX l).1+W*2 ^ (aX l).2) 0 (bitsOf l)=numsOf l:=by
 induction l generalizing W with
 | nil=>rfl
 | cons p l ih=>
  have a:pOk p.1 p.2=true/\aY l=true:=by simpa[aY]using h
  obtain⟨⟨d,e⟩,n0,n1⟩:=aR.1 a.1;have e1:aX [p]=(p.1.toNat,p.2.toNat):=by simp[aX,mR,gU]
  have e2:aX (p :: l)=(p.1.toNat+(aX l).1*2 ^ p.2.toNat,p.2.toNat+(aX l).2):=by
   rw[show p :: l=[p]++l from rfl,lW,e1]
  have b:p.1.toNat<2 ^ p.2.toNat:=by
   have:((p2 p.2.toNat:Nat):Int)=((2 ^ p.2.toNat:Nat):Int):=rfl;omega
  have c:(aX (p :: l)).1+W*2 ^ (aX (p :: l)).2=p.1.toNat+((aX l).1+W*2 ^ (aX l).2)*2 ^ p.2.toNat:=by
   rw[e2];simp only;rw[a0P,a1y,a1U]
   congr 2
   rw[a1q (2 ^ p.2.toNat),a1P]
  rw[c];show((((p.1.toNat+((aX l).1+W*2 ^ (aX l).2)*2 ^ p.2.toNat)/2 ^ 0%2 ^ p.2.toNat:Nat):Int)) :: dD _ (0+p.2.toNat) (bitsOf l)=p.1 :: numsOf l;rw[Nat.pow_zero,Nat.div_one,Nat.add_mul_mod_self_right,a0U b];rw[show 0+p.2.toNat=p.2.toNat+0 by omega,zX,Nat.add_mul_div_right _ _ (a1t _),a11 b,a0J,ih W a.2]
  congr 1
  omega
theorem GM{l:List (Int×Int)}(h:aY l=true):fB (bitsOf l)=(aX l).2:=by
 have b:=vU l h;have h2:(fB (bitsOf l):Int)=bK l:=by
  clear b;induction l with
  | nil=>rfl
  | cons p l ih=>
   have a:pOk p.1 p.2=true/\aY l=true:=by simpa[aY]using h
   obtain⟨⟨c,d⟩,_⟩:=aR.1 a.1;have:=ih a.2;simp only[bitsOf,a0E,bK,a0N]at this ⊢;rw[kh];omega
 omega
theorem Lm{l:List (Int×Int)}(h:lOk l=true):cb (rl l)=(aX l).1:=by
 have a:aY l=true:=by simp only[lOk,a0h]at h;exact h.1
 rw[fy h,cm,gi,a0U];exact a0j (xq l a) (a0K (by omega) (by omega))
end Go.Proofs.YtlpmnnjlmjffpaaGreatDoor
